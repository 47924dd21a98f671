import PyProof.Rows.All
import Wide.All
import OpenK.AllK
import Wide.FinOn
import Lean
import PyProof.EqAt
import PyProof.EqKinds
import PyProof.TupleCall
import PyProof.NeData
import PyProof.ZipIter
import PyProof.EnumMake
import PyProof.EnumFor
import KE.KMinKey
import KE.KUnpack
import KE.KNestM
import PyProof.AssignAttr
import KE.KSortTup
import PyProof.ListRange
import PyProof.CollectWalk
import KE.KIntText
import PyProof.Rows.StrSplitAre
import PyProof.Rows.StrJoin2
import PyProof.StrWalks
import PyProof.StrLawsChain
import PyProof.StrLawsTight
import PyProof.Rows.StrItems
import PyProof.Rows.ReprOcc
import KE.KLam
import PySem.Challenge.RW_rimhouse_k38_lists_of_ones_own
set_option Elab.async false
set_option compiler.extract_closed false
set_option genSizeOf false
set_option maxHeartbeats 16000000
set_option linter.all false
set_option maxRecDepth 100000
noncomputable section
open Option renaming some->av,none->bh
open List renaming length->bx
open Array renaming append_assoc->sM,length_toList->lO,toList->sQ,getD->bI,getD_eq_getD_getElem?->Sc,getElem?_toList->qW
open Bool renaming false_ne_true->cX,eq_iff_iff->iD,or_false->mG,and_eq_true->fQ,false_eq_true->uT,or_eq_true->qY,eq_false_iff->eN,and_true->Rw,not_not->xO,not_eq_true'->yL
open Char renaming toNat->rP
open Classical renaming byContradiction->lF,propDecidable->xU,choose_spec->Pi
open False renaming elim->eD
open ForInStep renaming yield->oB
open Iff renaming rfl->pC
open Int renaming mul_one->jF,fdiv_eq_ediv_of_nonneg->sZ,toNat_natCast->cF,le_of_lt->cC,gcd->rT,natCast_nonneg->vS,le_of_dvd->wG,dvd_mul_of_dvd_left->wH,mul_ediv_cancel_left->wI,mul_nonneg->eO,mul_neg->fT,mul_ediv_cancel'->wJ,mul_dvd_mul_left->wK,natAbs_mul->rV,natAbs_dvd_natAbs->wL,mul_comm->bX,eq_of_mul_eq_mul_right->rW,mul_pos->gJ,le_refl->dL,mul_add->kZ,mul_sub->lC,mul_assoc->cG,add_mul->fG,mul_zero->cW,one_mul->lE,sub_mul->pA,neg_mul->iJ,zero_mul->gY,mul_eq_zero->pB,mul_le_mul->wZ,mul_le_mul_of_nonneg_right->fH,add_zero->gK,mul_le_mul_of_nonneg_left->jU,le_of_mul_le_mul_right->mW,le_trans->xA,zero_add->lH,emod_nonneg->fN,emod_lt_of_pos->eG,toNat_of_nonneg->sA,lt_of_le_of_lt->pI,natAbs_neg->iV,eq_ofNat_of_zero_le->jZ,ofNat_dvd_left->nB,add_sub_cancel->xG,lt_irrefl->aAF
open List renaming getElem?_eq_none_iff->sL,range->aW,mem_filter->lI,filterMap_cons->pY,mem_cons_self->cY,mem_cons_of_mem->bZ,mem_cons->bH,mem_append->bJ,mem_append_left->fW,getElem?_eq_some_iff->cA,getElem?_set_self->eK,getElem?_set_ne->dP,set_comm->kJ,mem_filterMap->nK,mem_append_right->eL,size_toArray->bY,length_cons->eM,lookup->iS,map_cons->cS,length_map->aH,append_nil->fP,nodup_cons->nU,of_mem_zip->nV,replicate->aQ,length->iT,length_take->cI,getElem?_append_right->dU,getElem?_replicate->gD,getElem?_append_left->dH,getElem?_map->aP,getElem?_take_of_lt->tM,mem_of_getElem?->bK,length_append->aX,length_replicate->bP,length_drop->eJ,length_set->eE,all_cons->uE,any_cons->jM,replicate_succ->eZ,flatten_cons->gE,foldl->jN,append_assoc->dC,length_singleton->fR,nil_append->gG,map_nil->jY,forIn_cons->oA,lookup_cons->eU,mem_singleton->cJ,cons_append->fD,all_eq_true->fE,getD_eq_getElem?_getD->bA,getElem?_eq_getElem->aS,forIn_nil->qZ,getElem_of_mem->rB,mem_range->fF,getElem_mem->eF,any_eq_true->mK,take_succ_eq_append_getElem->vA,sum_append->vB,take_of_length_le->fZ,getElem?_eq_none->bW,length_pos_iff->vC,getElem?_range->cU,take_succ->rC,map_append->bQ,not_mem_nil->dJ,zipIdx_cons->vX,zipIdx_nil->vY,forIn_toArray->hX,zipWith->cV,ext_getElem?->dR,length_zipWith->jS,take_length->wO,filter_append->wS,length_filter_le->oX,drop_zero->oY,range_succ_eq_map->wT,map_map->bC,length_nil->lD,mem_map->aY,map_congr_left->fM,drop_eq_getElem_cons->wU,take_append_drop->wV,getElem?_drop->wW,set_set->wX,length_range->gZ,mem_or_eq_of_mem_set->pD,map_set->rZ,getElem?_zipWith->mX,range_succ->pE,mem_set->xE,map_take->pG,map_drop->pH,mem_replicate->lL,mem_of_mem_drop->fK,sum_cons->dW,zipWith_cons_cons->eW,take_succ_cons->xH,drop_succ_cons->xI,eq_nil_of_length_eq_zero->lM,dropLast_concat_getLast->xJ,map->xK,take_left'->pK,take_take->xL,getElem?_of_mem->iL,map_id->xS,drop_left'->xT,mem_of_mem_take->fV,any_map->lN,filterMap_append->aAC,nodup_range->Sa,ext_getElem->Tl,getElem_range->Cb,map_eq_nil_iff->rR,mem_flatten->yC
open List.Pairwise renaming nil->Ai,map->aAB
open List.Perm renaming refl->Ty
open List.cons renaming inj->kS
open Nat renaming lt_of_lt_of_le->bS,lt_irrefl->dO,ne_of_lt->dB,le_trans->bF,le_of_lt->gQ,ne_of_gt->gR,le_refl->aT,zero_le->dM,lt_succ_self->jJ,le_succ->lW,succ_mul->mI,mul_comm->qX,le_of_not_lt->uV,lt_of_le_of_lt->gU,lt_succ_of_lt->mJ,lt_of_succ_le->uU,log2_lt->mO,le_add_right->kW,min_eq_left->jT,mul_le_mul->rY,strongRecOn->vP,pow_succ->wY,le_antisymm->xB,pow_le_pow_right->lG,not_lt_zero->xC,sub_self->gL,pow_add->xF,add_assoc->sB,add_sub_cancel_left->gO,pow_lt_pow_right->xM,pow_pos->sC,lcm->nA,mul_le_mul_right->pJ,max_le->kA,min_le_left->sF,add_le_add_right->kC,add_sub_cancel->Th,add_lt_add->aAA,toDigits->jQ,digitChar->vQ,toDigits_ne_nil->vR,min_eq_right->yE
open Ne renaming symm->bV
open Option renaming getD_none->uC,none->uS,getD_some->iG,map_some->jV,map_eq_some_iff->fL
open Option.some renaming inj->bD
open Or renaming inl->aI,inr->fY
open PyProof.Rows renaming IsTup->gP,AllBare->jC,Constant_none->sN,isTrue_plain->sP,assignInOrder_nil->sR,assignInOrder_cons->qD,callWith_type1->nJ,floordiv_int->sY,envOfC->dQ,callWith_builtin1->zQ,subscriptTail_builtinR->tZ,IntsAre->Do,JoinedStr_many->rH,joinParts_cons->kP,FormattedValue_plain->oG,formatField_int_small->oH,joinParts_nil->rJ,IsTupIter->iU,slot_tupleiter_next->oP,entry_tupleiter_next->vT,args_tupleiter_next->vU,get?_update_seq->wP,callWith_kw->Ak,envOfC->cD,boot_list->fJ,boot_range->xD,boot_int->lJ,boot_max->pF,boot_min->mY,boot_tuple->hU,boot_sum->xR,joinParts_nilE->vL,joinParts_consE->oM,boot_isinstance->gB,boot_bool->An,boot_all->xV,boot_any->xN,getElem?_bubble->Da,listUpdate_at->hW,listItems_at->Tm,formatField_str->vO,boot_str->iB,part_short->Ao,split_weight->xX
open PyProof.Rows.Boot renaming abs->Al
open PyProof.Rows.IsTup renaming new->nD
open PySem renaming Str->aC,Addr->aA,Value->aE,Paired->aZ,Heap->aJ,Program->aM,World->aL,Within->pW,Around->aV,Shared->aG,Scope->cQ,Model->jD,Expr->aR,Stmt->aO,wpAny_mono->eY,wpAny_Name->pZ,wpAny_truthy_bool->gC,wpAny_execs_nil->lP,wpAny_execs_cons->qA,wpAny_assign_Name->qC,wpAny_bind->aN,wpAny_holding->iP,wpAny_standAt->iQ,wpAny_pure->bG,wpAny_newObj_type->lQ,wpAny_rule->lR,wpAny_bindName->sS,PassesOwn->qG,wpAny_passesOwn->jE,wpAny_load->nE,wpAny_pyIter_list->nF,wpAny_pyIter_tuple->sT,rangeSize_one->sV,call_range_1->sW,intBits_le_64->sX,CmpOp->lS,sizeLine_eq->bE,wpAny_loadPart->tF,Result->jH,FuncData->aK,BindsTo->lU,wpAny_call->lV,codeAny_mono->nR,wpAny_Call_Name_kw->jK,Keyword->lX,NameKind->jL,name_of_addr->tL,mem_of_lookup->lY,Arguments->kO,codeAny_call_function->tN,wpAny_newFunctionEnv_cells->tQ,codeAny_func->tR,concat_meets->tS,noFill_tuple_add->tT,seq_tuple_add->tU,evalPart_none->tY,seqIndex_of->qQ,seqIndex_neg->qR,typeIs_str->mD,call_list_seq->uG,PlainAttrs->qS,call_meets->gF,fitsIndex_both->uM,wpAny_binaryOp_repeat_ref->uN,typeIs_int->nX,Params->gN,call->Fa,pushCells_keeps->uX,eval_ListComp->uY,wpAny_comprehension_free->oC,exec_Assign_Name_used->uZ,PyData->dI,ZipApart->jO,strLen_append->kQ,int_text_length_le->oJ,ofString_length->oK,wpAny_callSpecial?_slot->oO,wpAny_call_entry->oQ,wpAny_field->gA,wpAny_seqItems->gX,wpAny_setField->vV,IsPair->dN,wpAny_setField_rec->kU,Builtin->iH,wpAny_onRaise->mV,wpAny_updateSeq_pair->rS,wpAny_letGo->jR,Fin->oF,IsEnumOut->mH,wpAny_attempt->wA,IsZip->eV,wpAny_pyIter_zip->wE,wpAny_pyIter_enum->wF,codeAny_builtin->rE,wpAny_tryCatch->kY,wpAny_updateSeq->rX,wpAny_evalAll_cons->wR,Paired->bR,boot_len->bB,DictEntry->mZ,textFrom_length_pos->Cn,piled_cons->oZ,Str->dZ,numbered_texts->vM,intText_digits->xQ,Pos->pM
open PySem.Around renaming under->qK,frames_deeper->qP,under_plainId->wN
open PySem.AutoListH renaming list___mul___list_int_3->Ah
open PySem.Builtin.Builtins renaming bindParams->wQ
open PySem.Builtin.Int renaming intBits->vE
open PySem.Builtin.List renaming listTooLong->qV,listExtendWith->Wp
open PySem.Builtin.Range renaming rangeSize->sU,small->Uf
open PySem.Builtin.SmallTypes renaming nextOf->gH,ownedTupleIsFree->oR,ownedTupleHandOut->vZ,calledThroughType->Ps
open PySem.Builtin.Str renaming occurrences->jG
open PySem.Calls renaming Name_function_global->sO,callWith_builtin->uH,evalArgs_plain->uI
open PySem.CmpOf renaming ints_lt->vD
open PySem.Code renaming frames->tK,isFrame->qL
open PySem.Data renaming dict->Ix
open PySem.DictEntry renaming refKey->tD
open PySem.Env renaming kindOf->uW
open PySem.F renaming slot_tuple_add->tV,entry_tuple_add->tW,args_tuple_add_2->tX,fills_int_mul->uO,slot_int_rmul->nY,slot_int_index->uP,entry_int_rmul->uQ,args_int_rmul_2->uR,slot_enumerate_next->cL,entry_enumerate_next->Re,args_enumerate_next_1->Rs,slot_zip_next->oS,entry_zip_next->wB,args_zip_next_1->wC,entry_min_loop->wM,plain_min_loop->kX,plainAttrs_list->iK,slot_list_append->jW,type_list_append->jX,slot_bool_lt->Sy,plain_list_iadd->Tk,slot_str_split->rL,entry_str_split->rN,args_str_split_2->rO,plainAttrs_str->eP,slot_str_join->hZ,type_str_join->iA,slot_str_split->iW,type_str_split->iX
open PySem.Heap renaming lt_size->bN,SameBut->kH,get?_push_of_some->bL,get?_push_size->dG,size_push->gS,get?_update_self->uA,get?_update_other->uB,FlyingW->vH,ExtBut->mU
open PySem.Heap.IsSliceOf renaming new->zR
open PySem.Heap.SameBut renaming update->mS
open PySem.IsL renaming update->Ag
open PySem.NameKind renaming free->fC,cell->iF
open PySem.NumText renaming digitsVal->rQ,digitsVal->Am,AllDigits->xP
open PySem.Obj renaming mapSeq->gT,data_mapFields->vW
open PySem.Paired renaming length->dE
open PySem.PassesOwn renaming never->hO
open PySem.PyData renaming eqv->cK,int->gM,canLayAll0->cP,canLay0->fU,eqvAll->hV,depth->iY,depthAll->iC,shownAll->qB,shown->dD,showableAll->qT,hasDictAll->Ca,showable->kD,hasDict->kL,list->aD
open PySem.SeqAt renaming EqAt->uD,in_listAt->uF,readOf->xW
open PySem.SeqAt.EqAt renaming same->zS,none_bool->zT,none_int->zU,none_str->zV,bool_none->zW,bool_bool->zX,bool_int->zY,bool_str->zZ,int_none->Aa,int_bool->Ab,int_int->Ac,int_str->sI,str_none->Ad,str_bool->Ae,str_int->sJ,str_str->Af
open PySem.Shared renaming heap->wD
open PySem.Str renaming empty->eI,ofString->cN,length_append->eR,join->cO,mk->oN
open PySem.StrLaws renaming join_split->mQ,join_length_le->sD
open PySem.Txt renaming split->aU,join->vN
open PySem.Value renaming none->iN,bool->pT,int->iM,str->jB,ref->cZ,type->pV
open PySem.Value.ref renaming inj->rG
open PySem.W renaming instObj->iO,hideAll_get->vJ,Frag->aF,lookIn->nL,plainGet->kK,hasDictIn->lT,findIn->bO,handedIn->tE,plainGet_of->qH,isFn->qI,plainOver->nN,takerIn->qJ,makesIn->nQ,emptyDict->iR,specialIn->tG,keepIn->dX,kitOne->bU,kia_one->fX,kitx_list->tH,callWith_K->kM,methodCall_KW->qM,cellsFrom_some->qO,fnOf->iE,codeIn->lZ,codeRec_of->tO,OpenLaw->Ev,Frag->fA,findIn->iI,kla_obj->oU,CodeHd->oV,tabObj->oW,KeysLit->lK,nsIn->bM,tabObj->Db,codeHdIn->No,codeHd_of_K->On,kitx_tuple->tI,kas_asc->mM,kas_desc->oT,kas_rev->cR,kas_descPart->Sj,kas_place->Bi,kas_bin->fB,kat_cons->Kn,kat_yes->Op,keepIn->pR
open PySem.W.KasT renaming kasWp_bind->cE,kasWp->Sk
open PySem.W.WData renaming int->Fk
open PySem.W.WShape renaming has->Go
open PySem.Walks renaming list->rA
open PySem.Within renaming cons->zP
open True renaming intro->jI
namespace L2
open PySem PySem.Spec PyProof.Rows
abbrev Key:=Sum Int aC
inductive V where
 |non|bl (b:Bool)|int (i:Int)|str (x:aC)|ref (a:aA)|ty (n:String)
 deriving DecidableEq
def RelV:V->aE->Prop
 |.non,u=>u=iN
 |.bl b,u=>u=pT b
 |.int i,u=>∃t,u=iM i t
 |.str x,u=>∃t,u=jB x t
 |.ref a,u=>u=cZ a
 |.ty n,u=>u=pV n
abbrev Vals:List V->List aE->Prop:=aZ RelV
def Vals.length(r:Vals xs us):bx xs=bx us:=dE r
theorem Vals.get:∀{xs}{us}{i:Nat}{x},Vals xs us->xs[i]?=av x->∃u,us[i]?=av u/\RelV x u
 |_,_,_,_,.nil,e=>by simp at e
 |_,_,0,_,.cons r _,e=>by simp at e;subst e;exact⟨_,rfl,r⟩
 |_,_,i+1,x,.cons _ t,e=>by
  obtain⟨u,h1,h2⟩:=Vals.get t (by simpa using e);exact⟨u,by simpa using h1,h2⟩
theorem Vals.set(r:RelV x u):∀{xs}{us}i,Vals xs us->Vals (xs.set i x) (us.set i u)
 |_,_,_,.nil=>.nil
 |_,_,0,.cons _ t=>.cons r t
 |_,_,i+1,.cons q t=>.cons q (Vals.set r i t)
theorem Vals.append:∀{xs ys}{us ws},Vals xs us->Vals ys ws->Vals (xs++ys) (us++ws)
 |_,_,_,_,.nil,s=>s
 |_,_,_,_,.cons r t,s=>.cons r (Vals.append t s)
theorem Vals.take:∀{xs}{us}n,Vals xs us->Vals (xs.take n) (us.take n)
 |_,_,0,_=>.nil
 |_,_,_+1,.nil=>.nil
 |_,_,n+1,.cons r t=>.cons r (Vals.take n t)
theorem Vals.drop:∀{xs}{us}n,Vals xs us->Vals (xs.drop n) (us.drop n)
 |_,_,0,r=>r
 |_,_,_+1,.nil=>.nil
 |_,_,n+1,.cons _ t=>Vals.drop n t
theorem Vals.none_of:∀{xs}{us}{i:Nat},Vals xs us->xs[i]?=bh->us[i]?=bh:=λ{xs us i}r e=>by
 have h1:=r.length;have h2:xs.length<=i:=sL.mp e;exact sL.mpr (by lia)
def uj:Option V->Option aE->Prop
 |some v,av u=>RelV v u
 |none,bh=>True
 |_,_=>False
def kV:Key->V
 |.inl i=>.int i
 |.inr x=>.str x
inductive HO where
 |lst (xs:List V)
 |tup (xs:List V)
 |ins (C dx:aA) (fs:List (aC×V))
 |own (x:aA)
 |zt (lo hi:Int)
 |Bw (o:Obj) (u:HO)
 |my (ps:Array aE)
 |ext (φ:aJ->Prop)
abbrev Hp:=aA->Option HO
def upd(H:Hp)(a:aA)(o:HO):Hp:=λb=>if b=a then av o else H b
theorem ae:upd H a o a=av o:=by unfold upd;rw[if_pos rfl]
theorem j3(h:b≠a):upd H a o b=H b:=by unfold upd;rw[if_neg h]
theorem Ju:upd (upd H a o) a u=upd H a u:=by
 funext b;unfold upd;split<;>rfl
theorem J7{H:Hp}(h:H a=av o)(h':H b=av u)(d:o≠u):a≠b:=by
 intro e;subst e;rw[h] at h';exact d (bD h')
theorem i7{H:Hp}(h:H a=av o)(h':H b=bh):a≠b:=by lia
section
variable(P:aM)(w:aL)
def dh(H:Hp)(h:aJ)(a:aA):HO->Prop
 |.lst xs=>bx xs<=sizeLine/\∃cx n,Vals xs cx/\h.get? a=av {cls:=.type "list",data:=.seq cx.toArray n}
 |.tup xs=>bx xs<=sizeLine/\∃cx,Vals xs cx/\gP h a cx.toArray
 |.ins C dx fs=>H dx=av (.own a)/\bx fs<=1000/\dx≠a/\h.get? a=av (iO C dx)/\
   ∃mA,h.Ns1 dx mA/\(∀f,uj (fs.lookup f) (mA f))/\pW mA (fs.map (·.1))
 |.own _=>∃o,h.get? a=av o
 |.zt lo hi=>∃t u v,h.get? a=av {cls:=.type "range",data:=.fields #[.int lo t,.int hi u,.int 1 v]}
 |.Bw o u=>h.get? a=av o/\dh H h a u
 |.my ps=>h.get? a=av {cls:=.none,data:=.fields ps}
 |.ext φ=>φ h/\(∃o,h.get? a=av o)/\∀h1 h2,φ h1->(∀o,h1.get? a=av o->h2.get? a=av o)->φ h2
def mz(H:Hp)(h:aJ):Prop:=∀a o,H a=av o->dh H h a o
end
section
variable{P:aM}{w:aL}{H H':Hp}{h h':aJ}{a:aA}{o:HO}
theorem dh.lt(x:dh H h a o):a<h.objs.size:=by
 cases o with
 |lst xs=>obtain⟨_,_,_,_,e⟩:=x;exact bN e
 |tup xs=>obtain⟨_,_,_,p⟩:=x;exact p.lt
 |ins C dx fs=>obtain⟨_,_,_,e,_⟩:=x;exact bN e
 |own y=>obtain⟨_,e⟩:=x;exact bN e
 |zt lo hi=>obtain⟨_,_,_,e⟩:=x;exact bN e
 |Bw ob u=>obtain⟨e,_⟩:=x;exact bN e
 |my ps=>exact bN (show h.get? a=av _ from x)
 |ext φ=>obtain⟨_,⟨_,e⟩,_⟩:=x;exact bN e
theorem aZ.Jv:∀{eX}{gi:List β},aZ F eX gi->(∀a b,F a b->G a b)->aZ G eX gi
 |_,_,.nil,_=>.nil
 |_,_,.cons r t,f=>.cons (f _ _ r) (aZ.Jv t f)
def aZ.imp'{G:α->β->Prop}(f:∀a b,F a b->G a b)(r:aZ F eX gi):aZ G eX gi:=aZ.Jv r f
theorem dh.rf(x:dh H h a o)(k:∀b u,(b=a\/H b=av (.own a))->h.get? b=av u->h'.get? b=av u)
  (ho:∀b,H b=av (.own a)->H' b=av (.own a)) (ht:∀b xs,H b=av (.tup xs)->H' b=av (.tup xs)):dh H' h' a o:=by
 induction o with
 |lst xs=>obtain⟨z,cx,n,r,e⟩:=x;exact⟨z,cx,n,r,k _ _ (.inl rfl) e⟩
 |tup xs=>obtain⟨z,cx,r,ob,e,c⟩:=x;exact⟨z,cx,r,ob,k _ _ (.inl rfl) e,c⟩
 |ins C dx fs =>
  obtain⟨d,z,ne,e,mA,⟨od,es,ep,e2,c⟩,r⟩:=x;exact⟨ho _ d,z,ne,k _ _ (.inl rfl) e,mA,⟨od,es,ep,k _ _ (.inr d) e2,c⟩,r⟩
 |own y=>obtain⟨ob,e⟩:=x;exact⟨ob,k _ _ (.inl rfl) e⟩
 |zt lo hi=>obtain⟨t,u,v,e⟩:=x;exact⟨t,u,v,k _ _ (.inl rfl) e⟩
 |Bw ob u ih=>obtain⟨e,q⟩:=x;exact⟨k _ _ (.inl rfl) e,ih q⟩
 |my ps =>
  have e:=x;exact k a _ (.inl rfl) e
 |ext φ=>obtain⟨p,⟨o,e⟩,st⟩:=x;exact⟨st _ _ p λo q=>k _ _ (.inl rfl) q,⟨o,k _ _ (.inl rfl) e⟩,st⟩
def mz.lt(x:mz H h)(e:H a=av o):a<h.objs.size:=(x a o e).lt
theorem mz.fresh(x:mz H h)(e:h.objs.size<=a):H a=bh:=by
 cases q:H a with
 |none=>rfl
 |some u=>exact absurd (bS (x.lt q) e) (dO _)
def mz.kept(x:mz H h)(k:∀b u,h.get? b=av u->h'.get? b=av u):mz H h':=λa o e =>
 (x a o e).rf (λb u _ q=>k b u q) (λ_ q=>q) λ_ _ q=>q
theorem mz.laid(x:mz H h)(k:∀b u,h.get? b=av u->h'.get? b=av u)(hp:h.objs.size<=a)(new:dh (upd H a o) h' a o):mz (upd H a o) h':=λb u e=>by
 have hn:=x.fresh hp;by_cases hb:b=a
 ·subst hb;rw[ae] at e;cases e;exact new
 ·rw[j3 hb] at e;exact(x b u e).rf (λc v _ q=>k c v q) (λc q=>by rw[j3 (i7 q hn)];exact q) λc xs q=>by rw[j3 (i7 q hn)];exact q
end
def Rd(H:Hp)(a:aA)(u:HO):Prop:=H a=av u\/∃o,H a=av (.Bw o u)
theorem Rd.ok(r:Rd H a u)(x:mz H h):dh H h a u:=by
 rcases r with r|⟨o,r⟩
 ·exact x a u r
 ·obtain⟨_,q⟩:=x a _ r;exact q
def PL:Option HO->Prop
 |some (.lst _)=>True
 |some (.ins _ _ _)=>True
 |some (.ext _)=>True
 |_=>False
theorem mz.write(ok:mz H h)(mu:PL (H x))(he:e=x\/H e=av (.own x))(k:∀b u,b≠e->h.get? b=av u->h'.get? b=av u)(Ll:∃u,h'.get? e=av u)
  (new:dh (upd H x o') h' x o'):mz (upd H x o') h':=λb u q=>by
 have MQ:∀c y,H c=av (.own y)->c≠x:=λc y r z=>by subst z;rw[r] at mu;exact mu
 have Td:∀c xs,H c=av (.tup xs)->c≠x:=λc xs r z=>by subst z;rw[r] at mu;exact mu
 by_cases hb:b=x
 ·subst hb;rw[ae] at q;cases q;exact new
 ·rw[j3 hb] at q;by_cases Jw:b=e
  ·have q':H b=av (.own x):=by
    rcases he with z|z
    ·exact absurd (Jw.trans z) hb
    ·rw[Jw];exact z
   rw[q] at q';cases q';obtain⟨v,hv⟩:=Ll;exact⟨v,by rw[Jw];exact hv⟩
  ·refine(ok b u q).rf (λc v hc r=>k c v ?_ r) (λc r=>by rw[j3 (MQ c b r)];exact r) λc xs r=>by rw[j3 (Td c xs r)];exact r
   rcases hc with rfl|hc
   ·exact Jw
   ·rintro rfl;rcases he with z|z
    ·exact MQ c b hc z
    ·rw[hc] at z;cases z;exact hb rfl
structure Un(fs ex:List aA)(H H':Hp)(h h':aJ):Prop where
 keep:∀b o,h.get? b=av o->H b=bh->b ∉ fs->b ∉ ex->h'.get? b=av o
 slot:∀b o,h.get? b=av o->H b=bh->b∈fs->b ∉ ex->∃sl,h'.get? b=av {o with slots:=sl}
 free:∀b o,h.get? b=av o->H b=bh->b ∉ ex->H' b=bh
 there:∀b o,h.get? b=av o->b ∉ ex->∃o',h'.get? b=av o'
 pj:∀b xs,H b=av (.tup xs)->H' b=av (.tup xs)
 pw:∀b o u,H b=av (.Bw o u)->H' b=av (.Bw o u)
 pz:∀b ps,H b=av (.my ps)->∃more,H' b=av (.my (ps++more))
section
variable{fs fs' ex ex':List aA}{H H1 H2:Hp}{h h1 h2 h':aJ}{a x e:aA}{o:HO}
theorem Un.any(u:Un fs ex H H1 h h1)(q:h.get? b=av ob)(n:H b=bh)(hx:b ∉ ex):∃sl,h1.get? b=av {ob with slots:=sl}:=by
 by_cases hb:b∈fs
 ·exact u.slot b ob q n hb hx
 ·exact⟨ob.slots,u.keep b ob q n hb hx⟩
theorem Un.kept(k:∀b u,h.get? b=av u->h'.get? b=av u):Un fs ex H H h h' :=
 ⟨λb ob q _ _ _=>k b ob q,λb ob q _ _ _=>⟨ob.slots,k b ob q⟩,λ_ _ _ n _=>n,λb ob q _=>⟨ob,k b ob q⟩,λ_ _ q=>q,λ_ _ _ q=>q,λ_ ps q=>⟨#[],by rw[q];simp⟩⟩
def Un.refl:Un fs ex H H h h:=Un.kept λ_ _ q=>q
theorem Un.laid(k:∀b u,h.get? b=av u->h'.get? b=av u)(hp:h.objs.size<=a)(hn:H a=bh):Un fs ex H (upd H a o) h h' where
 keep:=λb u q _ _ _=>k b u q
 slot:=λb u q _ _ _=>⟨u.slots,k b u q⟩
 free:=λb u q n _=>by rw[j3 (dB (bS (bN q) hp))];exact n
 there:=λb u q _=>⟨u,k b u q⟩
 pj:=λb xs q=>by rw[j3 (i7 q hn)];exact q
 pw:=λb u xs q=>by rw[j3 (i7 q hn)];exact q
 pz:=λb ps q=>⟨#[],by rw[j3 (i7 q hn),q];simp⟩
theorem Un.write(mu:PL (H x))(he:e=x\/H e=av (.own x))(k:∀b u,b≠e->h.get? b=av u->h'.get? b=av u)(Ll:∃u,h'.get? e=av u):Un fs ex H (upd H x o) h h':=by
 have hx:∀b,H b=bh->b≠x:=λb n z=>by subst z;rw[n] at mu;exact mu
 have hb:∀b,H b=bh->b≠e:=λb n z=>by
  subst z;rcases he with r|r
  ·exact hx b n r
  ·rw[n] at r;cases r
 have hm:∀b u,H b=av u->¬PL (av u)->b≠x:=λb u q nm z=>by subst z;rw[q] at mu;exact nm mu
 refine⟨λb u q n _ _=>k b u (hb b n) q,λb u q n _ _=>⟨u.slots,k b u (hb b n) q⟩,λb u q n _=>by rw[j3 (hx b n)];exact n,λb u q _=>?_,
  λb xs q=>by rw[j3 (hm b _ q λz=>z)];exact q,λb u xs q=>by rw[j3 (hm b _ q λz=>z)];exact q,λb ps q=>⟨#[],by rw[j3 (hm b _ q λz=>z),q];simp⟩⟩
 by_cases Jw:b=e
 ·subst Jw;exact Ll
 ·exact⟨u,k b u Jw q⟩
end
def F_(h:aJ)(H:Hp):List aA:=(aW h.objs.size).filter λa=>(H a).isSome
def rF(h:aJ)(H:Hp):aJ:=W.hideAll h (F_ h H)
def c6X h H:(rF h H).objs.size=h.objs.size:=W.hideAll_size _ _
theorem c6Z(e:h.get? b=av o)(n:H b=bh):(rF h H).get? b=av o :=
 vJ _ e λhm=>by
  have q:=(lI.mp hm).2;rw[n] at q;simp at q
theorem c7a(e:(rF h H).get? b=av o):h.get? b=av o/\H b=bh:=by
 have e':=W.of_hideAll (F_ h H) e;refine⟨e',?_⟩;cases q:H b with
 |none=>rfl
 |some x =>
  have hm:b∈F_ h H:=lI.mpr ⟨List.mem_range.mpr (bN e'),by simp[q]⟩;have z:(rF h H).get? b=bh:=W.hideAll_none (F_ h H) hm;rw[z] at e;cases e
def b4q(g h:aJ)(L:aA):List (aA×Obj):=(aW h.objs.size).filterMap λa=>if a=L\/(g.get? a).isSome=true then bh else (h.get? a).map λo=>(a,o)
def rest(g h:aJ)(L d:aA):List (aA×Obj):=(b4q g h L).filter λp=>decide (p.1≠d)
structure Mod(K:aF)(mg:aC->Option aE)(base:aJ):Prop where
 zu:K.In base
 glob:base.Ns mainGlobals mg
 blt:∃mb,base.Ns builtinsNs mb/\∀x:aC,x≠"__name__"->mb x=bootBuiltins x
 nolimit:base.NoLimit
structure Cx where
 prog:aM
 w:aL
 K:aF
 mg:aC->Option aE
 base:aJ
 A:aV
 N:List aC
 s₀:aG
 H₀:Hp
 env:Env
 outer:List Env
 stack:List Env
 ex:List aA
 fn:aC->Bool
 calm:Bool
 pn:List (aA×Obj)
 xe:aE->aG->Prop
def uk(l:List Env):List aA:=l.filterMap (·.frame)
abbrev Cx.fs(X:Cx):List aA:=uk X.outer
def Te(sc:cQ)(x:aC):Prop:=sc.names.lookup x=av .local\/sc.names.lookup x=av .cell\/sc.names.lookup x=av .free
def Loc(sc:cQ)(x:aC):Prop:=sc.names.lookup x=av .local\/sc.names.lookup x=av .cell
def c0n(env:Env)(h:aJ)(m:aC->Option aE)(x:aC)(u:aE):Prop :=
 (env.kindOf x=av .local/\m x=av u)\/((env.kindOf x=av .cell\/env.kindOf x=av .free)/\∃c,env.cells.lookup x=av c/\h.IsCell c (av u))
structure Cx.Ok(X:Cx):Prop where
 mod:Mod X.K X.mg X.base
 kind:X.env.scope.kind=.function
 glob:X.env.globals=mainGlobals
 blt:X.env.builtins=builtinsNs
 above:X.s₀.heap.objs.size<=X.env.locals
 inj:∀x y c,X.env.cells.lookup x=av c->X.env.cells.lookup y=av c->x=y
 has:∀x,(X.env.kindOf x=av .cell\/X.env.kindOf x=av .free)->∃c,X.env.cells.lookup x=av c
 Gs:∀x c,X.fn x=true->X.env.cells.lookup x=av c->X.s₀.heap.objs.size<=c
 hd:X.calm=true->X.A.handled=bh
 frames:X.A.frames=av X.stack
 GX:X.stack=X.outer\/(X.stack=X.env::X.outer/\X.env.frame=av X.env.locals)
 GY:∀b∈X.ex,b≠X.env.locals/\∀x c,X.env.cells.lookup x=av c->c≠b
 bs:∀b o,X.base.get? b=av o->X.s₀.heap.get? b=av o/\X.H₀ b=bh
 xw:X.base.objs.size<=X.s₀.heap.objs.size
 um:∀b o,X.base.get? b=av o->b ∉ X.ex
 uo:∀b∈X.ex,b ∉ X.fs
 gx:X.s₀.heap.FunFrames X.base X.outer
 Cj:∀b∈X.fs,X.H₀ b=bh
structure Inv(X:Cx)(bz:List (aA×Obj))(σ:List (Option V))(H:Hp)(s:aG):Prop where
 ok:X.Ok
 os:s.os=X.s₀.os
 bare:jC s.gens
 base:Un X.fs X.ex X.H₀ H X.s₀.heap s.heap
 loc:∃m,s.heap.Ns X.env.locals m/\∀(i:Nat)(x:aC)(v:V),X.N[i]?=av x->σ[i]?=av (av v)->Te X.env.scope x->∃u,RelV v u/\c0n X.env s.heap m x u
 cell:∀x c,X.env.cells.lookup x=av c->∃v,s.heap.IsCell c v
 free:H X.env.locals=bh
 ee:∀x c,X.env.cells.lookup x=av c->H c=bh
 pin:∀p∈X.pn++bz,s.heap.get? p.1=av p.2/\H p.1=bh/\p.1≠X.env.locals/\p.1 ∉ X.fs/\∀v,p.2.data≠.cell v
 ck:mz H s.heap
 len:bx σ=bx X.N
section
variable{X:Cx}{bz:List (aA×Obj)}{σ:List (Option V)}{H H':Hp}{s:aG}{h':aJ}
theorem Cx.Ok.Tf(ok:X.Ok)(e:X.base.get? b=av o):b ∉ X.fs:=λhb=>by
 have:=(ok.gx.mem hb).1;rw[e] at this;cases this
def Inv.bs(I:Inv X bz σ H s):∀b o,X.base.get? b=av o->s.heap.get? b=av o/\H b=bh:=λb o e =>
 ⟨I.base.keep b o (I.ok.bs b o e).1 (I.ok.bs b o e).2 (I.ok.Tf e) (I.ok.um b o e),I.base.free b o (I.ok.bs b o e).1 (I.ok.bs b o e).2 (I.ok.um b o e)⟩
def Inv.bk(I:Inv X bz σ H s):∀b o,X.base.get? b=av o->s.heap.get? b=av o:=λb o e=>(I.bs b o e).1
def Inv.mod(I:Inv X bz σ H s):Mod X.K X.mg X.base:=I.ok.mod
def Inv.ix(I:Inv X bz σ H s):X.K.In s.heap:=I.ok.mod.zu.keeps I.bk
def Inv.nolimit(I:Inv X bz σ H s):s.heap.NoLimit:=I.ok.mod.nolimit.keeps I.bk
def Inv.fr(I:Inv X bz σ H s):∃m,Fr X.base X.env.locals s.heap m :=
 let ⟨m,hn,_⟩:=I.loc
 ⟨m,hn,I.bk,bF I.ok.xw I.ok.above⟩
def Inv.lt(I:Inv X bz σ H s):X.env.locals<s.heap.objs.size:=let ⟨_,hn,_⟩:=I.loc;hn.lt
def Inv.sz(I:Inv X bz σ H s):X.s₀.heap.objs.size<=s.heap.objs.size:=bF I.ok.above (gQ I.lt)
theorem Inv.Jx(I:Inv X bz σ H s){a:aA}(h:s.heap.objs.size<=a):a ∉ X.fs:=λhb=>by
 obtain⟨_,o,ho,_⟩:=I.ok.gx.mem hb;exact absurd (bS (bN ho) (bF I.sz h)) (dO _)
theorem Inv.ED(I:Inv X bz σ H s):∀x c,X.env.cells.lookup x=av c->c≠X.env.locals:=λx c e z=>by
 obtain⟨v,o,ho,hd⟩:=I.cell x c e;obtain⟨m,⟨o',es,ep,mj,zw,_⟩,_⟩:=I.loc;rw[z,mj] at ho;cases ho;rw[zw] at hd;cases hd
theorem Inv.gx(I:Inv X bz σ H s):s.heap.FunFrames X.base X.outer:=by
 have all:∀l,(∀b∈uk l,b∈X.fs)->X.s₀.heap.FunFrames X.base l->s.heap.FunFrames X.base l:=by
  intro l;induction l with
  |nil=>intro _ _;trivial
  |cons env r ih =>
   intro hs hl;obtain⟨hk,⟨L,o,hf,hn,ho,hd⟩,hr⟩:=hl;have hL:=hs L (by unfold uk;rw[pY,hf];exact cY);obtain⟨sl,e⟩:=I.base.slot L o ho (I.ok.Cj L hL) hL λz=>I.ok.uo L z hL;exact⟨hk,⟨L,_,hf,hn,e,hd⟩,ih (λb hb=>hs b (by unfold uk;rw[pY,hf];exact bZ _ hb)) hr⟩
 exact all X.outer (λ_ hb=>hb) I.ok.gx
theorem Inv.stack(I:Inv X bz σ H s):s.heap.FunFrames X.base X.stack:=by
 rcases I.ok.GX with e|⟨e,hf⟩
 ·rw[e];exact I.gx
 ·rw[e];obtain⟨m,hn,_⟩:=I.loc;exact .cons (by rw[I.ok.kind];decide) hf hn (Heap.get?_none_of_le (bF I.ok.xw I.ok.above)) I.gx
theorem Inv.rg(I:Inv X bz σ H s):∀b∈uk X.stack,b∈X.env.locals::X.fs:=λb hb=>by
 rcases I.ok.GX with e|⟨e,hf⟩
 ·rw[e] at hb;exact bZ _ hb
 ·rw[e] at hb;unfold uk at hb;rw[pY,hf] at hb;exact hb
theorem Inv.qm(I:Inv X bz σ H s):∀b∈uk X.stack,H b=bh:=λb hb=>by
 rcases bH.mp (I.rg b hb) with e|hb
 ·rw[e];exact I.free
 ·obtain⟨_,o,ho,_⟩:=I.ok.gx.mem hb;exact I.base.free b o ho (I.ok.Cj b hb) λz=>I.ok.uo b z hb
theorem Inv.step{ch:List aA}(I:Inv X bz σ H s)
  (Gu:∀b∈ch,(b∈X.ex\/X.s₀.heap.objs.size<=b)/\b≠X.env.locals/\(∀x c,X.env.cells.lookup x=av c->c≠b)/\∀p∈X.pn++bz,p.1≠b)
  (keep:∀b o,b≠X.env.locals->b ∉ X.fs->b ∉ ch->s.heap.get? b=av o->H b=bh->h'.get? b=av o)
  (slot:∀b o,b≠X.env.locals->b∈X.fs->b ∉ ch->s.heap.get? b=av o->H b=bh->∃sl,h'.get? b=av {o with slots:=sl}) (free:∀b o,b ∉ ch->s.heap.get? b=av o->H b=bh->H' b=bh)
  (there:∀b o,b ∉ ch->s.heap.get? b=av o->∃o',h'.get? b=av o')
  (pj:∀b xs,H b=av (.tup xs)->H' b=av (.tup xs)) (pw:∀b o u,H b=av (.Bw o u)->H' b=av (.Bw o u)) (pz:∀b ps,H b=av (.my ps)->∃more,H' b=av (.my (ps++more)))
  (ns:∀m,s.heap.Ns X.env.locals m->h'.Ns X.env.locals m) (ck:mz H' h') (hg:jC g') :
  Inv X bz σ H' {s with heap:=h',gens:=g',drawn:=d',toks:=t'}:=by
 have neL:∀b o,X.s₀.heap.get? b=av o->b≠X.env.locals:=λb o e=>dB (bS (bN e) I.ok.above);have PM:∀b o,X.s₀.heap.get? b=av o->b ∉ X.ex->b ∉ ch:=λb o e hx hb=>by
  rcases(Gu b hb).1 with z|z
  ·exact hx z
  ·exact absurd (bS (bN e) z) (dO _)
 have cellK:∀x c,X.env.cells.lookup x=av c->∀v,s.heap.IsCell c v->h'.IsCell c v:=λx c e v ⟨o,ho,hd⟩=>by
  have MR:=λz=>(Gu c z).2.2.1 x c e rfl;by_cases hc:c∈X.fs
  ·obtain⟨sl,q⟩:=slot c o (I.ED x c e) hc MR ho (I.ee x c e);exact⟨_,q,hd⟩
  ·exact⟨o,keep c o (I.ED x c e) hc MR ho (I.ee x c e),hd⟩
 refine⟨I.ok,I.os,hg,⟨λb o e n hb hx=>keep b o (neL b o e) hb (PM b o e hx) (I.base.keep b o e n hb hx) (I.base.free b o e n hx),λb o e n hb hx=>?_,λb o e n hx=>?_,λb o e hx=>?_,λb xs e=>pj b xs (I.base.pj b xs e),λb o xs e=>pw b o xs (I.base.pw b o xs e),λb ps e=>?_⟩,?_,λx c e=>?_,?_,λx c e=>?_,λp hp=>?_,ck,I.len⟩
 ·obtain⟨sl,e1⟩:=I.base.slot b o e n hb hx;obtain⟨Tg,e2⟩:=slot b _ (neL b o e) hb (PM b o e hx) e1 (I.base.free b o e n hx);exact⟨Tg,e2⟩
 ·obtain⟨o',e1⟩:=I.base.there b o e hx;exact free b o' (PM b o e hx) e1 (I.base.free b o e n hx)
 ·obtain⟨o',e1⟩:=I.base.there b o e hx;exact there b o' (PM b o e hx) e1
 ·obtain⟨m1,e1⟩:=I.base.pz b ps e;obtain⟨m2,e2⟩:=pz b _ e1;exact⟨m1++m2,by rw[e2,sM]⟩
 ·obtain⟨m,hn,hl⟩:=I.loc;refine⟨m,ns m hn,λi x v e1 e2 e3=>?_⟩;obtain⟨u,r,l⟩:=hl i x v e1 e2 e3;refine⟨u,r,?_⟩;rcases l with l|⟨k,c,e,z⟩
  ·exact .inl l
  ·exact .inr ⟨k,c,e,cellK x c e _ z⟩
 ·obtain⟨v,z⟩:=I.cell x c e;exact⟨v,cellK x c e v z⟩
 ·obtain⟨m,⟨o,_,_,ho,_⟩,_⟩:=I.loc;exact free _ o (λz=>(Gu _ z).2.1 rfl) ho I.free
 ·obtain⟨v,o,ho,hd⟩:=I.cell x c e;exact free c o (λz=>(Gu c z).2.2.1 x c e rfl) ho (I.ee x c e)
 ·obtain⟨e,n,ne,nf,d⟩:=I.pin p hp;have MR:=λz=>(Gu p.1 z).2.2.2 p hp rfl;exact⟨keep p.1 p.2 ne nf MR e n,free p.1 p.2 MR e n,ne,nf,d⟩
theorem Inv.un(I:Inv X bz σ H s)(u:Un X.fs [] H H' s.heap h')(ck:mz H' h'):Inv X bz σ H' {s with heap:=h',toks:=t'}:=by
 obtain⟨m,⟨o,es,ep,ho,r⟩,_⟩:=id I.loc;obtain⟨sl,hL⟩:=u.any ho I.free (by simp);exact I.step (ch:=[]) (λ_ z=>nomatch z) (λb o _ hb _ e n=>u.keep b o e n hb (by simp)) (λb o _ hb _ e n=>u.slot b o e n hb (by simp)) (λb o _ e n=>u.free b o e n (by simp)) (λb o _ e=>u.there b o e (by simp)) u.pj u.pw u.pz (λm' hm=>by
  obtain⟨o',Ti,Tj,mj,r'⟩:=hm;rw[ho] at mj;cases mj;exact⟨_,Ti,Tj,hL,r'⟩) ck I.bare
theorem Inv.call(I:Inv X bz σ H s)(u:Un (uk X.stack) ch H H' s.heap h')(ck:mz H' h')(hg:jC g')
  (Gu:∀b∈ch,(b∈X.ex\/X.s₀.heap.objs.size<=b)/\b≠X.env.locals/\(∀x c,X.env.cells.lookup x=av c->c≠b)/\∀p∈X.pn++bz,p.1≠b) :
  Inv X bz σ H' {s with heap:=h',gens:=g',drawn:=d',toks:=t'}:=by
 obtain⟨m,⟨o,es,ep,ho,r⟩,_⟩:=id I.loc;obtain⟨sl,hL⟩:=u.any ho I.free λz=>(Gu _ z).2.1 rfl;exact I.step Gu (λb o hL hb hc e n=>u.keep b o e n (λz=>(bH.mp (I.rg b z)).elim hL hb) hc) (λb o _ _ hc e n=>u.any e n hc) (λb o hc e n=>u.free b o e n hc) (λb o hc e=>u.there b o e hc) u.pj u.pw u.pz (λm' hm=>by
  obtain⟨o',Ti,Tj,mj,r'⟩:=hm;rw[ho] at mj;cases mj;exact⟨_,Ti,Tj,hL,r'⟩) ck hg
theorem Inv.turned(I:Inv X bz σ H s)(k:∀b o,b≠it->s.heap.get? b=av o->h'.get? b=av o)(hn:H it=bh)(hL:it≠X.env.locals)
  (h1:it∈X.ex\/X.s₀.heap.objs.size<=it) (h2:∀x c,X.env.cells.lookup x=av c->c≠it) (h3:∀p∈X.pn++bz,p.1≠it):Inv X bz σ H {s with heap:=h',toks:=t'}:=by
 have IC:∀b u,H b=av u->b≠it:=λb u e z=>by rw[z,hn] at e;cases e
 refine I.step (ch:=[it]) (λb hb=>?_) (λb o _ _ hc e _=>k b o (λz=>hc (by simp[z])) e) (λb o _ _ hc e _=>⟨o.slots,k b o (λz=>hc (by simp[z])) e⟩) (λ_ _ _ _ n=>n)
  (λb o hc e=>⟨o,k b o (λz=>hc (by simp[z])) e⟩) (λ_ _ e=>e) (λ_ _ _ e=>e) (λb ps e=>⟨#[],by rw[e];simp⟩) (λm hm=>?_) (λb u e=>?_) I.bare
 ·have e:b=it:=by simp_all
  subst e;exact⟨h1,hL,h2,h3⟩
 ·obtain⟨o,es,ep,ho,r⟩:=hm;exact⟨o,es,ep,k _ o (bV hL) ho,r⟩
 ·refine(I.ck b u e).rf (λc v hc q=>k c v ?_ q) (λ_ q=>q) λ_ _ q=>q;rcases hc with z|z
  ·rw[z];exact IC b u e
  ·exact IC c _ z
def Inv.tok(I:Inv X bz σ H s)t:Inv X bz σ H {s with toks:=t}:=I.un Un.refl I.ck
def Inv.kept(I:Inv X bz σ H s)(k:∀b u,s.heap.get? b=av u->h'.get? b=av u):Inv X bz σ H {s with heap:=h',toks:=t'}:=I.un (Un.kept k) (I.ck.kept k)
def Inv.laid{a:aA}(I:Inv X bz σ H s)(k:∀b u,s.heap.get? b=av u->h'.get? b=av u)(hp:s.heap.objs.size<=a)(new:dh (upd H a o) h' a o) :
  Inv X bz σ (upd H a o) {s with heap:=h',toks:=t'}:=I.un (Un.laid k hp (I.ck.fresh hp)) (I.ck.laid k hp new)
def Inv.write(I:Inv X bz σ H s)(mu:PL (H x))(he:e=x\/H e=av (.own x))(k:∀b u,b≠e->s.heap.get? b=av u->h'.get? b=av u)(Ll:∃u,h'.get? e=av u)
  (new:dh (upd H x o) h' x o):Inv X bz σ (upd H x o) {s with heap:=h',toks:=t'}:=I.un (Un.write mu he k Ll) (I.ck.write mu he k Ll new)
def Inv.weak(I:Inv X bz σ H s)(hl:bx au=bx σ)(w:∀(i:Nat)v,au[i]?=av (av v)->σ[i]?=av (av v)):Inv X bz au H s :=
 ⟨I.ok,I.os,I.bare,I.base,let ⟨m,hn,jl⟩:=I.loc;⟨m,hn,λi x v e1 e2 e3=>jl i x v e1 (w i v e2) e3⟩,I.cell,I.free,I.ee,I.pin,I.ck,hl.trans I.len⟩
def Inv.ke(I:Inv X bz σ H s)(h:∀p∈xx,s.heap.get? p.1=av p.2/\H p.1=bh/\p.1≠X.env.locals/\p.1 ∉ X.fs/\∀v,p.2.data≠.cell v):Inv X xx σ H s :=
 ⟨I.ok,I.os,I.bare,I.base,I.loc,I.cell,I.free,I.ee,λp hp=>(bJ.mp hp).elim (λz=>I.pin p (fW _ z)) (h p),I.ck,I.len⟩
theorem Tn{N:List aC}(hN:N.Nodup){j:Nat}(a:N[i]?=av x)(b:N[j]?=av x):i=j:=by
 obtain⟨h1,e1⟩:=cA.mp a;obtain⟨h2,e2⟩:=cA.mp b;exact(List.getElem_inj hN).mp (e1.trans e2.symm)
theorem Tp(I:Inv X bz σ H s)(hN:X.N.Nodup)(hi:X.N[i]?=av x)(hx:Loc X.env.scope x)(r:RelV v u)
  (h:∀s',Inv X bz (σ.set i (av v)) H s'->(∃a,kH a s.heap s'.heap/\(a=X.env.locals\/X.env.cells.lookup x=av a))->Q () s') (hf:X.fn x=true\/X.env.scope.names.lookup x=av .local:=by first|exact .inl rfl|exact .inr rfl|assumption):wpAny M A (storeName X.env x u) Q E s:=by
 obtain⟨m,hn,hl⟩:=id I.loc;have Jy:(X.env.scope.kind==.class||(X.env.scope.kind==.module&&X.env.locals != X.env.globals))=false:=by rw[I.ok.kind];rfl
 have GZ:i<bx σ:=by rw[I.len];exact(cA.mp hi).1
 have ED:=I.ED;have tracked:∀{a:aA}{h':aJ},(∃o,s.heap.get? a=av o/\H a=bh)->kH a s.heap h'->mz H h':=λ{a h'}ha hs b ob e=>by
  obtain⟨_,_,ID⟩:=ha;refine(I.ck b ob e).rf (λc w' hc q=>(hs.2 c ?_).trans q) (λ_ q=>q) λ_ _ q=>q;rintro rfl;rcases hc with rfl|hc
  ·rw[ID] at e;cases e
  ·rw[ID] at hc;cases hc
 rcases hx with hk|hk
 ·refine wpAny_storeName_local hk hn (λh' Tq hs=>?_) Jy;obtain⟨oL,_,_,xY,_⟩:=id hn;refine h _ ⟨I.ok,I.os,I.bare,⟨λb o e n hb hx=>(hs.2 b (dB (bS (bN e) I.ok.above))).trans (I.base.keep b o e n hb hx),λb o e n hb hx=>?_,I.base.free,λb o e hx=>?_,I.base.pj,I.base.pw,I.base.pz⟩,⟨_,Tq,λj y v' e1 e2 e3=>?_⟩,λy c e=>?_,I.free,I.ee,λp hp=>?_,tracked ⟨oL,xY,I.free⟩ hs,by simpa using I.len⟩ ⟨_,hs,.inl rfl⟩
  ·obtain⟨sl,e1⟩:=I.base.slot b o e n hb hx;exact⟨sl,(hs.2 b (dB (bS (bN e) I.ok.above))).trans e1⟩
  ·obtain⟨o',e1⟩:=I.base.there b o e hx;exact⟨o',(hs.2 b (dB (bS (bN e) I.ok.above))).trans e1⟩
  ·by_cases hj:j=i
   ·subst hj;rw[hi] at e1;cases e1;rw[eK GZ] at e2;cases e2;exact⟨u,r,.inl ⟨hk,by simp⟩⟩
   ·rw[dP (bV hj)] at e2;obtain⟨u',r',q⟩:=hl j y v' e1 e2 e3;refine⟨u',r',?_⟩;rcases q with⟨k,e⟩|⟨k,c,e,z⟩
    ·refine .inl ⟨k,?_⟩;have:y≠x:=λe=>hj (Tn hN e1 (e▸hi));simp[this,e]
    ·exact .inr ⟨k,c,e,z.sameBut hs (ED y c e)⟩
  ·obtain⟨w',z⟩:=I.cell y c e;exact⟨w',z.sameBut hs (ED y c e)⟩
  ·obtain⟨e,n,ne,nf,d⟩:=I.pin p hp;exact⟨(hs.2 p.1 ne).trans e,n,ne,nf,d⟩
 ·have Tr:X.fn x=true:=by lia
  obtain⟨c,hc⟩:=I.ok.has x (.inl hk);obtain⟨w',z⟩:=I.cell x c hc;refine wpAny_storeName_cell I.ok.kind hk hc z λh' Jz hs=>?_;obtain⟨oc,JA,Ts⟩:=id z;refine h {s with heap:=h'} ⟨I.ok,I.os,I.bare,⟨λb o e n hb hx=>(hs.2 b (dB (bS (bN e) (I.ok.Gs x c Tr hc)))).trans (I.base.keep b o e n hb hx),λb o e n hb hx=>?_,I.base.free,λb o e hx=>?_,I.base.pj,I.base.pw,I.base.pz⟩,⟨m,hn.sameBut hs (bV (ED x c hc)),λj y v' e1 e2 e3=>?_⟩,λy c' e=>?_,I.free,I.ee,λp hp=>?_,tracked ⟨oc,JA,I.ee x c hc⟩ hs,by simpa using I.len⟩ ⟨c,hs,.inr hc⟩
  ·obtain⟨sl,e1⟩:=I.base.slot b o e n hb hx;exact⟨sl,(hs.2 b (dB (bS (bN e) (I.ok.Gs x c Tr hc)))).trans e1⟩
  ·obtain⟨o',e1⟩:=I.base.there b o e hx;exact⟨o',(hs.2 b (dB (bS (bN e) (I.ok.Gs x c Tr hc)))).trans e1⟩
  ·by_cases hj:j=i
   ·subst hj;rw[hi] at e1;cases e1;rw[eK GZ] at e2;cases e2;exact⟨u,r,.inr ⟨.inl hk,c,hc,Jz⟩⟩
   ·rw[dP (bV hj)] at e2;obtain⟨u',r',q⟩:=hl j y v' e1 e2 e3;refine⟨u',r',?_⟩;rcases q with q|⟨k,c',e,z'⟩
    ·exact .inl q
    ·refine .inr ⟨k,c',e,z'.sameBut hs ?_⟩;rintro rfl;exact hj (Tn hN e1 (I.ok.inj _ _ _ e hc▸hi))
  ·by_cases hcc:c'=c
   ·subst hcc;exact⟨_,Jz⟩
   ·obtain⟨w2,z2⟩:=I.cell y c' e;exact⟨w2,z2.sameBut hs hcc⟩
  ·obtain⟨e,n,ne,nf,d⟩:=I.pin p hp;refine⟨(hs.2 p.1 ?_).trans e,n,ne,nf,d⟩;intro q;rw[q,JA] at e;exact d w' ((bD e)▸Ts)
theorem MS(I:Inv X bz σ H s)(hN:X.N.Nodup)(hi:X.N[i]?=av x)(hx:Loc X.env.scope x)(r:RelV v u)
  (h:∀s',Inv X bz (σ.set i (av v)) H s'->Q () s') (hf:X.fn x=true\/X.env.scope.names.lookup x=av .local:=by first|exact .inl rfl|exact .inr rfl|assumption):wpAny M A (storeName X.env x u) Q E s :=
 Tp I hN hi hx r (λs' I' _=>h s' I') hf
theorem Inv.call'(I:Inv X bz σ H s)(ho:s'.os=s.os)(u:Un (uk X.stack) ch H H' s.heap s'.heap)(ck:mz H' s'.heap)(hg:jC s'.gens)
  (Gu:∀b∈ch,(b∈X.ex\/X.s₀.heap.objs.size<=b)/\b≠X.env.locals/\(∀x c,X.env.cells.lookup x=av c->c≠b)/\∀p∈X.pn++bz,p.1≠b):Inv X bz σ H' s':=by
 obtain⟨h',g',d',t',o'⟩:=s';have e:=ho;subst e;exact I.call u ck hg Gu
end
abbrev XK:=aE->Option aA->Hp->Prop
abbrev St:=List (Option V)
abbrev VK:=V->Hp->Prop
abbrev TE:=St->Hp->VK->Prop
abbrev TT:=St->Hp->(Bool->Hp->Prop)->Prop
abbrev TA:=St->Hp->(List V->Hp->Prop)->Prop
structure Ends where
 nx:St->Hp->Prop
 rt:VK
 bk:St->Hp->Prop:=λ_ _=>False
 ct:St->Hp->Prop:=λ_ _=>False
abbrev TS:=Ends->St->Hp->Prop
def EP(X:Cx)(bz:List (aA×Obj))(σ:St)(Q:VK)(u:aE)(s':aG):Prop:=∃v H',Inv X bz σ H' s'/\RelV v u/\Q v H'
def TP(X:Cx)(bz:List (aA×Obj))(σ:St)(Q:Bool->Hp->Prop)(b:Bool)(s':aG):Prop:=∃H',Inv X bz σ H' s'/\Q b H'
def AP(X:Cx)(bz:List (aA×Obj))(σ:St)(Q:List V->Hp->Prop)(us:List aE)(s':aG):Prop:=∃vs H',Inv X bz σ H' s'/\Vals vs us/\Q vs H'
def SP(X:Cx)(bz:List (aA×Obj))(D:Ends)(f:Flow)(s':aG):Prop :=
 match f with
 |.next=>∃au H',Inv X bz au H' s'/\D.nx au H'
 |.brk=>∃au H',Inv X bz au H' s'/\D.bk au H'
 |.cont=>∃au H',Inv X bz au H' s'/\D.ct au H'
 |.ret u=>∃v au H',Inv X bz au H' s'/\RelV v u/\D.rt v H'
def PE(X:Cx)(e:aR)(t:TE):Prop :=
 ∀bz s(σ:St)H Q,Inv X bz σ H s->t σ H Q->wpAny (model X.prog X.w) X.A (eval e X.env) (EP X bz σ Q) X.xe s
def PT(X:Cx)(e:aR)(t:TT):Prop :=
 ∀bz s(σ:St)H Q,Inv X bz σ H s->t σ H Q->wpAny (model X.prog X.w) X.A (isTrue e X.env (eval e X.env)) (TP X bz σ Q) X.xe s
def PW(X:Cx)(e:aR)(t:TT):Prop :=
 ∀whole bz s(σ:St)H Q,Inv X bz σ H s->t σ H Q->wpAny (model X.prog X.w) X.A (isTrue e X.env whole) (TP X bz σ Q) X.xe s
def PW.pt(h:PW X e t):PT X e t:=h _
def PA(X:Cx)(es:List aR)(t:TA):Prop :=
 ∀pos bz s(σ:St)H Q,Inv X bz σ H s->t σ H Q->wpAny (model X.prog X.w) X.A (spliced (backTo pos (starEach es X.env))) (AP X bz σ Q) X.xe s
def PS(X:Cx)(st:aO)(t:TS):Prop :=
 ∀bz s(σ:St)H D,Inv X bz σ H s->t D σ H->wpAny (model X.prog X.w) X.A (exec st X.env) (SP X bz D) X.xe s
def fu(X:Cx)(st:List aO)(t:TS):Prop :=
 ∀bz s(σ:St)H D,Inv X bz σ H s->t D σ H->wpAny (model X.prog X.w) X.A (execs st X.env) (SP X bz D) X.xe s
def D7(h:wpAny M A t Q E s)(hQ:∀a s,Q a s->Q' a s):wpAny M A t Q' E s:=eY h hQ λ_ _ x=>x
section
theorem bin(ha:PE X a ta)(hb:PE X b tb){σ:St}{R:V->V->Hp->Prop}(I:Inv X bz σ H s)(h:ta σ H λx H1=>tb σ H1 λy H2=>R x y H2)
  {f:aE->aE->Sem α}
  (hf:∀v u s2 x y H2,Inv X bz σ H2 s2->RelV x v->RelV y u->R x y H2->wpAny (model X.prog X.w) X.A (f v u) Q X.xe s2) :
  wpAny (model X.prog X.w) X.A (eval a X.env) (λv vy=>wpAny (model X.prog X.w) X.A (eval b X.env) (λu vz=>wpAny (model X.prog X.w) X.A (f v u) Q X.xe vz) X.xe vy) X.xe s:=by
 exact D7 (ha bz s σ H _ I h) λv s1 ⟨x,H1,I1,r1,q1⟩=>(D7 (hb bz s1 σ H1 _ I1 q1) λu s2 ⟨y,H2,I2,r2,q2⟩=>(hf v u s2 x y H2 I2 r1 r2 q2))
inductive JB(i:Nat)(σ:St)(H:Hp)(Q:VK):Prop|mk:∀v,σ[i]?=av (av v)->Q v H->JB i σ H Q
def tC(v:V):TE:=λ_ H Q=>Q v H
theorem b6z{X}{pos}(hN:X.N[i]?=av x)(hv:Te X.env.scope x)(hd:(x==("__debug__":aC))=false:=by decide)(xo:(x==("__classdict__":aC))=false:=by decide):PE X (.Name x pos) (JB i):=by
 intro bz s σ H Q I h;obtain⟨v,e,h⟩:=h;obtain⟨m,hn,hl⟩:=I.loc;obtain⟨u,r,l⟩:=hl i x v hN e hv;have fin:EP X bz σ Q u s:=⟨v,H,I,r,h⟩;rcases l with⟨hk,hm⟩|⟨hk,c,hc,kf⟩
 ·exact pZ (wpAny_loadName_local I.ok.kind hk hn hm fin) hd
 ·rcases hk with hk|hk
  ·exact pZ (wpAny_loadName_cell I.ok.kind hk hc kf fin) hd
  ·exact pZ (wpAny_loadName_free I.ok.kind hk hc kf fin xo) hd
def d0:PE X (.Constant (.int i) j pos) (tC (.int i)):=λ_ _ _ H _ I h=>wpAny_Constant_int ⟨.int i,H,I.tok _,⟨_,rfl⟩,h⟩
def JC:PE X (.Constant (.bool b) j pos) (tC (.bl b)):=λ_ _ _ H _ I h=>Constant_bool ⟨.bl b,H,I,rfl,h⟩
def D5:PE X (.Constant .none j pos) (tC .non):=λ_ _ _ H _ I h=>sN ⟨.non,H,I,rfl,h⟩
def l9:PE X (.Constant (.str x) j pos) (tC (.str x)):=λ_ _ _ H _ I h=>Calls.Constant_str ⟨.str x,H,I.tok _,⟨_,rfl⟩,h⟩
def Gl(X:Cx)(x:aC):Prop:=X.env.kindOf x=av .globalImplicit
theorem Lm{σ:St}(I:Inv X bz σ H s)(hg:Gl X x)(hm:X.mg x=av u)(h:Q u s)
  (hd:(x==("__debug__":aC))=false:=by decide):wpAny (model X.prog X.w) X.A (eval (.Name x pos) X.env) Q E s :=
 sO I.ok.kind hg (Calls.loadGlobal_global (I.ok.glob▸I.mod.glob.keeps I.bk) hm h) hd
theorem JD{E}{σ:St}{pos}(I:Inv X bz σ H s)(hg:Gl X x)(hm:X.mg x=bh)(hv:bootBuiltins x=av u)(h:Q u s)
  (hn:x≠"__name__":=by decide) (hd:(x==("__debug__":aC))=false:=by decide):wpAny (model X.prog X.w) X.A (eval (.Name x pos) X.env) Q E s:=by
 obtain⟨mb,h1,h2⟩:=I.mod.blt;exact sO I.ok.kind hg (Calls.loadGlobal_builtin (I.ok.glob▸I.mod.glob.keeps I.bk) hm (I.ok.blt▸h1.keeps I.bk) ((h2 x hn).trans hv) h) hd
theorem C4(hg:Gl X x)(hm:X.mg x=av u)(r:RelV v u)(hd:(x==("__debug__":aC))=false:=by decide):PE X (.Name x pos) (tC v) :=
 λ_ _ _ H _ I h=>Lm I hg hm ⟨v,H,I,r,h⟩ hd
theorem Ln{pos}(hg:Gl X x)(hm:X.mg x=bh)(hv:bootBuiltins x=av u)(r:RelV v u)(hn:x≠"__name__":=by decide)(hd:(x==("__debug__":aC))=false:=by decide):PE X (.Name x pos) (tC v) :=
 λ_ _ _ H _ I h=>JD I hg hm hv ⟨v,H,I,r,h⟩ hn hd
def tB(t:TE):TT:=λσ H Q=>t σ H λx H1=>∃c,x=.bl c/\Q c H1
theorem X6(h:PE X e t)(he:∀whole,isTrue e X.env whole=(do let v <- whole;standAt e.pos;holding [v] (truthy v)):=by intro _;rfl):PT X e (tB t):=by
 intro bz s σ H Q I hw;refine sP (D7 (h bz s σ H _ I hw) λv s1 ⟨x,H1,I1,r1,q1⟩=>?_) (he _);obtain⟨d,rfl,q⟩:=q1;cases r1;exact gC ⟨H1,I1,q⟩
variable{tA PN:TT}{rest:List aR}
def c0X(t u:TT):TT:=λσ H Q=>t σ H λc H1=>if c=true then u σ H1 Q else Q false H1
def tOr(t u:TT):TT:=λσ H Q=>t σ H λc H1=>if c=true then Q true H1 else u σ H1 Q
def c0G(t:TT):TT:=λσ H Q=>t σ H λc H1=>Q (!c) H1
theorem T4(ha:PT X a tA):PW X (.BoolOp .And [a] pos) tA:=by
 intro wh bz s σ H Q I h;refine isTrue_and (D7 (ha bz s σ H Q I h) λc s1 e=>?_);cases c with
 |true=>exact isTrue_and_nil e
 |false=>exact e
theorem R9(ha:PT X a tA):PW X (.BoolOp .Or [a] pos) tA:=by
 intro wh bz s σ H Q I h;refine isTrue_or (D7 (ha bz s σ H Q I h) λc s1 e=>?_);cases c with
 |false=>exact isTrue_or_nil e
 |true=>exact e
theorem Gv(ha:PT X a tA)(hb:PW X (.BoolOp .And (b::rest) pos) PN):PW X (.BoolOp .And (a::b::rest) pos) (c0X tA PN):=by
 intro wh bz s σ H Q I h;refine isTrue_and (D7 (ha bz s σ H _ I h) λc s1 ⟨H1,I1,q1⟩=>?_);cases c with
 |true=>exact hb wh bz s1 σ H1 Q I1 q1
 |false=>exact⟨H1,I1,q1⟩
theorem U0(ha:PT X a tA)(hb:PW X (.BoolOp .Or (b::rest) pos) PN):PW X (.BoolOp .Or (a::b::rest) pos) (tOr tA PN):=by
 intro wh bz s σ H Q I h;refine isTrue_or (D7 (ha bz s σ H _ I h) λc s1 ⟨H1,I1,q1⟩=>?_);cases c with
 |true=>exact⟨H1,I1,q1⟩
 |false=>exact hb wh bz s1 σ H1 Q I1 q1
theorem S6(ha:PT X a tA):PT X (.UnaryOp .Not a pos) (c0G tA):=by
 intro bz s σ H Q I h;exact isTrue_not (ha bz s σ H (λc H1=>Q (!c) H1) I h)
def b8x(ta tb:TE):TE:=λσ H Q=>ta σ H λx H1=>∃c,x=.bl c/\if c=true then tb σ H1 Q else Q (.bl false) H1
def b9i(ta:TE):TE:=λσ H Q=>ta σ H λx H1=>∃c,x=.bl c/\Q (.bl (!c)) H1
def b1I(h:PE X a t):PE X (.BoolOp op [a] pos) t:=λbz s σ H Q I hw=>BoolOp_one (h bz s σ H Q I hw)
theorem b1G(ha:PE X a ta)(hb:PE X (.BoolOp .And (b::rest) pos) tb):PE X (.BoolOp .And (a::b::rest) pos) (b8x ta tb):=by
 intro bz s σ H Q I h;refine BoolOp_and (D7 (ha bz s σ H _ I h) λv s1 ⟨x,H1,I1,r1,q1⟩=>?_);obtain⟨c,rfl,q1⟩:=q1;cases r1;refine gC ?_;cases c with
 |true=>exact hb bz s1 σ H1 Q I1 q1
 |false=>exact⟨.bl false,H1,I1,rfl,q1⟩
theorem b6x(ha:PE X a ta):PE X (.UnaryOp .Not a pos) (b9i ta):=by
 intro bz s σ H Q I h;refine UnaryOp_ (D7 (ha bz s σ H _ I h) λv s1 ⟨x,H1,I1,r1,q1⟩=>?_);obtain⟨c,rfl,q1⟩:=q1;cases r1;exact not_of (gC ⟨.bl (!c),H1,I1,rfl,q1⟩)
def tIf(t:TT)(ta tb:TE):TE:=λσ H Q=>t σ H λc H1=>if c=true then ta σ H1 Q else tb σ H1 Q
theorem MT(hc:PT X c tA)(ha:PE X a ta)(hb:PE X b tb):PE X (.IfExp c a b pos) (tIf tA ta tb):=by
 intro bz s σ H Q I h;refine wpAny_IfExp (D7 (hc bz s σ H _ I h) λd s1 ⟨H1,I1,q1⟩=>?_);cases d with
 |true=>exact ha bz s1 σ H1 Q I1 q1
 |false=>exact hb bz s1 σ H1 Q I1 q1
end
def ah(K:aF)(H:Hp)(a:aA)(xs:List V):Prop :=
 Rd H a (.lst xs) ∨
  ∃o cx n,K.lookup a=av o/\o.cls=.type "list"/\o.dict=bh/\o.data=.seq cx n/\cx.size<=sizeLine/\Vals xs cx.toList
def cq(K:aF)(H:Hp)(a:aA)(xs:List V):Prop :=
 Rd H a (.tup xs) ∨
  ∃o cx n,K.lookup a=av o/\o.cls=.type "tuple"/\o.data=.seq cx n/\cx.size<=sizeLine/\Vals xs cx.toList
def c0u:aE->Option V
 |.none=>av .non
 |.bool b=>av (.bl b)
 |.int i _=>av (.int i)
 |.str x _=>av (.str x)
 |.ref a=>av (.ref a)
 |.type n=>av (.ty n)
 |_=>bh
theorem RelV.abs(r:RelV x u):c0u u=av x:=by
 cases x with
 |non=>cases r;rfl
 |bl _=>cases r;rfl
 |int _=>obtain⟨t,rfl⟩:=r;rfl
 |str _=>obtain⟨t,rfl⟩:=r;rfl
 |ref _=>cases r;rfl
 |ty _=>cases r;rfl
def RelV.inj(r:RelV x u)(q:RelV y u):x=y:=bD (r.abs.symm.trans q.abs)
theorem Vals.inj:∀{xs ys}{us},Vals xs us->Vals ys us->xs=ys
 |_,_,_,.nil,.nil=>rfl
 |_,_,_,.cons r t,.cons r' t'=>by rw[r.inj r',Vals.inj t t']
section
variable{X:Cx}{bz:List (aA×Obj)}{σ:St}{H:Hp}{s:aG}{a:aA}{xs ys:List V}
def ah.of{K}(h:H a=av (.lst xs)):ah K H a xs:=.inl (.inl h)
def cq.of{K}(h:H a=av (.tup xs)):cq K H a xs:=.inl (.inl h)
theorem Inv.list(I:Inv X bz σ H s)(h:ah X.K H a xs):∃cx,Vals xs cx/\PlainL s.heap a cx.toArray/\xs.length<=sizeLine:=by
 rcases h with h|⟨o,cx,n,hk,hc,hd,hs,hz,r⟩
 ·obtain⟨z,cx,n,r,e⟩:=h.ok I.ck;exact⟨cx,r,⟨_,n,e,rfl,rfl,rfl⟩,z⟩
 ·refine⟨cx.toList,r,⟨o,n,I.ix a o hk,hc,hd,by simpa using hs⟩,?_⟩;have e:=r.length;simp only[lO] at e;lia
theorem Inv.tuple(I:Inv X bz σ H s)(h:cq X.K H a xs):∃cx,Vals xs cx/\gP s.heap a cx.toArray/\xs.length<=sizeLine:=by
 rcases h with h|⟨o,cx,n,hk,hc,hs,hz,r⟩
 ·obtain⟨z,cx,r,p⟩:=h.ok I.ck;exact⟨cx,r,p,z⟩
 ·refine⟨cx.toList,r,⟨o,I.ix a o hk,hc,n,by simpa using hs⟩,?_⟩;have e:=r.length;simp only[lO] at e;lia
theorem Inv.rh(I:Inv X bz σ H s)(h:ah X.K H a xs)(h':ah X.K H a ys):xs=ys:=by
 obtain⟨cx,r,⟨o,n,e,_,_,d⟩,_⟩:=I.list h;obtain⟨e_,r',⟨o',n',e',_,_,d'⟩,_⟩:=I.list h';rw[e] at e';cases e';rw[d] at d';injection d' with d1 _;have:cx=e_:=by simpa using congrArg sQ d1
 subst this;exact r.inj r'
theorem Inv.vh(I:Inv X bz σ H s)(h:cq X.K H a xs)(h':cq X.K H a ys):xs=ys:=by
 obtain⟨cx,r,⟨o,e,_,n,d⟩,_⟩:=I.tuple h;obtain⟨e_,r',⟨o',e',_,n',d'⟩,_⟩:=I.tuple h';rw[e] at e';cases e';rw[d] at d';injection d' with d1 _;have:cx=e_:=by simpa using congrArg sQ d1
 subst this;exact r.inj r'
end
abbrev Cx.uq(X:Cx)(E:aE->aG->Prop):Cx:={X with xe:=E}
abbrev Cx.oi(X:Cx):Cx:=X.uq λ_ _=>False
def Cx.Ok.uq{X:Cx}(ok:X.Ok)E:(X.uq E).Ok :=
 ⟨ok.mod,ok.kind,ok.glob,ok.blt,ok.above,ok.inj,ok.has,ok.Gs,ok.hd,ok.frames,ok.GX,ok.GY,ok.bs,ok.xw,ok.um,ok.uo,ok.gx,ok.Cj⟩
def Cx.Ok.jc{X:Cx}(ok:(X.uq E).Ok):X.Ok :=
 ⟨ok.mod,ok.kind,ok.glob,ok.blt,ok.above,ok.inj,ok.has,ok.Gs,ok.hd,ok.frames,ok.GX,ok.GY,ok.bs,ok.xw,ok.um,ok.uo,ok.gx,ok.Cj⟩
section
variable{X:Cx}{bz:List (aA×Obj)}{σ:St}{H:Hp}{s:aG}{E:aE->aG->Prop}
def Inv.uq(I:Inv X bz σ H s)E:Inv (X.uq E) bz σ H s:=⟨I.ok.uq E,I.os,I.bare,I.base,I.loc,I.cell,I.free,I.ee,I.pin,I.ck,I.len⟩
def Inv.jc(I:Inv (X.uq E) bz σ H s):Inv X bz σ H s:=⟨I.ok.jc,I.os,I.bare,I.base,I.loc,I.cell,I.free,I.ee,I.pin,I.ck,I.len⟩
theorem SP.jc(h:SP (X.uq E) bz D f s'):SP X bz D f s':=by
 cases f with
 |next=>obtain⟨au,H',I,q⟩:=h;exact⟨au,H',I.jc,q⟩
 |brk=>obtain⟨au,H',I,q⟩:=h;exact⟨au,H',I.jc,q⟩
 |cont=>obtain⟨au,H',I,q⟩:=h;exact⟨au,H',I.jc,q⟩
 |ret u=>obtain⟨v,au,H',I,r,q⟩:=h;exact⟨v,au,H',I.jc,r,q⟩
def fu.oi{st}(h:fu X.oi st t):fu X st t:=λbz s σ H D I hw =>
 eY (h bz s σ H D (I.uq _) hw) (λ_ _ q=>q.jc) λ_ _ z=>eD z
end
section
variable{X:Cx}{st:aO}{rest:List aO}{t u:TS}{e:aR}{te:TE}{pos:Pos}
def MU:TS:=λD σ H=>D.nx σ H
def Lo(t u:TS):TS:=λD σ H=>t {D with nx:=u D} σ H
def r8:fu X [] MU:=λ_ _ σ H _ I h=>lP ⟨σ,H,I,h⟩
theorem j0(h1:PS X st t)(h2:fu X rest u):fu X (st::rest) (Lo t u):=by
 intro bz s σ H D I h;refine qA (D7 (h1 bz s σ H {D with nx:=u D} I h) λf s1 q=>?_);cases f with
 |next =>
  obtain⟨au,H',I',q⟩:=q;exact h2 bz s1 au H' D I' q
 |ret v=>exact q
 |brk=>exact q
 |cont=>exact q
theorem j4(h1:PS X st t):fu X [st] t:=by
 intro bz s σ H D I h;refine qA (D7 (h1 bz s σ H D I h) λf s1 q=>?_);cases f with
 |next=>exact lP q
 |ret v=>exact q
 |brk=>exact q
 |cont=>exact q
theorem Inv.quiet{σ:St}(I:Inv X bz σ H s):interactive X.env=false:=by simp[interactive,I.ok.kind]
def b8y(te:TE):TS:=λD σ H=>te σ H λ_ H1=>D.nx σ H1
theorem R3(he:PE X e te)(hs:swapsWith e bh pos.line X.env=pure false:=by rfl):PS X (.Expr e pos) (b8y te):=by
 intro bz s σ H D I h;exact wpAny_Expr_any (D7 (he bz s σ H _ I h) λv s1 ⟨x,H1,I1,r1,q1⟩=>⟨σ,H1,I1,q1⟩) I.quiet hs
def c1u(te:TE):TS:=λD σ H=>te σ H D.rt
theorem o4(he:PE X e te):PS X (.Return (av e) pos) (c1u te):=by
 intro bz s σ H D I h;exact wpAny_Return_some (D7 (he bz s σ H _ I h) λv s1 ⟨x,H1,I1,r1,q1⟩=>⟨x,σ,H1,I1,r1,q1⟩)
def MV(c:TT)(t u:TS):TS:=λD σ H=>c σ H λb H1=>if b=true then t D σ H1 else u D σ H1
theorem w6(hc:PT X c tc)(ha:fu X a t)(hb:fu X b u):PS X (.If c a b pos) (MV tc t u):=by
 intro bz s σ H D I h;refine wpAny_If (D7 (hc bz s σ H _ I h) λd s1 ⟨H1,I1,q1⟩=>?_);cases d with
 |true=>exact ha bz s1 σ H1 D I1 q1
 |false=>exact hb bz s1 σ H1 D I1 q1
def b7e:TS:=λ_ _ _=>False
def a5n:fu X sts b7e:=λ_ _ _ _ _ _ h=>h.elim
end
abbrev TG:=V->St->Hp->(St->Hp->Prop)->Prop
abbrev Gx:=List V->St->Hp->(St->Hp->Prop)->Prop
def PG(X:Cx)(target:aR)(t:TG):Prop :=
 ∀bz s(σ:St)H v u Q,Inv X bz σ H s->RelV v u->t v σ H Q →
  wpAny (model X.prog X.w) X.A (assign target X.env u) (λ_ s'=>∃au H',Inv X bz au H' s'/\Q au H') X.xe s
def Lq(X:Cx)(ts:List aR)(t:Gx):Prop :=
 ∀bz s(σ:St)H vs us Q,Inv X bz σ H s->Vals vs us->t vs σ H Q →
  wpAny (model X.prog X.w) X.A (assignInOrder ((assignEach ts X.env).map (·.2)) us) (λ_ s'=>∃au H',Inv X bz au H' s'/\Q au H') X.xe s
abbrev Tt:=V->V->V->Hp->(Hp->Prop)->Prop
def b9M(X:Cx)(t:Tt):Prop :=
 ∀bz s(σ:St)H o i v ov iv u Q,Inv X bz σ H s->RelV o ov->RelV i iv->RelV v u->t o i v H Q →
  wpAny (model X.prog X.w) X.A (setItem ov iv u) (λ_ s'=>∃H',Inv X bz σ H' s'/\Q H') X.xe s
def N7(i:Nat):TG:=λv σ H Q=>Q (σ.set i (av v)) H
theorem j9(hN:X.N.Nodup)(hi:X.N[i]?=av x)(hx:Loc X.env.scope x)(hf:X.fn x=true\/X.env.scope.names.lookup x=av .local:=by first|exact .inl rfl|exact .inr rfl|assumption):PG X (.Name x pos) (N7 i):=by
 intro bz s σ H v u Q I r h;exact qC (MS I hN hi hx r (λs' I'=>⟨_,H,I',h⟩) hf)
def PQ:Gx:=λvs σ H Q=>vs=[]/\Q σ H
inductive JE(t:TG)(u:Gx)(vs:List V)(σ:St)(H:Hp)(Q:(St->Hp->Prop)):Prop|mk:∀v r,vs=v::r->(t v σ H λau H'=>u r au H' Q)->JE t u vs σ H Q
theorem A4:Lq X [] PQ:=by
 intro bz s σ H vs us Q I r h;obtain⟨e,h⟩:=h;subst e;cases r;exact sR ⟨σ,H,I,h⟩
theorem p6(h1:PG X e t)(h2:Lq X es u)
  (hs:(assignEach (e::es) X.env).map (·.2)=assign e X.env::(assignEach es X.env).map (·.2):=by rfl):Lq X (e::es) (JE t u):=by
 intro bz s σ H vs us Q I r h;obtain⟨v,vr,e1,h⟩:=h;subst e1;cases r with
 |cons r rr =>
  rw[hs];exact qD (D7 (h1 bz s σ H _ _ _ I r h) λ_ s1 ⟨Eg,H1,I1,q1⟩=>(h2 bz s1 Eg H1 _ _ Q I1 rr q1))
inductive MW(K:aF)(n:Nat)(t:Gx)(v:V)(σ:St)(H:Hp)(Q:(St->Hp->Prop)):Prop|mk:∀a xs,v=.ref a->cq K H a xs->bx xs=n->t xs σ H Q->MW K n t v σ H Q
theorem K4{pos}{k}(hc:X.calm=true)(h:Lq X es t)
  (hn:(assignEach es X.env).length=n:=by rfl) (gj:(assignEach es X.env).findIdx? (·.1)=bh:=by rfl):PG X (.Tuple es k pos) (MW X.K n t):=by
 intro bz s σ H v u Q I r hw;obtain⟨a,xs,e1,hq,hl,hw⟩:=hw;subst e1;cases r;obtain⟨cx,rv,ht,hz⟩:=I.tuple hq;exact assign_Tuple_tuple (I.ok.hd hc) ht (by simp[hn,<-hl,rv.length]) gj λh' hx=>(h bz _ σ H xs _ Q (I.kept (t':=s.toks) λb o e=>hx b o (dB (bN e)) e) (by simp_all) hw)
def c1f(to ti:TE)(t:Tt):TG:=λv σ H Q=>to σ H λo H1=>ti σ H1 λi H2=>t o i v H2 λH3=>Q σ H3
theorem Gy(ho:PE X o to)(hi:PE X i ti)(hs:b9M X t)
  (ha:∀v,assign (.Subscript o i pos) X.env v=(do
   let ov <- holding [v] (eval o X.env);let iv <- holding [v,ov] (eval i X.env)
   standAt pos
   holding [v,ov,iv] (setItem ov iv v)
   release [v,ov,iv] []):=by intro _;rfl):PG X (.Subscript o i pos) (c1f to ti t):=by
 intro bz s σ H v u Q I r h;rw[ha];exact aN (iP (D7 (ho bz s σ H _ I h) λov s1 ⟨x,H1,I1,r1,q1⟩=>(aN (iP (D7 (hi bz s1 σ H1 _ I1 q1) λiv s2 ⟨y,H2,I2,r2,q2⟩=>(aN (iQ (aN (iP (D7 (hs bz s2 σ H2 x y v ov iv u _ I2 r1 r2 r q2) λ_ s3 ⟨H3,I3,q3⟩=>(wpAny_release ⟨σ,H3,I3,q3⟩)))))))))))
def EE(te:TE)(g:TG):TS:=λD σ H=>te σ H λx H1=>g x σ H1 D.nx
theorem D3{pos}(he:PE X e te)(hg:PG X tg g)(hs:swapsWithSole [tg] e pos.line X.env=pure false:=by rfl)(hw:swappedStores [tg] e X.env=pure bh:=by rfl)
  (h1:(assignEach [tg] X.env).map (·.2)=[assign tg X.env]:=by rfl):PS X (.Assign [tg] e pos) (EE te g):=by
 intro bz s σ H D I h;refine wpAny_Assign_stores (D7 (he bz s σ H _ I h) λv s1 ⟨x,H1,I1,r1,q1⟩=>?_) hs hw;rw[h1];exact D7 (hg bz s1 σ H1 x v _ I1 r1 q1) λ_ s2 q=>q
theorem r6{pos}(hN:X.N.Nodup)(hi:X.N[i]?=av x)(hx:Loc X.env.scope x)(he:PE X e te)(hs:swapsWith e (av (.Name x pos')) pos.line X.env=pure false:=by rfl)(hf:X.fn x=true\/X.env.scope.names.lookup x=av .local:=by first|exact .inl rfl|exact .inr rfl|assumption) :
  PS X (.Assign [.Name x pos'] e pos) (EE te (N7 i)):=by
 intro bz s σ H D I h;exact wpAny_Assign_Name (D7 (he bz s σ H _ I h) λv s1 ⟨y,H1,I1,r1,q1⟩=>(MS I1 hN hi hx r1 (λs2 I2=>⟨_,H1,I2,q1⟩) hf)) hs
def c0B(i j:Nat)(ta:TA):TS:=λD σ H=>ta σ H λvs H1=>∃v w,vs=[v,w]/\D.nx ((σ.set i (av v)).set j (av w)) H1
theorem b7C(hc:X.calm=true)(hN:X.N.Nodup)(hi:X.N[i]?=av x)(hj:X.N[j]?=av y)(iy:i≠j)
  (hx:X.env.scope.names.lookup x=av .local) (hy:X.env.scope.names.lookup y=av .local) (ha:PA X [a,b] ta)
  (hw:swappedStores [.Tuple [.Name x px,.Name y py] kt pt] (.Tuple [a,b] k2 Tu) X.env=pure (av [x,y]))
  (hs:swapsWithSole [.Tuple [.Name x px,.Name y py] kt pt] (.Tuple [a,b] k2 Tu) pos.line X.env=pure false:=by rfl) :
  PS X (.Assign [.Tuple [.Name x px,.Name y py] kt pt] (.Tuple [a,b] k2 Tu) pos) (c0B i j ta):=by
 intro bz s σ H D I h;rw[exec_Assign_arm];refine aN (iQ ?_);rw[hs];refine aN (bG ?_);rw[if_neg (by decide)];refine aN (Tuple_ (D7 (ha _ bz s σ H _ I h) λus s1 ⟨vs,H1,I1,r1,q1⟩=>?_));obtain⟨v,w,e1,q1⟩:=q1;subst e1;obtain⟨u1,u2,rfl,rv,G'⟩:∃u1 u2,us=[u1,u2]/\RelV v u1/\RelV w u2:=by
  cases r1 with
  |cons p q =>
   cases q with
   |cons p' q' =>
    cases q';exact⟨_,_,rfl,p,p'⟩
 refine lQ ?_ (by show 2<=sizeLine;decide);have I2:Inv X bz σ H1 {s1 with heap:=s1.heap.push {cls:=.type "tuple",data:=.seq [u1,u2].toArray}}:=I1.kept λb o e=>bL _ e;rw[hw];refine aN (bG ?_);show wpAny (model X.prog X.w) X.A (do rule "assign.swapped-stores";let items <- unpackItems (.ref s1.heap.objs.size) 2 bh;assignInOrder [λv=>bindName X.env y v,λv=>bindName X.env x v] items.reverse;pure Flow.next) _ _ _;refine aN (lR (aN (unpackItems_tuple (items:=#[u1,u2]) (I.ok.hd hc) (nD s1.heap _) λh' f'=>?_)));have I3:=I2.kept (t':=s1.toks) λb o e=>f' b o (dB (bN e)) e;refine aN (qD (sS (MS I3 hN hj (.inl hy) G' (λs2 I4=>(qD (sS (MS I4 hN hi (.inl hx) rv (λs3 I5=>sR (bG ?_)) (.inr hx))))) (.inr hy))));rw[kJ _ _ (bV iy)] at I5;exact⟨_,H1,I5,q1⟩
inductive N3(c:TT)(tb:TS)(D:Ends)(σ:St)(H:Hp):Prop|mk:∀W:Nat->St->Hp->Prop,(∃m,W m σ H)->(∀m σ H,W m σ H → c σ H λb H1=>if b=true then ∃N,(∀au H',N au H'->∃m',m'<m/\W m' au H')/\tb {D with nx:=N,ct:=N,bk:=D.nx} σ H1 else D.nx σ H1)->N3 c tb D σ H
theorem N4(hp:qG (model X.prog X.w) X.A X.env X.xe)(hc:PT X c tc)(hb:fu X body tb):PS X (.While c body [] pos) (N3 tc tb):=by
 intro bz s σ H D I h;obtain⟨W,⟨m0,w0⟩,turn⟩:=h;refine wpAny_While (codeAny_whileLoop (λn s'=>∃au H',Inv X bz au H' s'/\W n au H') ?_ m0 ⟨σ,H,I,w0⟩);rintro n s1 ⟨Eg,H1,I1,w1⟩;refine jE hp (D7 (hc bz s1 Eg H1 _ I1 (turn n Eg H1 w1)) λb s2 ⟨H2,I2,q2⟩=>?_);cases b with
 |true =>
  obtain⟨N,hN,q2⟩:=q2;rw[if_pos rfl];refine jE hp (D7 (hb bz s2 Eg H2 _ I2 q2) λf s3 q3=>?_);cases f with
  |next =>
   obtain⟨zx,H3,I3,n3⟩:=q3;obtain⟨m',hm,w3⟩:=hN zx H3 n3;exact⟨m',hm,zx,H3,I3,w3⟩
  |cont =>
   obtain⟨zx,H3,I3,n3⟩:=q3;obtain⟨m',hm,w3⟩:=hN zx H3 n3;exact⟨m',hm,zx,H3,I3,w3⟩
  |brk=>exact q3
  |ret v=>exact q3
 |false =>
  rw[if_neg cX];exact lP ⟨Eg,H2,I2,q2⟩
structure It where
 go:Nat->Hp->Prop
 By:Nat->Hp->V->Hp->Prop
 stop:Nat->Hp->Prop
def xp(X:Cx)(bz:List (aA×Obj))(H:Hp)(b:aA):Prop :=
 H b=bh/\b≠X.env.locals/\b ∉ X.fs/\(b∈X.ex\/X.s₀.heap.objs.size<=b)/\(∀x c,X.env.cells.lookup x=av c->c≠b)/\∀p∈X.pn++bz,p.1≠b
theorem Inv.xy{σ:St}{b:aA}(I:Inv X bz σ H s)(hb:s.heap.objs.size<=b)(hn:H' b=bh):xp X bz H' b:=by
 refine⟨hn,gR (bS I.lt hb),I.Jx hb,.inr (bF I.sz hb),λx c e z=>?_,λp hp z=>absurd (bS (bN (I.pin p hp).1) (z▸hb)) (dO _)⟩
 ·obtain⟨v,q⟩:=I.cell x c e;exact absurd (bS q.lt (z▸hb)) (dO _)
structure JF(P:aM)(w:aL)(K:aF)(tg:aR)(J:It)(fp:List aA)(it:aA)(tn:Nat->aJ->Prop):Prop where
 mem:it∈fp
 obj:∀i h,tn i h->∀b∈fp,∃o,h.get? b=av o/\∀v,o.data≠.cell v
 keep:∀i h h',tn i h->(∀b∈fp,∀o,h.get? b=av o->h'.get? b=av o)->tn i h'
 item:∀(X:Cx),X.prog=P->X.w=w->X.K=K->X.calm=true->∀(i:Nat)(bz:List (aA×Obj))(s:aG)(σ:St)(H:Hp)(E:aE->aG->Prop),Inv X bz σ H s->(∀b∈fp,xp X bz H b)->tn i s.heap->J.go i H →
  wpAny (model P w) X.A (pyNext (.ref it)) (λr s1=>∃u,r=av u/\
   wpAny (model P w) X.A (letOwnedTupleGo tg (.ref it) u) (λ_ s2=>∃x H',Inv X bz σ H' s2/\RelV x u/\J.By i H x H'/\tn (i+1) s2.heap/\∀b∈fp,H' b=bh) E s1) E s
 done:∀(X:Cx),X.prog=P->X.w=w->X.K=K->X.calm=true->∀(i:Nat)(bz:List (aA×Obj))(s:aG)(σ:St)(H:Hp)(E:aE->aG->Prop),Inv X bz σ H s->(∀b∈fp,xp X bz H b)->tn i s.heap->J.stop i H →
  wpAny (model P w) X.A (pyNext (.ref it)) (λr s1=>r=bh/\Inv X bz σ H s1) E s
 self:∀(A:aV)(i:Nat)(s:aG)(Q:aE->aG->Prop)(E:aE->aG->Prop),tn i s.heap->Q (.ref it) s->wpAny (model P w) A (pyIter (.ref it)) Q E s
abbrev TI:=St->Hp->(It->Hp->Prop)->Prop
def PIE(X:Cx)(bz:List (aA×Obj))(σ:St)(tg:aR)(R:It->Hp->Prop)(Hc:aE)(s2:aG):Prop :=
 ∃it fp tn J H',Hc=.ref it/\Inv X bz σ H' s2/\JF X.prog X.w X.K tg J fp it tn/\tn 0 s2.heap/\(∀b∈fp,xp X bz H' b)/\R J H'
def PI(X:Cx)(tg iter:aR)(wi:TI):Prop :=
 ∀bz s(σ:St)H R,Inv X bz σ H s->wi σ H R →
  wpAny (model X.prog X.w) X.A (eval iter X.env) (λv s1=>wpAny (model X.prog X.w) X.A (pyIter v) (PIE X bz σ tg R) X.xe s1) X.xe s
theorem MX(ho:s.heap.get? it=av o)(hc:o.cls=.type n)(hd:o.data=.fields vs)
    (hn:["enumerate","zip","dict_itemiterator","dict_reverseitemiterator","odict_iterator","itertools.zip_longest","itertools.pairwise"].contains n=false) (hQ:Q () s):wpAny M A (letOwnedTupleGo tg (.ref it) u) Q E s:=by
  unfold letOwnedTupleGo;cases tg<;>first
    |exact bG hQ
    |(cases u<;>first
        |exact bG hQ
        | (refine aN (nE ho ?_)
           rw[hc,hd];show wpAny M A (if (["enumerate","zip","dict_itemiterator","dict_reverseitemiterator","odict_iterator","itertools.zip_longest","itertools.pairwise"].contains n&&vs[0]?==av (rawInt _))=true then _ else _) Q E s;rw[if_neg (by intro h;rw[hn,Bool.false_and] at h;cases h)];exact bG hQ))
def Lr(K:aF)(a:aA):It :=
 ⟨λi H=>∃xs x,ah K H a xs/\xs[i]?=av x,λi H x H'=>H'=H/\∀xs,ah K H a xs->xs[i]?=av x,λi H=>∃xs,ah K H a xs/\bx xs<=i⟩
def Tv(K:aF)(a:aA):It :=
 ⟨λi H=>∃xs x,cq K H a xs/\xs[i]?=av x,λi H x H'=>H'=H/\∀xs,cq K H a xs->xs[i]?=av x,λi H=>∃xs,cq K H a xs/\bx xs<=i⟩
def Hd(lo:Int)(n:Nat):It:=⟨λi _=>i<n,λi H x H'=>H'=H/\x=.int (lo+i),λi _=>n<=i⟩
theorem b0Y{P:aM}{w:aL}{K:aF}{tg:aR}(a it:aA):JF P w K tg (Lr K a) [it] it (λi h=>h.IsListIter it a i) where
 mem:=by simp
 obj:=λi h st b hb=>by
  have e:b=it:=by simp_all
  subst e;obtain⟨o,e,c,d⟩:=st;exact⟨o,e,λv z=>by rw[d] at z;cases z⟩
 keep:=λi h h' st k=>st.at λo e=>k it (by simp) o e
 item:=by
  intro X hP hw hK hc i bz s σ H E I hf st hg;subst hP hw hK;obtain⟨xs,x,hq,hx⟩:=hg;obtain⟨cx,rv,p,hz⟩:=I.list hq;obtain⟨u,hu,ru⟩:=rv.get hx;obtain⟨f0,f1,f2,f3,f4,f5⟩:=hf it (by simp);refine wpAny_pyNext_list_item st p.isList (by simpa using hu) λh' x_ sb=>?_;obtain⟨o,e,c,d⟩:=id x_;exact⟨u,rfl,MX e c d (by decide) ⟨x,H,(I.turned (t':=s.toks) (λb o hb e=>(sb.2 b hb).trans e) f0 f1 f3 f4 f5),ru,⟨rfl,λys hy=>by rw[I.rh hy hq];exact hx⟩,x_,λb hb=>(hf b hb).1⟩⟩
 done:=by
  intro X hP hw hK hc i bz s σ H E I hf st hg;subst hP hw hK;obtain⟨xs,hq,hx⟩:=hg;obtain⟨cx,rv,p,hz⟩:=I.list hq;obtain⟨f0,f1,f2,f3,f4,f5⟩:=hf it (by simp);have hl:=rv.length;exact wpAny_pyNext_list_end (I.ok.hd hc) st p.isList (by simp;lia) λh' eb=>⟨rfl,I.turned (λb o hb e=>eb b o hb e) f0 f1 f3 f4 f5⟩
 self:=λ_ _ _ _ _ st h=>wpAny_pyIter_listiter st h
theorem a8u{P:aM}{w:aL}{K:aF}{tg:aR}(a it:aA):JF P w K tg (Tv K a) [it] it (λi h=>h.IsTupleIter it a i) where
 mem:=by simp
 obj:=λi h st b hb=>by
  have e:b=it:=by simp_all
  subst e;obtain⟨o,e,c,d⟩:=st;exact⟨o,e,λv z=>by rw[d] at z;cases z⟩
 keep:=λi h h' st k=>st.at λo e=>k it (by simp) o e
 item:=by
  intro X hP hw hK hc i bz s σ H E I hf st hg;subst hP hw hK;obtain⟨xs,x,hq,hx⟩:=hg;obtain⟨cx,rv,p,hz⟩:=I.tuple hq;obtain⟨u,hu,ru⟩:=rv.get hx;obtain⟨f0,f1,f2,f3,f4,f5⟩:=hf it (by simp);refine wpAny_pyNext_tuple_item st (show s.heap.IsTuple a cx.toArray from p) (by simpa using hu) λh' x_ sb=>?_;obtain⟨o,e,c,d⟩:=id x_;exact⟨u,rfl,MX e c d (by decide) ⟨x,H,(I.turned (t':=s.toks) (λb o hb e=>(sb.2 b hb).trans e) f0 f1 f3 f4 f5),ru,⟨rfl,λys hy=>by rw[I.vh hy hq];exact hx⟩,x_,λb hb=>(hf b hb).1⟩⟩
 done:=by
  intro X hP hw hK hc i bz s σ H E I hf st hg;subst hP hw hK;obtain⟨xs,hq,hx⟩:=hg;obtain⟨cx,rv,p,hz⟩:=I.tuple hq;obtain⟨f0,f1,f2,f3,f4,f5⟩:=hf it (by simp);have hl:=rv.length;exact wpAny_pyNext_tuple_end (I.ok.hd hc) st (show s.heap.IsTuple a cx.toArray from p) (by simp;lia) λh' eb=>⟨rfl,I.turned (λb o hb e=>eb b o hb e) f0 f1 f3 f4 f5⟩
 self:=λ_ _ _ _ _ st h=>wpAny_pyIter_tupleiter st h
theorem a8h{P:aM}{w:aL}{K:aF}{tg:aR}(it:aA)(lo:Int)(n:Nat):JF P w K tg (Hd lo n) [it] it (λi h=>IsRangeIter h it (lo+(i:Nat)*1) ((n:Int)-(i:Nat)) 1) where
 mem:=by simp
 obj:=λi h st b hb=>by
  have e:b=it:=by simp_all
  subst e;exact⟨_,st,λv z=>by
   have z':=z;cases z'⟩
 keep:=λi h h' st k=>k it (by simp) _ st
 item:=by
  intro X hP hw hK hc i bz s σ H E I hf st hg;subst hP hw hK;obtain⟨f0,f1,f2,f3,f4,f5⟩:=hf it (by simp);refine(Walks.range (prog:=X.prog) (w:=X.w) (I.ok.hd hc) it lo 1 n).item i s _ _ hg st λv h' tk hv x_ kk=>?_;obtain⟨t,rfl⟩:=hv;have I1:Inv X bz σ H {s with heap:=h',toks:=tk}:=I.turned (λb o hb e=>kk b o (by simp_all) e) f0 f1 f3 f4 f5;refine⟨_,rfl,MX x_ rfl rfl (by decide) ⟨.int (lo+i),H,I1,⟨t,?_⟩,⟨rfl,rfl⟩,x_,λb hb=>(hf b hb).1⟩⟩;rw[jF]
 done:=by
  intro X hP hw hK hc i bz s σ H E I hf st hg;subst hP hw hK;obtain⟨f0,f1,f2,f3,f4,f5⟩:=hf it (by simp);exact wpAny_pyNext_range_end (I.ok.hd hc) st (by have:n<=i:=hg;lia) λh' eb=>⟨rfl,I.turned (λb o hb e=>eb b o hb e) f0 f1 f3 f4 f5⟩
 self:=λ_ _ _ _ _ st h=>wpAny_pyIter_rangeiter st h
def PU(K:aF)(tl:TE):TI:=λσ H R=>tl σ H λx H1=>∃a,x=.ref a/\(∃xs,ah K H1 a xs)/\R (Lr K a) H1
def Tw(K:aF)(tl:TE):TI:=λσ H R=>tl σ H λx H1=>∃a,x=.ref a/\(∃xs,cq K H1 a xs)/\R (Tv K a) H1
theorem C6(hl:PE X l tl):PI X tg l (PU X.K tl):=by
 intro bz s σ H R I h;refine D7 (hl bz s σ H _ I h) λv s1 ⟨x,H1,I1,r1,q1⟩=>?_;obtain⟨a,e,⟨xs,hq⟩,q⟩:=q1;subst e;cases r1;obtain⟨cx,rv,p,hz⟩:=I1.list hq;refine nF p.isList ⟨s1.heap.objs.size,[s1.heap.objs.size],_,_,H1,rfl,I1.kept λb o e=>bL _ e,b0Y a _,⟨_,dG _ rfl,rfl,rfl⟩,λb hb=>?_,q⟩;have e:b=s1.heap.objs.size:=by simp_all
 subst e;exact I1.xy (aT _) (I1.ck.fresh (aT _))
theorem IE(hl:PE X l tl):PI X tg l (Tw X.K tl):=by
 intro bz s σ H R I h;refine D7 (hl bz s σ H _ I h) λv s1 ⟨x,H1,I1,r1,q1⟩=>?_;obtain⟨a,e,⟨xs,hq⟩,q⟩:=q1;subst e;cases r1;obtain⟨cx,rv,p,hz⟩:=I1.tuple hq;refine sT (show s1.heap.IsTuple a cx.toArray from p) ⟨s1.heap.objs.size,[s1.heap.objs.size],_,_,H1,rfl,I1.kept λb o e=>bL _ e,a8u a _,⟨_,dG _ rfl,rfl,rfl⟩,λb hb=>?_,q⟩;have e:b=s1.heap.objs.size:=by simp_all
 subst e;exact I1.xy (aT _) (I1.ck.fresh (aT _))
theorem b3x{σ:St}{lo}(I:Inv X bz σ H s)(h1:-(2^62)<=lo)(h2:lo<2^62)(h3:-(2^62)<=hi)(h4:hi<2^62)
  (q:R (Hd lo (hi-lo).toNat) H):wpAny (model X.prog X.w) X.A (pyIter (.ref s.heap.objs.size)) (PIE X bz σ tg R) E {s with heap:=s.heap.push {cls:=.type "range",data:=.fields #[.int lo t,.int hi u,.int 1 v]},toks:=tk}:=by
 refine wpAny_pyIter_range (IsRange.new ..) (small_one h1 h2 h3 h4) ?_;have I1:Inv X bz σ H {s with heap:=s.heap.push {cls:=.type "range",data:=.fields #[.int lo t,.int hi u,.int 1 v]},toks:=tk}:=I.kept λb o e=>bL _ e;refine⟨(s.heap.push {cls:=.type "range",data:=.fields #[.int lo t,.int hi u,.int 1 v]}).objs.size,[(s.heap.push {cls:=.type "range",data:=.fields #[.int lo t,.int hi u,.int 1 v]}).objs.size],_,_,H,rfl,
  I1.kept λb o e=>bL _ e,a8h _ lo (hi-lo).toNat,?_,λb hb=>?_,q⟩
 ·have e1:lo+((0:Nat):Int)*1=lo:=by simp
  have e2:(((hi-lo).toNat:Nat):Int)-((0:Nat):Int)=sU lo hi 1:=by rw[sV];split<;>lia
  rw[e1,e2];exact dG _ rfl
 ·have e:b=(s.heap.push {cls:=.type "range",data:=.fields #[.int lo t,.int hi u,.int 1 v]}).objs.size:=by simp_all
  subst e;exact I1.xy (aT _) (I1.ck.fresh (aT _))
def b8D(ta:TA):TI:=λσ H R=>ta σ H λvs H1=>∃j,vs=[.int j]/\-(2^62)<=j/\j<2^62/\R (Hd 0 j.toNat) H1
theorem R8(hg:Gl X "range")(hm:X.mg "range"=bh)(ha:PA X [a] ta)(hs:starEach [a] X.env=[(false,eval a X.env)]:=by rfl):PI X tg (.Call (.Name "range" p) [a] [] pos) (b8D ta):=by
 intro bz s σ H R I h;refine Call_ (JD I hg hm boot_range (nJ (D7 (ha pos bz s σ H _ I h) λus s1 ⟨vs,H1,I1,r1,q1⟩=>?_) hs rfl));obtain⟨j,e,q1,q2,q⟩:=q1;subst e;cases r1 with
 |cons r rr =>
  cases rr;obtain⟨t,rfl⟩:=r;exact sW (b3x I1 (by lia) (by lia) q1 q2 (by lia))
def EF(wi:TI)(g:TG)(tb:TS):TS:=λD σ H=>wi σ H λJ H1=>∃W:Nat->Nat->St->Hp->Prop,(∃m,W 0 m σ H1)/\∀i m σ H,W i m σ H →
 (J.stop i H/\D.nx σ H)\/(J.go i H/\∃N,(∀au H',N au H'->∃m',m'<m/\W (i+1) m' au H')/\∀x H',J.By i H x H'->g x σ H' λir H2=>tb {D with nx:=N,ct:=N,bk:=D.nx} ir H2)
def MY(fp:List aA)(h:aJ):List (aA×Obj):=fp.filterMap λb=>(h.get? b).map λo=>(b,o)
theorem PV(hb:b∈fp)(e:h.get? b=av o):(b,o)∈MY fp h:=nK.mpr ⟨b,hb,by rw[e];rfl⟩
theorem b0p(hp:p∈MY fp h):p.1∈fp/\h.get? p.1=av p.2:=by
 obtain⟨b,hb,e⟩:=nK.mp hp;cases q:h.get? b with
 |none=>rw[q] at e;cases e
 |some o =>
  rw[q] at e;have e':=bD e;subst e';exact⟨hb,q⟩
theorem Inv.pinned{σ:St}(I:Inv X bz σ H s)(hf:∀b∈fp,xp X bz H b)(ho:∀b∈fp,∃o,s.heap.get? b=av o/\∀v,o.data≠.cell v):Inv X (bz++MY fp s.heap) σ H s :=
 I.ke λp hp=>(bJ.mp hp).elim (λz=>I.pin p (eL _ z)) λz=>by
  obtain⟨hb,e⟩:=b0p z;obtain⟨f0,f1,f2,_⟩:=hf p.1 hb;obtain⟨o,e',d⟩:=ho p.1 hb;rw[e] at e';cases e';exact⟨e,f0,f1,f2,d⟩
def Inv.ki{σ:St}(I:Inv X (bz++pl) σ H s):Inv X bz σ H s:=I.ke λp hp=>I.pin p (eL _ (fW _ hp))
theorem IF(hp:qG (model X.prog X.w) X.A X.env X.xe)(hc:X.calm=true)(hi:PI X tg iter wi)(hg:PG X tg g)(hb:fu X body tb)
  (hs:∀x,foldedSetIterable iter X.env x=pure x:=by intro _;rfl):PS X (.For tg iter body [] pos) (EF wi g tb):=by
 intro bz s σ H D I h;refine wpAny_For (D7 (hi bz s σ H _ I h) λv s1 h1=>D7 h1 λHc s2 h2=>?_) hs;obtain⟨it,fp,tn,J,H2,e,I2,T,Gz,f2,W,⟨m0,w0⟩,turn⟩:=h2;subst e;have stat:∀{H':Hp},(∀b∈fp,H' b=bh)->∀b∈fp,xp X bz H' b:=λhn b hb=>⟨hn b hb,(f2 b hb).2⟩;refine codeAny_forLoop_any (λn s'=>∃i au H',Inv X bz au H' s'/\tn i s'.heap/\(∀b∈fp,H' b=bh)/\W i n au H') ?_ m0 ⟨0,σ,H2,I2,Gz,λb hb=>(f2 b hb).1,w0⟩;rintro n s3 ⟨i,zx,H3,I3,PX,F',w3⟩;rcases turn i n zx H3 w3 with⟨stop,qn⟩|⟨go,N,hN,step⟩
 ·refine jE hp (D7 (T.done X rfl rfl rfl hc i bz s3 zx H3 X.xe I3 (stat F') PX stop) λr s4 ⟨hr,I4⟩=>?_);subst hr;exact lP ⟨zx,H3,I4,qn⟩
 ·refine jE hp (D7 (T.item X rfl rfl rfl hc i bz s3 zx H3 X.xe I3 (stat F') PX go) λr s4 ⟨u,hr,h4⟩=>?_);subst hr;refine jE hp (D7 h4 λ_ s5 ⟨x,H5,I5,r5,y5,Ls,PY⟩=>(jE hp (D7 (hg _ s5 zx H5 x u _ (I5.pinned (stat PY) (T.obj _ _ Ls)) r5 (step x H5 y5)) λ_ s6 ⟨Tz,H6,I6,q6⟩=>(jE hp (D7 (hb _ s6 Tz H6 _ I6 q6) λf s7 q7=>?_)))));have again:∀{EG:St}{H7:Hp},Inv X (bz++MY fp s5.heap) EG H7 s7->N EG H7->∃m,m<n/\∃i au H',Inv X bz au H' s7/\tn i s7.heap/\(∀b∈fp,H' b=bh)/\W i m au H':=λ{EG H7}I7 n7=>by
   obtain⟨m',hm,w7⟩:=hN EG H7 n7;refine⟨m',hm,i+1,EG,H7,I7.ki,T.keep _ _ _ Ls λb hb o e=>(I7.pin (b,o) (eL _ (eL _ (PV hb e)))).1,λb hb=>?_,w7⟩;obtain⟨o,e,d⟩:=T.obj _ _ Ls b hb;exact(I7.pin (b,o) (eL _ (eL _ (PV hb e)))).2.1
  cases f with
  |next=>obtain⟨EG,H7,I7,n7⟩:=q7;exact again I7 n7
  |cont=>obtain⟨EG,H7,I7,n7⟩:=q7;exact again I7 n7
  |brk=>obtain⟨EG,H7,I7,q7⟩:=q7;exact⟨EG,H7,I7.ki,q7⟩
  |ret v=>obtain⟨x7,EG,H7,I7,r7,q7⟩:=q7;exact⟨x7,EG,H7,I7.ki,r7,q7⟩
theorem xZ{K}{g:TG}{tb:TS}{D:Ends}(Pv:Nat->St->Hp->Prop)(h0:Pv 0 σ H)(hl:∀i σ H,i<=bx xs->Pv i σ H->ah K H a xs)
  (hs:∀i x σ H,xs[i]?=av x->Pv i σ H->g x σ H λir H2=>tb {D with nx:=Pv (i+1),ct:=Pv (i+1),bk:=D.nx} ir H2) (hd:∀σ H,Pv (bx xs) σ H->D.nx σ H) :
  ∃W:Nat->Nat->St->Hp->Prop,(∃m,W 0 m σ H)/\∀i m σ H,W i m σ H →
   ((Lr K a).stop i H/\D.nx σ H)\/((Lr K a).go i H/\∃N,(∀au H',N au H'->∃m',m'<m/\W (i+1) m' au H')/\∀x H',(Lr K a).By i H x H'->g x σ H' λir H2=>tb {D with nx:=N,ct:=N,bk:=D.nx} ir H2):=by
 refine⟨λi m σ H=>m=bx xs-i/\i<=bx xs/\Pv i σ H,⟨bx xs,by simp,dM _,h0⟩,?_⟩;rintro i m σ H ⟨rfl,hi,p⟩;have q:=hl i σ H hi p;by_cases fk:i<bx xs
 ·refine .inr ⟨⟨xs,xs[i],q,by simp[fk]⟩,Pv (i+1),λau H' p'=>⟨bx xs-(i+1),by lia,rfl,fk,p'⟩,λx H' y=>?_⟩;obtain⟨e,y⟩:=y;subst e;exact hs i x σ _ (y xs q) p
 ·have e:i=bx xs:=by lia
  subst e;exact .inl ⟨⟨xs,q,aT _⟩,hd σ H p⟩
theorem e9b{K}{g:TG}{tb:TS}{D:Ends}(Pv:Nat->St->Hp->Prop)(h0:Pv 0 σ H)(hl:∀i σ H,i<=bx xs->Pv i σ H->cq K H a xs)
  (hs:∀i x σ H,xs[i]?=av x->Pv i σ H->g x σ H λir H2=>tb {D with nx:=Pv (i+1),ct:=Pv (i+1),bk:=D.nx} ir H2) (hd:∀σ H,Pv (bx xs) σ H->D.nx σ H) :
  ∃W:Nat->Nat->St->Hp->Prop,(∃m,W 0 m σ H)/\∀i m σ H,W i m σ H →
   ((Tv K a).stop i H/\D.nx σ H)\/((Tv K a).go i H/\∃N,(∀au H',N au H'->∃m',m'<m/\W (i+1) m' au H')/\∀x H',(Tv K a).By i H x H'->g x σ H' λir H2=>tb {D with nx:=N,ct:=N,bk:=D.nx} ir H2):=by
 refine⟨λi m σ H=>m=bx xs-i/\i<=bx xs/\Pv i σ H,⟨bx xs,by simp,dM _,h0⟩,?_⟩;rintro i m σ H ⟨rfl,hi,p⟩;have q:=hl i σ H hi p;by_cases fk:i<bx xs
 ·refine .inr ⟨⟨xs,xs[i],q,by simp[fk]⟩,Pv (i+1),λau H' p'=>⟨bx xs-(i+1),by lia,rfl,fk,p'⟩,λx H' y=>?_⟩;obtain⟨e,y⟩:=y;subst e;exact hs i x σ _ (y xs q) p
 ·have e:i=bx xs:=by lia
  subst e;exact .inl ⟨⟨xs,q,aT _⟩,hd σ H p⟩
theorem PZ{lo}{g:TG}{tb:TS}{D:Ends}(Pv:Nat->St->Hp->Prop)(h0:Pv 0 σ H)
  (hs:∀i σ H,i<n->Pv i σ H->g (.int (lo+i)) σ H λir H2=>tb {D with nx:=Pv (i+1),ct:=Pv (i+1),bk:=D.nx} ir H2) (hd:∀σ H,Pv n σ H->D.nx σ H) :
  ∃W:Nat->Nat->St->Hp->Prop,(∃m,W 0 m σ H)/\∀i m σ H,W i m σ H →
   ((Hd lo n).stop i H/\D.nx σ H)\/((Hd lo n).go i H/\∃N,(∀au H',N au H'->∃m',m'<m/\W (i+1) m' au H')/\∀x H',(Hd lo n).By i H x H'->g x σ H' λir H2=>tb {D with nx:=N,ct:=N,bk:=D.nx} ir H2):=by
 refine⟨λi m σ H=>m=n-i/\i<=n/\Pv i σ H,⟨n,by simp,dM _,h0⟩,?_⟩;rintro i m σ H ⟨rfl,hi,p⟩;by_cases fk:i<n
 ·refine .inr ⟨fk,Pv (i+1),λau H' p'=>⟨n-(i+1),by lia,rfl,fk,p'⟩,λx H' y=>?_⟩;obtain⟨e,y⟩:=y;subst e y;exact hs i σ _ fk p
 ·have e:i=n:=by lia
  subst e;exact .inl ⟨Nat.le_refl _,hd σ H p⟩
theorem b2G(Pv:St->Hp->Prop)(μ:St->Hp->Nat)(h0:Pv σ H)
  (hs:∀σ H,Pv σ H->c σ H λb H1=>if b=true then tb {D with nx:=λau H'=>Pv au H'/\μ au H'<μ σ H,ct:=λau H'=>Pv au H'/\μ au H'<μ σ H,bk:=D.nx} σ H1 else D.nx σ H1)
  (mono:∀σ H Q Q',(∀b H1,Q b H1->Q' b H1)->c σ H Q->c σ H Q'):N3 c tb D σ H:=by
 refine⟨λm σ H=>m=μ σ H/\Pv σ H,⟨_,rfl,h0⟩,?_⟩;rintro m σ H ⟨rfl,p⟩;refine mono σ H _ _ (λb H1 q=>?_) (hs σ H p);cases b with
 |true=>exact⟨_,λau H' ⟨p',l⟩=>⟨_,l,rfl,p'⟩,q⟩
 |false=>exact q
abbrev R2:=V->V->Hp->VK->Prop
def gw(X:Cx)(f:aE->aE->Sem aE)(r:R2):Prop :=
 ∀bz s(σ:St)H x y v u Q,Inv X bz σ H s->RelV x v->RelV y u->r x y H Q →
  wpAny (model X.prog X.w) X.A (f v u) (EP X bz σ Q) X.xe s
def TC(X:Cx)(f:aE->Sem aE)(r:V->Hp->VK->Prop):Prop :=
 ∀bz s(σ:St)H x v Q,Inv X bz σ H s->RelV x v->r x H Q →
  wpAny (model X.prog X.w) X.A (f v) (EP X bz σ Q) X.xe s
def K6(X:Cx)(f:aE)(r:List V->Hp->VK->Prop):Prop :=
 ∀bz s(σ:St)H xs us Q,Inv X bz σ H s->Vals xs us->r xs H Q →
  wpAny (model X.prog X.w) X.A (call f us) (EP X bz σ Q) X.xe s
def c0l(X:Cx)(r:V->Hp->(Bool->Hp->Prop)->Prop):Prop :=
 ∀bz s(σ:St)H x v Q,Inv X bz σ H s->RelV x v->r x H Q →
  wpAny (model X.prog X.w) X.A (truthy v) (TP X bz σ Q) X.xe s
def P_(r:R2)(ta tb:TE):TE:=λσ H Q=>ta σ H λx H1=>tb σ H1 λy H2=>r x y H2 Q
def tUn(r:V->Hp->VK->Prop)(ta:TE):TE:=λσ H Q=>ta σ H λx H1=>r x H1 Q
inductive rI(C:Int->Int->Prop)(g:Int->Int->V)(x y:V)(H:Hp)(Q:VK):Prop|mk:∀i j,x=.int i->y=.int j->C i j->Q (g i j) H->rI C g x y H Q
inductive IG(g:Int->Int->V)(x y:V)(H:Hp)(Q:VK):Prop|mk:∀i j,x=.int i->y=.int j->Q (g i j) H->IG g x y H Q
inductive rU(g:Int->V)(x:V)(H:Hp)(Q:VK):Prop|mk:∀i,x=.int i->Q (g i) H->rU g x H Q
theorem TF(ha:PE X a ta)(hb:PE X b tb){σ:St}{R:V->V->Hp->Prop}(I:Inv X bz σ H s)
  (h:ta σ H λx H1=>tb σ H1 λy H2=>R x y H2) {f:aE->aE->Sem aE}
  (hf:∀v u s2 x y H2,Inv X bz σ H2 s2->RelV x v->RelV y u->R x y H2->wpAny (model X.prog X.w) X.A (f v u) Q X.xe s2) :
  wpAny (model X.prog X.w) X.A (eval a X.env) (λv vy=>wpAny (model X.prog X.w) X.A (eval b X.env) (λu vz=>wpAny (model X.prog X.w) X.A (f v u) Q X.xe vz) X.xe vy) X.xe s:=by
 exact D7 (ha bz s σ H _ I h) λv s1 ⟨x,H1,I1,r1,q1⟩=>(D7 (hb bz s1 σ H1 _ I1 q1) λu s2 ⟨y,H2,I2,r2,q2⟩=>(hf v u s2 x y H2 I2 r1 r2 q2))
theorem j8(ho:gw X (binaryOp op) r)(ha:PE X a ta)(hb:PE X b tb):PE X (.BinOp a op b pos) (P_ r ta tb):=by
 intro bz s σ H Q I h;exact wpAny_BinOp (TF ha hb I h λv u s2 x y H2 I2 rx ry q=>ho bz s2 σ H2 x y v u Q I2 rx ry q)
theorem Eh(ho:TC X (unaryOp op) r)(ha:PE X a ta):PE X (.UnaryOp op a pos) (tUn r ta):=by
 intro bz s σ H Q I h;exact UnaryOp_ (D7 (ha bz s σ H _ I h) λv s1 ⟨x,H1,I1,r1,q1⟩=>ho bz s1 σ H1 x v Q I1 r1 q1)
theorem Lu{g:Int->Int->Int}
  (rule:∀i j t u s Q E,C i j->Q (.int (g i j) s.toks) {s with toks:=s.toks+1}->wpAny (model X.prog X.w) X.A (f (.int i t) (.int j u)) Q E s) :
  gw X f (rI C λi j=>.int (g i j)):=by
 intro bz s σ H x y v u Q I rx ry h;obtain⟨i,j,rfl,rfl,hc,q⟩:=h;obtain⟨t,rfl⟩:=rx;obtain⟨t',rfl⟩:=ry;exact rule i j t t' s _ _ hc ⟨.int (g i j),H,I.tok _,⟨_,rfl⟩,q⟩
theorem b8w{g:Int->Int->Int}
  (rule:∀i j t u s Q E,Q (.int (g i j) s.toks) {s with toks:=s.toks+1}->wpAny (model X.prog X.w) X.A (f (.int i t) (.int j u)) Q E s) :
  gw X f (IG λi j=>.int (g i j)):=by
 intro bz s σ H x y v u Q I rx ry h;obtain⟨i,j,rfl,rfl,q⟩:=h;obtain⟨t,rfl⟩:=rx;obtain⟨t',rfl⟩:=ry;exact rule i j t t' s _ _ ⟨.int (g i j),H,I.tok _,⟨_,rfl⟩,q⟩
theorem P'{g:Int->Int->Bool}
  (rule:∀i j t u s Q E,Q (.bool (g i j)) s->wpAny (model X.prog X.w) X.A (f (.int i t) (.int j u)) Q E s) :
  gw X f (IG λi j=>.bl (g i j)):=by
 intro bz s σ H x y v u Q I rx ry h;obtain⟨i,j,rfl,rfl,q⟩:=h;obtain⟨t,rfl⟩:=rx;obtain⟨t',rfl⟩:=ry;exact rule i j t t' s _ _ ⟨.bl (g i j),H,I,rfl,q⟩
def c0g(i j:Int):Prop:=0<j/\j<1073741824
def c1d(i j:Int):Prop:=0<=j/\j<=1000000/\i.natAbs<2^64
def EH(i j:Int):Prop:=(-(2^64)<i/\i<2^64)\/(-(2^64)<j/\j<2^64)
theorem EH.ok(h:EH i j):IntMulOk i j:=by
 rcases h with⟨h1,h2⟩|⟨h1,h2⟩
 ·exact .of_left (sX h1 h2)
 ·exact .of_right (sX h1 h2)
def D4:gw X (binaryOp .Add) (IG λi j=>.int (i+j)):=b8w λ_ _ _ _ _ _ _ q=>add_int q
def IH:gw X (binaryOp .Sub) (IG λi j=>.int (i-j)):=b8w λ_ _ _ _ _ _ _ q=>sub_int q
def He:gw X (binaryOp .Mult) (rI EH λi j=>.int (i*j)):=Lu λ_ _ _ _ _ _ _ hc q=>mul_int q hc.ok
theorem V9:gw X (binaryOp .FloorDiv) (rI c0g λi j=>.int (i/j)):=Lu λi j _ _ _ _ _ hc q=>by
 have h1:(0:Int)<j:=hc.1;have h2:j<1073741824:=hc.2;exact sY (by lia) (by rw[sZ i (by lia)];exact q) (.inl (PyProof.noPylong_small (by lia)))
theorem w8:gw X (binaryOp .Mod) (rI (λ_ j=>0<j) λi j=>.int (i%j)):=Lu λi j _ _ _ _ _ hc q=>by
 exact mod_int' (by lia) (by rw[Int.fmod_eq_emod_of_nonneg i (by lia)];exact q)
def Qa:gw X (binaryOp .Pow) (rI c1d λi j=>.int (i^j.toNat)):=Lu λ_ _ _ _ _ _ _ hc q=>pow_int_small hc.1 hc.2.1 hc.2.2 q
theorem unI{g:Int->Int}
  (rule:∀i t s Q E,Q (.int (g i) s.toks) {s with toks:=s.toks+1}->wpAny (model X.prog X.w) X.A (f (.int i t)) Q E s) :
  TC X f (rU λi=>.int (g i)):=by
 intro bz s σ H x v Q I rx h;obtain⟨i,rfl,q⟩:=h;obtain⟨t,rfl⟩:=rx;exact rule i t s _ _ ⟨.int (g i),H,I.tok _,⟨_,rfl⟩,q⟩
def V2:TC X (unaryOp .USub) (rU λi=>.int (-i)):=unI λ_ _ _ _ _ q=>neg_int q
def b9r:V->V->Bool
 |.int _,.int _=>true|.str _,.str _=>true
 |_,_=>false
def rEq:R2:=λx y H Q=>b9r x y=true/\Q (.bl (decide (x=y))) H
def rNe:R2:=λx y H Q=>b9r x y=true/\Q (.bl (!decide (x=y))) H
theorem a9T:decide (V.int i=V.int j)=(i==j):=by
 rw[iD];simp
theorem a9u:decide (V.str i=V.str j)=(i==j):=by
 rw[iD];simp
theorem A8{σ:St}(I:Inv X bz σ H s)(q:Q (.bl k) H)(e:k=k'):EP X bz σ Q (.bool k') s:=by
 subst e;exact⟨.bl k,H,I,rfl,q⟩
theorem E6:gw X (compareOp .Eq) rEq:=by
 intro bz s σ H x y v u Q I rx ry h;obtain⟨hs,q⟩:=h;cases x with
 |int i =>
  obtain⟨t,rfl⟩:=rx;cases y with
  |int j=>obtain⟨t',rfl⟩:=ry;exact eq_int (A8 I q a9T)
  |_=>exact absurd (show false=true from hs) cX
 |str i =>
  obtain⟨t,rfl⟩:=rx;cases y with
  |str j=>obtain⟨t',rfl⟩:=ry;exact eq_str (A8 I q a9u)
  |_=>exact absurd (show false=true from hs) cX
 |_=>cases y<;>exact absurd (show false=true from hs) cX
theorem Ei:gw X (compareOp .NotEq) rNe:=by
 intro bz s σ H x y v u Q I rx ry h;obtain⟨hs,q⟩:=h;cases x with
 |int i =>
  obtain⟨t,rfl⟩:=rx;cases y with
  |int j=>obtain⟨t',rfl⟩:=ry;exact ne_int (A8 I q (congrArg not a9T))
  |_=>exact absurd (show false=true from hs) cX
 |str i =>
  obtain⟨t,rfl⟩:=rx;cases y with
  |str j=>obtain⟨t',rfl⟩:=ry;exact ne_str (A8 I q (congrArg not a9u))
  |_=>exact absurd (show false=true from hs) cX
 |_=>cases y<;>exact absurd (show false=true from hs) cX
def EI:gw X (compareOp .Lt) (IG λi j=>.bl (decide (i<j))):=P' λ_ _ _ _ _ _ _ q=>lt_int q
theorem EJ:gw X (compareOp .LtE) (IG λi j=>.bl (decide (i<=j))):=P' λ_ _ _ _ _ _ _ q=>le_int q
def Ej:gw X (compareOp .Gt) (IG λi j=>.bl (decide (j<i))):=P' λ_ _ _ _ _ _ _ q=>gt_int q
def Qb:gw X (compareOp .GtE) (IG λi j=>.bl (decide (j<=i))):=P' λ_ _ _ _ _ _ _ q=>ge_int q
theorem Lv:gw X (compareOp .Is) (λx y H Q=>y=.non/\Q (.bl (decide (x=.non))) H):=by
 intro bz s σ H x y v u Q I rx ry h;obtain⟨rfl,q⟩:=h;cases ry;refine is_none_gen (A8 I q ?_);cases x<;>first
  |(cases rx;rfl)
  |(obtain⟨t,rfl⟩:=rx;rfl)
theorem Ga:gw X (compareOp .IsNot) (λx y H Q=>y=.non/\Q (.bl (!decide (x=.non))) H):=by
 intro bz s σ H x y v u Q I rx ry h;obtain⟨rfl,q⟩:=h;cases ry;refine isnot_none_gen (A8 I q ?_);cases x<;>first
  |(cases rx;rfl)
  |(obtain⟨t,rfl⟩:=rx;rfl)
theorem a2o:gw X (compareOp .NotIn) (λx y H Q=>∃i j,x=.str i/\y=.str j/\Q (.bl (!(!(jG j i 0 j.length 1).isEmpty))) H):=by
 intro bz s σ H x y v u Q I rx ry h;obtain⟨i,j,rfl,rfl,q⟩:=h;obtain⟨t,rfl⟩:=rx;obtain⟨t',rfl⟩:=ry;exact notIn_str (A8 I q rfl)
theorem r9 b(h:op≠.In:=by decide)(h2:op≠.NotIn:=by decide):behindInMarks op b=false:=by
 have e1:(op==CmpOp.In)=false:=by cases op<;>first|rfl|exact absurd rfl h
 have e2:(op==CmpOp.NotIn)=false:=by cases op<;>first|rfl|exact absurd rfl h2
 cases b<;>simp[behindInMarks,e1,e2]
theorem Z3(ho:gw X (compareOp op) r)(ha:PE X a ta)(hb:PE X b tb)(hm:behindInMarks op b=false):PE X (.Compare a [op] [b] pos) (P_ r ta tb):=by
 intro bz s σ H Q I h;exact wpAny_Compare1 (TF ha hb I h λv u s2 x y H2 I2 rx ry q=>ho bz s2 σ H2 x y v u Q I2 rx ry q) hm
def b6m(t:TE):TT:=λσ H Q=>t σ H λx H'=>∃k,x=.bl k/\Q k H'
theorem l5(ho:gw X (compareOp op) r)(ha:PE X a ta)(hb:PE X b tb)(hm:behindInMarks op b=false):PT X (.Compare a [op] [b] pos) (b6m (P_ r ta tb)):=by
 intro bz s σ H Q I h;refine wpAny_isTrue_Compare1 (D7 (ha bz s σ H _ I h) λv s1 ⟨x,H1,I1,r1,q1⟩=>D7 (hb bz s1 σ H1 _ I1 q1) λu s2 ⟨y,H2,I2,r2,q2⟩ =>
  D7 (ho bz s2 σ H2 x y v u _ I2 r1 r2 q2) λc s3 ⟨z,H3,I3,r3,k,e,q3⟩=>?_) hm
 subst e;cases r3;exact gC ⟨H3,I3,q3⟩
def b2e(r r':R2)(ta tb tc:TE):TE:=λσ H Q=>ta σ H λx H1=>tb σ H1 λy H2=>r x y H2 λz H3=>∃k,z=.bl k/\
 (if k=true then tc σ H3 λw' H4=>r' y w' H4 Q else Q (.bl false) H3)
theorem b1L(ho:gw X (compareOp op) r)(mj:gw X (compareOp JG) r')(ha:PE X a ta)(hb:PE X b tb)(hc:PE X c tc)
  (hm:lastMarks [op,JG] [b,c]=false:=by with_unfolding_all rfl):PE X (.Compare a [op,JG] [b,c] pos) (b2e r r' ta tb tc):=by
 intro bz s σ H Q I h;refine Compare_chain (D7 (ha bz s σ H _ I h) λv s1 ⟨x,H1,I1,r1,q1⟩=>chain_link (D7 (hb bz s1 σ H1 _ I1 q1) λu s2 ⟨y,H2,I2,r2,q2⟩ =>
  D7 (ho bz s2 σ H2 x y v u _ I2 r1 r2 q2) λd s3 ⟨z,H3,I3,r3,k,e,q3⟩=>?_)) hm
 subst e;cases r3;refine gC ?_;cases k with
 |false=>exact ite_ff ⟨.bl false,H3,I3,rfl,q3⟩
 |true=>exact ite_tt (chain_last (D7 (hc bz s3 σ H3 _ I3 q3) λw' s4 ⟨z',H4,I4,r4,q4⟩=>mj bz s4 σ H4 y z' u w' Q I4 r2 r4 q4))
theorem MZ(ho:gw X (compareOp op) r)(mj:gw X (compareOp JG) r')(ha:PE X a ta)(hb:PE X b tb)(hc:PE X c tc)
  (hm:lastMarks [op,JG] [b,c]=false:=by with_unfolding_all rfl):PT X (.Compare a [op,JG] [b,c] pos) (b6m (b2e r r' ta tb tc)):=by
 intro bz s σ H Q I h;refine isTrue_chain (D7 (ha bz s σ H _ I h) λv s1 ⟨x,H1,I1,r1,q1⟩=>test_link (D7 (hb bz s1 σ H1 _ I1 q1) λu s2 ⟨y,H2,I2,r2,q2⟩ =>
  D7 (ho bz s2 σ H2 x y v u _ I2 r1 r2 q2) λd s3 ⟨z,H3,I3,r3,k,e,q3⟩=>?_)) hm
 subst e;cases r3;refine gC ?_;cases k with
 |false =>
  obtain⟨k',e',q'⟩:=q3;cases e';exact ite_ff ⟨H3,I3,q'⟩
 |true =>
  refine ite_tt (test_last (D7 (hc bz s3 σ H3 _ I3 q3) λw' s4 ⟨z',H4,I4,r4,q4⟩=>D7 (mj bz s4 σ H4 y z' u w' _ I4 r2 r4 q4) λd' s5 ⟨z2,H5,I5,r5,k2,e2,q5⟩=>?_));subst e2;cases r5;exact gC ⟨H5,I5,q5⟩
def b8t(K:aF)(x:V)(H:Hp)(k:Bool):Prop :=
 ∃p xs,x=.ref p/\ah K H p xs/\k=!xs.isEmpty
theorem a4C(r:Vals xs cx):(!cx.toArray.isEmpty)=!xs.isEmpty:=by
 cases r<;>simp
theorem JH:(sizeLine:Nat)<2^63:=by decide
theorem b7z:c0l X (λx H Q=>∃k,b8t X.K x H k/\Q k H):=by
 intro bz s σ H x v Q I rx h;obtain⟨k,⟨p,xs,rfl,hx,e'⟩,q⟩:=h;have hs:=bE;cases rx;subst e';obtain⟨cx,r,pl,hz⟩:=I.list hx;have hlen:=r.length;exact wpAny_truthy_list pl.isList (by grind) ⟨H,I.tok _,by rw[a4C r];exact q⟩
theorem a7J(ha:PE X a ta)(he:∀whole,isTrue a X.env whole=(do let v <- whole;standAt a.pos;holding [v] (truthy v))) :
  PT X a (λσ H Q=>ta σ H λx H'=>∃k,b8t X.K x H' k/\Q k H'):=by
 intro bz s σ H Q I h;exact sP (D7 (ha bz s σ H _ I h) λv s1 ⟨x,H1,I1,r1,q1⟩=>b7z bz s1 σ H1 x v Q I1 r1 q1) (he _)
theorem U1(r:Vals [x] us):∃u,us=[u]/\RelV x u:=by
 cases r with
 |cons r1 r2=>cases r2;exact⟨_,rfl,r1⟩
theorem Lw(r:Vals [x,y] us):∃u w',us=[u,w']/\RelV x u/\RelV y w':=by
 cases r with
 |cons r1 r2 =>
  cases r2 with
  |cons r3 r4=>cases r4;exact⟨_,_,rfl,r1,r3⟩
theorem b3Q:K6 X (.builtin "abs") (λxs H Q=>∃i,xs=[.int i]/\Q (.int (if i<0 then -i else i)) H):=by
 intro bz s σ H xs us Q I r h;obtain⟨i,rfl,q⟩:=h;obtain⟨u,rfl,t,rfl⟩:=U1 r;exact call_abs_int λu tk=>⟨.int (if i<0 then -i else i),H,I.tok _,⟨_,rfl⟩,q⟩
theorem Qc(hc:X.calm=true):K6 X (.builtin "min") (λxs H Q=>∃i j,xs=[.int i,.int j]/\Q (.int (if j<i then j else i)) H):=by
 intro bz s σ H xs us Q I r h;obtain⟨i,j,rfl,q⟩:=h;obtain⟨u,w',rfl,⟨t,rfl⟩,t',rfl⟩:=Lw r;refine min_two_ints (I.ok.hd hc) λh' tk k=>⟨_,H,I.kept k,?_,q⟩;by_cases hj:j<i
 ·rw[if_pos hj,if_pos hj];exact⟨_,rfl⟩
 ·rw[if_neg hj,if_neg hj];exact⟨_,rfl⟩
theorem TH:K6 X (.type "int") (λxs H Q=>(∃i,xs=[.int i]/\Q (.int i) H)\/∃k,xs=[.bl k]/\Q (.int (if k then 1 else 0)) H):=by
 intro bz s σ H xs us Q I r h;rcases h with⟨i,rfl,q⟩|⟨k,rfl,q⟩
 ·obtain⟨u,rfl,t,rfl⟩:=U1 r;exact call_int_int ⟨.int i,H,I,⟨_,rfl⟩,q⟩
 ·obtain⟨u,rfl,r1⟩:=U1 r;cases r1;exact call_int_bool ⟨.int (if k then 1 else 0),H,I.tok _,⟨_,rfl⟩,q⟩
theorem E5:K6 X (.type "str") (λxs H Q=>∃i,xs=[.int i]/\i.natAbs.log2<1920/\Q (.str (toString i)) H):=by
 intro bz s σ H xs us Q I r h;obtain⟨i,rfl,hz,q⟩:=h;obtain⟨u,rfl,t,rfl⟩:=U1 r;exact PySem.P.str_of_int hz ⟨.str _,H,I.tok _,⟨_,rfl⟩,q⟩
structure zy(h:aJ)(x dx C:aA)(mA:aC->Option aE):Prop where
 obj:h.get? x=av (iO C dx)
 ns:h.Ns1 dx mA
 ne:dx≠x
theorem b0H{h:aJ}(n:h.Ns1 dx mA):∃od,h.get? dx=av od/\∀name,nL name od=av (mA name):=by
 obtain⟨o,es,ep,ho,hd,hk,_,hm⟩:=n;refine⟨o,ho,λname=>?_⟩;have e:=hm name;unfold nsFind findBy at e;rw[<-Array.find?_toList] at e;unfold nL;rw[hd];dsimp only;split
 ·rename_i y q
  rw[q] at e;exact congrArg av e
 ·rename_i q
  rw[q] at e;have a:es.toList.any (·.refKey)=false:=by
   rw[List.any_eq_false];intro y hy;obtain⟨z,t,TL⟩:=hk y (Array.mem_toList_iff.mp hy);simp[tD,TL]
  have a':¬es.toList.any (·.refKey)=true:=by rw[a];exact cX
  rw[if_neg a'];exact congrArg av e
def zy.look(I:zy h x dx C mA):∃od,W.InstAt h x (iO C dx) C (av od)/\∀name,nL name od=av (mA name) :=
 let ⟨od,ho,hl⟩:=b0H I.ns
 ⟨od,⟨I.obj,rfl,rfl,ho⟩,hl⟩
section
variable{prog:aM}{w:aL}{A:aV}{E:aE->aG->Prop}{s:aG}{K:aF}{x dx C f:aA}{mA:aC->Option aE}{name:aC}{v:aE}
theorem b4x(X:K.In s.heap)(I:zy s.heap x dx C mA)(hg:kK K C name=true)(hh:lT K C=true)
  (ha:bO K (.ref C) name=av bh) (hv:mA name=av v) (Lx:tE v=true) (h:Q v {s with toks:=s.toks+1}) :
  wpAny (model prog w) A (getAttr (.ref x) name expr) Q E s:=by
 obtain⟨od,J,hl⟩:=I.look;exact W.get_value X J (qH hg).1 (W.findObj_own hh ha rfl (by rw[hl,hv])) Lx h
theorem b3b(X:K.In s.heap)(I:zy s.heap x dx C mA)(hg:kK K C name=true)
  (hf:bO K (.ref C) name=av (av (.ref f))) (ht:qI K (.ref f)=true) (hv:mA name=bh) (h:Q (.ref f,[.ref x]) s) :
  wpAny (model prog w) A (getMethod (.ref x) name pl) Q E s:=by
 obtain⟨od,J,hl⟩:=I.look;exact W.method_fn X J (qH hg).1 (qH hg).2 hf (beq_iff_eq.mp ht) (by show(nL name od).map (·.isSome)=av false;rw[hl,hv];rfl) h
theorem b5l(X:K.In s.heap)(I:zy s.heap x dx C mA)
  (hs:bO K (.ref C) "__setattr__"=av (av (.builtin "object.__setattr__"))) (hp:nN K C=true) (ht:qJ K C name=av bh) (hh:lT K C=true)
  (hw:pW mA ns) (xq:bx ns<=sizeLine)
  (h:∀h',zy h' x dx C (λy=>if y=name then av v else mA y)->kH dx s.heap h'->Q () {s with heap:=h',toks:=s.toks+2}) :
  wpAny (model prog w) A (setAttr (.ref x) name v) Q E s:=by
 obtain⟨od,J,hl⟩:=I.look;refine W.set_plain X J hs (W.osa_open X J hp ht λb=>?_);obtain⟨cd,hc,zw⟩:=W.any_some hh;refine aN (bG (aN (aN (tF I.obj (aN (W.Looks.here (W.looks_clsIn X hc) ?_))))));rw[zw];refine bG (aN (bG (aN (wpAny_nsSet1 I.ns λh' Gb II=>?_))));obtain⟨oD,esD,epD,hoD,hdD,hcD⟩:=Gb.count (zP name v hw);exact aN (wpAny_lookBehind hoD (by rw[hdD];exact pastItsLine_dict (bF hcD (by simp_all))) (bG (h _ ⟨(II.2 _ (bV I.ne)).trans I.obj,Gb,I.ne⟩ II)))
theorem b2c(X:K.In s.heap)(hm:nQ K C=true)
  (hi:bO K (.ref C) "__init__"=av (av (.ref f))) (hf:W.typeIn K (.ref f)=av (.type "function"))
  (h:codeAny (model prog w) (A.under (.builtin "type.__call__" ⟨.ref C::vs,kw⟩)) (.call (.ref f) ⟨.ref (s.heap.objs.size+1)::vs,kw⟩) (W.InitBack (s.heap.objs.size+1) R)
   {s with heap:=(s.heap.push iR).push (iO C s.heap.objs.size)}) :
  codeAny (model prog w) A (.call (.ref C) ⟨vs,kw⟩) R s:=by
 obtain⟨hh,g,d,t,os⟩:=s;exact W.make_core (W.makes_of X hm) (W.looks_findIn X hi) (λself=>W.bind_fn X self hf) (.inl rfl) h
end
def Z6(f:aC)(v:V):List (aC×V)->List (aC×V)
 |[]=>[(f,v)]
 |(g,x)::r=>if g=f then (g,v)::r else (g,x)::Z6 f v r
theorem a3i(f g:aC)(v:V):∀fs,(Z6 f v fs).lookup g=if g=f then av v else fs.lookup g
 |[]=>by
  show iS g [(f,v)]=_;by_cases h:g=f
  ·have hb:=beq_iff_eq.mpr h;simp only[iS,hb,if_pos h]
  ·have hb:=beq_eq_false_iff_ne.mpr h;simp only[iS,hb,if_neg h]
 |(k,x)::r=>by
  rw[show Z6 f v ((k,x)::r)=(if k=f then (k,v)::r else (k,x)::Z6 f v r) from rfl];by_cases hk:k=f
  ·rw[if_pos hk];by_cases h:g=k
   ·have hb:=beq_iff_eq.mpr h;simp only[iS,hb,if_pos (h.trans hk)]
   ·simp only[iS,beq_eq_false_iff_ne.mpr h,if_neg λe:g=f=>h (e.trans hk.symm)]
  ·rw[if_neg hk];by_cases h:g=k
   ·simp only[iS,beq_iff_eq.mpr h,if_neg λe:g=f=>hk (h.symm.trans e)]
   ·simp only[iS,beq_eq_false_iff_ne.mpr h];exact(a3i f g v r)
theorem TM(f:aC)(v:V):∀fs,f∈(Z6 f v fs).map (·.1)/\∀g,g∈fs.map (·.1)->g∈(Z6 f v fs).map (·.1)
 |[]=>⟨by simp[Z6],λg h=>by simp at h⟩
 | (k,x)::r=>by
  obtain⟨i1,i2⟩:=TM f v r;rw[show Z6 f v ((k,x)::r)=(if k=f then (k,v)::r else (k,x)::Z6 f v r) from rfl];by_cases hk:k=f
  ·rw[if_pos hk];subst hk;exact⟨by simp,λg h=>by simpa using h⟩
  ·rw[if_neg hk];refine⟨?_,λg h=>?_⟩
   ·rw[cS];exact bZ _ i1
   ·rw[cS] at h⊢;rcases bH.mp h with e|e
    ·exact bH.mpr (.inl e)
    ·exact bZ _ (i2 g e)
theorem a3l(f:aC)(v:V):∀fs,bx (Z6 f v fs)<=bx fs+1
 |[]=>by simp[Z6]
 |(k,x)::r=>by
  have ih:=a3l f v r;rw[show Z6 f v ((k,x)::r)=(if k=f then (k,v)::r else (k,x)::Z6 f v r) from rfl];by_cases hk:k=f
  ·rw[if_pos hk,eM,eM];lia
  ·rw[if_neg hk,eM,eM];lia
theorem uj.some_of(r:uj (av v) o):∃u,o=av u/\RelV v u:=by
 cases o with
 |none=>exact(show False from r).elim
 |some u=>exact⟨u,rfl,r⟩
theorem uj.none_of(r:uj bh o):o=bh:=by
 cases o with
 |none=>rfl
 |some u=>exact(show False from r).elim
theorem b0x(r:RelV v u):tE u=true:=by
 cases v with
 |non=>cases (show u=iN from r);rfl
 |bl b=>cases (show u=pT b from r);rfl
 |int i=>obtain⟨t,e⟩:=(show ∃t,u=iM i t from r);cases e;rfl
 |str x=>obtain⟨t,e⟩:=(show ∃t,u=jB x t from r);cases e;rfl
 |ref a=>cases (show u=cZ a from r);rfl
 |ty n=>cases (show u=pV n from r);rfl
theorem Qd(ck:mz H h)(e:H a=av (.ins C dx fs)):∃mA,zy h a dx C mA/\(∀f,uj (fs.lookup f) (mA f))/\pW mA (fs.map (·.1))/\bx fs<=1000/\H dx=av (.own a):=by
 obtain⟨d,z,ne,ob,mA,n,r,q⟩:=(show dh H h a (.ins C dx fs) from ck a _ e);exact⟨mA,⟨ob,n,ne⟩,r,q,z,d⟩
structure z_(K:aF)(C:aA):Prop where
 pg:kK K C eI=true
 hd:lT K C=true
 po:nN K C=true
 sa:bO K (.ref C) "__setattr__"=av (av (.builtin "object.__setattr__"))
def z_.get{K}(c:z_ K C)f:kK K C f=true:=c.pg
def dg(K:aF)(C:aA)(f:aC):Prop:=bO K (.ref C) f=av bh
theorem dg.M_{K}(n:dg K C f):qJ K C f=av bh:=by
 unfold qJ;rw[show bO K (.ref C) f=av bh from n];rfl
structure Con(K:aF)(C:aA)(f:aC)(v:V)(u:aE):Prop where
 at_:bO K (.ref C) f=av (av u)
 rel:RelV v u
 get:tG K u "__get__"=av bh
 cp:W.copiedNames.contains f=false
structure Ly(K:aF)(C:aA)(m:aC)(f:aA):Prop where
 at_:bO K (.ref C) m=av (av (.ref f))
 fn:qI K (.ref f)=true
 kp:dX K (.ref f)=true
section
variable{X:Cx}{bz:List (aA×Obj)}{σ:St}{H:Hp}{s:aG}{a C dx:aA}{fs:List (aC×V)}{f:aC}{v:V}{A:aV}{E:aE->aG->Prop}
theorem a8i(I:Inv X bz σ H s)(e:H a=av (.ins C dx fs))(c:z_ X.K C)(n:dg X.K C f)(l:fs.lookup f=av v)
  (h:∀u s',Inv X bz σ H s'->RelV v u->Q u s'):wpAny (model X.prog X.w) A (getAttr (.ref a) f b) Q E s:=by
 obtain⟨mA,O,r,_,_,_⟩:=Qd I.ck e;obtain⟨u,hu,ru⟩:=uj.some_of (l▸r f);exact b4x I.ix O (c.get f) c.hd n hu (b0x ru) (h u _ (I.tok _) ru)
theorem TN(I:Inv X bz σ H s)(e:H a=av (.ins C dx fs))(c:z_ X.K C)(k:Ly X.K C m g)(l:fs.lookup m=bh)
  (h:Q (.ref g,[.ref a]) s):wpAny (model X.prog X.w) A (getMethod (.ref a) m pl) Q E s:=by
 obtain⟨mA,O,r,_,_,_⟩:=Qd I.ck e;exact b3b I.ix O (c.get m) k.at_ k.fn (uj.none_of (l▸r m)) h
theorem a4e(I:Inv X bz σ H s)(e:H a=av (.ins C dx fs))(c:z_ X.K C)(n:dg X.K C f)(hl:bx fs<1000)(ry:RelV y u)
  (h:∀s',Inv X bz σ (upd H a (.ins C dx (Z6 f y fs))) s'->Q () s'):wpAny (model X.prog X.w) A (setAttr (.ref a) f u) Q E s:=by
 obtain⟨mA,O,r,wi,_,ho⟩:=Qd I.ck e;have hz:bx (fs.map (·.1))<=sizeLine:=by rw[aH,bE];lia
 refine b5l I.ix O c.sa c.po n.M_ c.hd wi hz λh' O' sb=>h _ ?_;have hd:∃o,h'.get? dx=av o:=let ⟨o,_,_,e',_⟩:=O'.ns;⟨o,e'⟩;refine I.write (e▸jI) (.inr ho) (λb q hb z=>(sb.2 b hb).trans z) hd ?_;refine⟨by rw[j3 O.ne];exact ho,?_,O.ne,O'.obj,_,O'.ns,λg=>?_,λg hg=>?_⟩
 ·have:=a3l f y fs;lia
 ·show uj ((Z6 f y fs).lookup g) (if g=f then av u else mA g);rw[a3i];by_cases q:g=f
  ·rw[if_pos q,if_pos q];exact ry
  ·rw[if_neg q,if_neg q];exact r g
 ·by_cases q:g=f
  ·rw[q];exact(TM f y fs).1
  ·refine(TM f y fs).2 g (wi g λz=>hg ?_);show(if g=f then av u else mA g)=bh;rw[if_neg q];exact z
theorem Inv.made(I:Inv X bz σ H s):Inv X bz σ (upd (upd H s.heap.objs.size (.own (s.heap.objs.size+1))) (s.heap.objs.size+1) (.ins C s.heap.objs.size []))
  {s with heap:=(s.heap.push iR).push (iO C s.heap.objs.size)}:=by
 have e1:(s.heap.push iR).get? s.heap.objs.size=av iR:=dG s.heap rfl;have e2:((s.heap.push iR).push (iO C s.heap.objs.size)).get? (s.heap.objs.size+1)=av (iO C s.heap.objs.size):=by
  have:=dG (s.heap.push iR) (o:=iO C s.heap.objs.size) rfl;rwa[gS] at this
 have e3:(s.heap.push iR).Ns s.heap.objs.size (λ_=>bh):=⟨W.emptyDict,#[],_,e1,rfl,(λe he=>absurd he (by simp)),λ_=>rfl⟩;refine(I.laid (o:=.own (s.heap.objs.size+1)) (t':=s.toks) (λb u q=>bL _ q) (aT _) ⟨_,e1⟩).laid (λb u q=>bL _ q) (Nat.le_of_eq (gS _ _)) ?_;have ne:s.heap.objs.size≠s.heap.objs.size+1:=dB (jJ _);refine⟨by rw[j3 ne,ae],dM _,ne,e2,λ_=>bh,(Heap.Ns1.of_empty e3).at λo q=>bL _ q,λ_=>jI,λy hy=>absurd rfl hy⟩
theorem b4n(hb:attributeBase e f env (eval e env)=eval e env)
  (h:wpAny (model prog w) A (eval e env) (λo vy=>wpAny (model prog w) A (getAttr o f true) Q E vy) E s):wpAny (model prog w) A (eval (.Attribute e f pos) env) Q E s :=
 Attribute_any_ h (by rw[arm_eval_Attribute,hb])
end
def b9t(K:aF)(ta:TE)(f:aC):TE:=λσ H Q=>ta σ H λx H1=>∃a C dx fs v,x=.ref a/\H1 a=av (.ins C dx fs)/\z_ K C/\dg K C f/\fs.lookup f=av v/\Q v H1
def c0E(K:aF)(ta tv:TE)(f:aC):TS:=λD σ H=>tv σ H λy H1=>ta σ H1 λx H2=>∃a C dx fs,x=.ref a/\H2 a=av (.ins C dx fs)/\z_ K C/\dg K C f/\bx fs<1000/\
 D.nx σ (upd H2 a (.ins C dx (Z6 f y fs)))
theorem y4(he:PE X e ta)(hb:attributeBase e f X.env (eval e X.env)=eval e X.env):PE X (.Attribute e f pos) (b9t X.K ta f):=by
 intro bz s σ H Q I h;refine b4n hb (D7 (he bz s σ H _ I h) λu s1 ⟨x,H1,I1,rx,a,C,dx,fs,v,ex,ea,c,n,l,q⟩=>?_);subst ex;obtain rfl:u=cZ a:=rx;exact a8i I1 ea c n l λu' s2 I2 ru=>⟨v,H1,I2,ru,q⟩
theorem GA(ha:PE X o ta)(hv:PE X value tv)(hs:swapsWith value (av (.Attribute o f pos')) pos.line X.env=pure false):PS X (.Assign [.Attribute o f pos'] value pos) (c0E X.K ta tv f):=by
 intro bz s σ H D I h;refine plainObj_wpAny_Assign_Attribute (D7 (hv bz s σ H _ I h) λu s1 ⟨y,H1,I1,ry,q⟩=>D7 (ha bz s1 σ H1 _ I1 q) λov s2 ⟨x,H2,I2,rx,a,C,dx,fs,ex,ea,c,n,l,q2⟩=>?_) hs;subst ex;obtain rfl:ov=cZ a:=rx;exact a4e I2 ea c n l ry λs3 I3=>⟨σ,_,I3,q2⟩
inductive Cp(K:aF)(H:Hp):V->aE->Prop where
 |int (i:Int):Cp K H (.int i) (.type "int")
 |lst {a:aA} {xs:List V} (e:H a=av (.lst xs)):Cp K H (.ref a) (.type "list")
theorem b0U{σ:St}(I:Inv X bz σ H s)(rx:RelV x u)(ty:Cp X.K H x t)(e:bU X.K t c=av b)(h:∀tk,Q (.bool b) {s with toks:=tk}) :
  wpAny (model X.prog X.w) A (call (.builtin "isinstance") [u,c]) Q E s:=by
 cases ty with
 |int i=>obtain⟨t,q⟩:=(show ∃t,u=iM i t from rx);cases q;exact fX W.kitx_int I.ix jI e (λz=>nomatch z) h
 |@lst a xs ea =>
  cases (show u=cZ a from rx);obtain⟨_,_,n,_,h1⟩:=(show dh H s.heap a (.lst xs) from I.ck a _ ea);exact fX tH I.ix ⟨_,h1,rfl⟩ e (λz=>nomatch z) h
structure b_(k:Nat)(A:aV):Prop where
 hd:A.handled=bh
 gd:A.guards=av []
 dp:A.depth+3*k+5<recursionLimit
 un:A.units+16*k+200<cLine
theorem b_.mono(r:b_ k A)(h:j<=k):b_ j A:=⟨r.hd,r.gd,by have:=r.dp;lia,by have:=r.un;lia⟩
theorem b_.deeper(r:b_ (k+1) A)env:b_ k (A.deeper env) :=
 ⟨r.hd,r.gd,by have:=r.dp;show A.depth+1+3*k+5<_;lia,by have:=r.un;show A.units+3+16*k+200<_;lia⟩
theorem b_.in1(r:b_ (k+1) A):b_ k A.in1 :=
 ⟨r.hd,r.gd,by have:=r.dp;lia,by have:=r.un;lia⟩
def a8D{A:aV}:(A.under (.builtin "type.__call__" ⟨.ref C::us,kw⟩)).depth=A.depth+1:=rfl
def a8s{A:aV}:(A.under (.builtin "type.__call__" ⟨.ref C::us,kw⟩)).units=A.units+1:=rfl
def FT{A:aV}:(A.under (.builtin "type.__call__" ⟨.ref C::us,kw⟩)).guards=A.guards:=rfl
theorem b_.make(r:b_ (k+1) A)C us kw:b_ k (A.under (.builtin "type.__call__" ⟨.ref C::us,kw⟩)) :=
 ⟨r.hd,FT.trans r.gd,by have:=r.dp;rw[a8D];lia,by have:=r.un;rw[a8s];lia⟩
theorem b_.depth(r:b_ k A):A.depth<recursionLimit:=by have:=r.dp;lia
theorem b_.units(r:b_ k A):A.units+64<cLine:=by have:=r.un;lia
def yb:TA:=λ_ H Q=>Q [] H
def Z2(ta:TE)(tr:TA):TA:=λσ H Q=>ta σ H λx H1=>tr σ H1 λxs H2=>Q (x::xs) H2
def c7:PA X [] yb:=λ_ _ _ _ H Q I h=>Calls.spliced_nil ⟨[],H,I,.nil,h⟩
theorem c6(ha:PE X e te)(hr:PA X es t)(hs:starEach (e::es) X.env=(false,eval e X.env)::starEach es X.env:=by rfl):PA X (e::es) (Z2 te t):=by
 intro pos bz s σ H Q I h;rw[hs];exact Calls.spliced_cons (D7 (ha bz s σ H _ I h) λu s1 ⟨x,H1,I1,r1,q1⟩=>(D7 (hr pos bz s1 σ H1 _ I1 q1) λus s2 ⟨xs,H2,I2,r2,q2⟩=>⟨x::xs,H2,I2,.cons r1 r2,q2⟩))
def uh(t:TA):TE:=λσ H Q=>t σ H λxs H1=>bx xs<=sizeLine/\∀p,H1 p=bh->Q (.ref p) (upd H1 p (.tup xs))
def Qe(t:TA):TE:=λσ H Q=>t σ H λxs H1=>bx xs<=sizeLine/\∀p,H1 p=bh->Q (.ref p) (upd H1 p (.lst xs))
theorem A9(h:PA X es t):PE X (.Tuple es x1 pos) (uh t):=by
 intro bz s σ H Q I hq;exact wpAny_Tuple_spliced (D7 (h pos bz s σ H _ I hq) λus s1 ⟨xs,H1,I1,r,z,q⟩=>⟨by rw[<-r.length];exact z,.ref s1.heap.objs.size,upd H1 s1.heap.objs.size (.tup xs),I1.laid (λb u e=>bL _ e) (aT _) ⟨z,us,r,_,dG _ rfl,rfl,_,rfl⟩,rfl,q _ (I1.ck.fresh (aT _))⟩)
theorem v9(h:PA X es t):PE X (.List es pos) (Qe t):=by
 intro bz s σ H Q I hq;exact wpAny_List_spliced (D7 (h pos bz s σ H _ I hq) λus s1 ⟨xs,H1,I1,r,z,q⟩=>⟨by rw[<-r.length];exact z,.ref s1.heap.objs.size,upd H1 s1.heap.objs.size (.lst xs),I1.laid (λb u e=>bL _ e) (aT _) ⟨z,us,0,r,dG _ rfl⟩,rfl,q _ (I1.ck.fresh (aT _))⟩)
abbrev Sp:=List V->Hp->VK->XK->Prop
abbrev ze:=List Env->Hp->aG->XK->aE->aG->Prop
structure v_(P:aM)(w:aL)(K:aF)(mg:aC->Option aE)(base:aJ)(A:aV)(outer:List Env)(s:aG)(H:Hp):Prop where
 frames:A.frames=av outer
 mod:Mod K mg base
 bs:∀b o,base.get? b=av o->s.heap.get? b=av o/\H b=bh
 xw:base.objs.size<=s.heap.objs.size
 gx:s.heap.FunFrames base outer
 Cj:∀b∈uk outer,H b=bh
 ck:mz H s.heap
 bare:jC s.gens
def CE(outer:List Env)(P:aM)(w:aL)(H:Hp)(s:aG)(Q:VK)(u:aE)(s':aG):Prop :=
 ∃v H',s'.os=s.os/\jC s'.gens/\Un (uk outer) [] H H' s.heap s'.heap/\mz H' s'.heap/\RelV v u/\Q v H'
def CR(CX:ze)(outer:List Env)(P:aM)(w:aL)(H:Hp)(s:aG)(Q:VK)(E:XK)(r:jH)(s':aG):Prop :=
 match r with
 |.ok (.ret u)=>CE outer P w H s Q u s'
 |.ok _=>False
 |.error e=>CX outer H s E e s'
structure bf(P:aM)(w:aL)(K:aF)(mg:aC->Option aE)(base:aJ)(CX:ze)(k:Nat)(f:aA)(fd:aK)(ps:List aC)(sp:Sp):Prop where
 len:∀vs H Q E,sp vs H Q E->bx vs=bx ps
 run:∀(A:aV)(outer:List Env)(s:aG)(H:Hp)(args:Args)(us:List aE)(vs:List V)(Q:VK)(E:XK),b_ k A->v_ P w K mg base A outer s H->lU s fd args (ps.zip us)->Vals vs us->sp vs H Q E →
  codeAny (model P w) A (.call (.ref f) args) (CR CX outer P w H s Q E) s
def bf.imp{K}(F:bf P w K mg base CX k f fd ps sp)
  (h:∀vs H Q E,sp' vs H Q E->sp vs H Q E):bf P w K mg base CX k f fd ps sp' :=
 ⟨λvs H Q E q=>F.len vs H Q E (h _ _ _ _ q),λA outer s H args us vs Q E hr he hb hv hs=>F.run A outer s H args us vs Q E hr he hb hv (h _ _ _ _ hs)⟩
theorem v_.make{K}(e:v_ P w K mg base A outer s H)C us kw :
  v_ P w K mg base (A.under (.builtin "type.__call__" ⟨.ref C::us,kw⟩)) outer s H:=⟨by first|exact e.frames|(simpa[qK,Code.envs,qL,pushEnvs] using e.frames),e.mod,e.bs,e.xw,e.gx,e.Cj,e.ck,e.bare⟩
section
variable{X:Cx}{bz:List (aA×Obj)}{σ:St}{H:Hp}{s s':aG}
def Inv.Hf(I:Inv X bz σ H s):v_ X.prog X.w X.K X.mg X.base X.A X.stack s H :=
 ⟨I.ok.frames,I.ok.mod,I.bs,bF I.ok.xw I.sz,I.stack,I.qm,I.ck,I.bare⟩
theorem Inv.after(I:Inv X bz σ H s)(h:CE X.stack X.prog X.w H s Q u s'):EP X bz σ Q u s':=by
 obtain⟨v,H',os,bare,un,ck,r,q⟩:=h;obtain⟨hh,g,d,t,Gd⟩:=s';obtain rfl:Gd=s.os:=os;exact⟨v,H',I.call un ck bare λb z=>absurd z (by simp),r,q⟩
end
def Qf(sp:Sp)(ip:List V)(E:XK)(t:TA):TE:=λσ H Q=>t σ H λvs H1=>sp (vs++ip) H1 Q E
def b5T(C:aA)(m:aC)(sp:Sp)(ip:List V)(E:XK)(ta:TE)(t:TA):TE:=λσ H Q=>ta σ H λx H1=>∃a dx fs,x=.ref a/\H1 a=av (.ins C dx fs)/\fs.lookup m=bh/\
 t σ H1 λvs H2=>sp (x::(vs++ip)) H2 Q E
def b6d(C:aA)(sp:Sp)(ip:List V)(E:XK)(t:TA):TE:=λσ H Q=>t σ H λvs H1=>∀x dx,H1 x=bh->H1 dx=bh->dx≠x →
 sp (.ref x::(vs++ip)) (upd (upd H1 dx (.own x)) x (.ins C dx [])) (λv H2=>v=.non/\Q (.ref x) H2) E
def Binds(K:aF)(fd:aK)(ps:List aC)(ds:List aE):Prop :=
 ∀s us,K.In s.heap->bx (us++ds)=bx ps->lU s fd ⟨us,[]⟩ (ps.zip (us++ds))
theorem Binds.all{K}(h:∀us,bx us=bx ps->bindArgs fd ⟨us,[]⟩=pure (ps.zip us)):Binds K fd ps []:=λs us _ hl=>by
 rw[fP] at hl⊢;exact .of_eq (h us hl)
def Z8(CX:ze)(X:Cx)(E:XK):Prop:=∀bz(σ:St)H s e s',Inv X bz σ H s->CX X.stack H s E e s'->X.xe e s'
section
variable{X:Cx}{CX:ze}{k:Nat}{f C:aA}{fd:aK}{ps:List aC}{sp:Sp}{ip:List V}{ds:List aE}{E:XK}{x m:aC}{p pos apos:Pos}{e o:aR}{es:List aR}{ta:TE}{t:TA}
theorem Qg{σ:St}(F:bf X.prog X.w X.K X.mg X.base CX k f fd ps sp)(hr:b_ k X.A)(hb:Binds X.K fd ps ds)(hd:Vals ip ds)(hx:Z8 CX X E)
  (I:Inv X bz σ H s) (r:Vals vs us) (h:sp (vs++ip) H Q E):wpAny (model X.prog X.w) X.A (call (.ref f) us) (EP X bz σ Q) X.xe s:=by
 have r2:=r.append hd;have hl:(us++ds).length=ps.length:=by rw[<-r2.length];exact F.len _ _ _ _ h
 refine lV (nR (F.run X.A X.stack s H ⟨us,[]⟩ (us++ds) (vs++ip) Q E hr I.Hf (hb s us I.ix hl) r2 h) λr s' hq=>?_);cases r with
 |error e=>exact hx bz σ H s e s' I hq
 |ok fl =>
  cases fl with
  |ret u=>exact I.after hq
  |next=>exact eD hq
  |brk=>exact eD hq
  |cont=>exact eD hq
theorem l7(F:bf X.prog X.w X.K X.mg X.base CX k f fd ps sp)(hr:b_ k X.A)(hg:Gl X x)(hm:X.mg x=av (.ref f))(hk:dX X.K (.ref f)=true)(hb:Binds X.K fd ps ds)(hd:Vals ip ds)(hx:Z8 CX X E)
  (ha:PA X (e::es) t) (Cq:(x==("__debug__":aC))=false:=by decide) (he:starEach (e::es) X.env=(false,eval e X.env)::starEach es X.env:=by rfl) (wb:(backTo pos (starEach es X.env)).any (·.1)=false:=by rfl) :
  PE X (.Call (.Name x p) (e::es) [] pos) (Qf sp ip E t):=by
 intro bz s σ H Q I h;exact jK (Lm I hg hm (kM I.ok.mod.zu hk (D7 (ha pos bz s σ H _ I h) λus s1 ⟨vs,H1,I1,r,q⟩=>⟨I1.ix,Qg F hr hb hd hx I1 r q⟩) he wb) Cq)
theorem TQ{pl}(he:PE X o ta)(c:z_ X.K C)(hm:Ly X.K C m f)(F:bf X.prog X.w X.K X.mg X.base CX k f fd ps sp)(hr:b_ k X.A)(hb:Binds X.K fd ps ds)(hd:Vals ip ds)(hx:Z8 CX X E)(ha:PA X (e::es) t)
  (gj:starEach (e::es) X.env=(false,eval e X.env)::starEach es X.env:=by rfl) (wb:(backTo pos (starEach es X.env)).any (·.1)=false:=by rfl)
  (ht:eval (.Call (.Attribute o m apos) (e::es) [] pos) X.env=(do
   let ov <- eval o X.env
   standAt apos.atName
   let (f,first) <- holding [ov] (getMethod ov m pl)
   callWith pos f first (backTo pos (starEach (e::es) X.env)) (backToKw pos (keywordEach [] X.env))):=by rfl) :
  PE X (.Call (.Attribute o m apos) (e::es) [] pos) (b5T C m sp ip E ta t):=by
 intro bz s σ H Q I h;refine qM (D7 (he bz s σ H _ I h) λu s1 ⟨x,H1,I1,rx,a,dx,fs,ex,ea,l,q⟩=>?_) ht;subst ex;obtain rfl:u=cZ a:=rx;exact TN I1 ea c hm l (kM I.ok.mod.zu hm.kp (D7 (ha pos bz s1 σ H1 _ I1 q) λus s2 ⟨vs,H2,I2,r,q2⟩=>⟨I2.ix,Qg (vs:=.ref a::vs) F hr hb hd hx I2 (.cons rfl r) q2⟩) gj wb)
theorem M'(he:PE X o ta)(c:z_ X.K C)(hm:Ly X.K C m f)(F:bf X.prog X.w X.K X.mg X.base CX k f fd ps sp)(hr:b_ k X.A)(hb:Binds X.K fd ps ds)(hd:Vals ip ds)(hx:Z8 CX X E)
  (ht:eval (.Call (.Attribute o m apos) [] [] pos) X.env=(do
   let ov <- eval o X.env
   standAt apos.atName
   let (f,first) <- holding [ov] (getMethod ov m pl)
   callWith pos f first (backTo pos (starEach [] X.env)) (backToKw pos (keywordEach [] X.env))):=by rfl) :
  PE X (.Call (.Attribute o m apos) [] [] pos) (b5T C m sp ip E ta yb):=by
 intro bz s σ H Q I h;refine qM (D7 (he bz s σ H _ I h) λu s1 ⟨x,H1,I1,rx,a,dx,fs,ex,ea,l,q⟩=>?_) ht;subst ex;obtain rfl:u=cZ a:=rx;exact TN I1 ea c hm l (W.callWith_K0 I1.ix hm.kp (Qg (vs:=[.ref a]) F hr hb hd hx I1 (.cons rfl .nil) q))
structure Mk(K:aF)(C f:aA):Prop where
 makes:nQ K C=true
 init:bO K (.ref C) "__init__"=av (av (.ref f))
 fn:qI K (.ref f)=true
 kp:dX K (.ref C)=true
theorem b2h{σ:St}(M:Mk X.K C f)(F:bf X.prog X.w X.K X.mg X.base CX k f fd ps sp)(hr:b_ (k+1) X.A)(hb:Binds X.K fd ps ds)(hd:Vals ip ds)
  (hx:Z8 CX X E) (I:Inv X bz σ H s) (r:Vals vs us)
  (h:∀x dx,H x=bh->H dx=bh->dx≠x->sp (.ref x::(vs++ip)) (upd (upd H dx (.own x)) x (.ins C dx [])) (λv H2=>v=.non/\Q (.ref x) H2) E) :
  wpAny (model X.prog X.w) X.A (call (.ref C) us) (EP X bz σ Q) X.xe s:=by
 have hq:=h (s.heap.objs.size+1) s.heap.objs.size (I.ck.fresh (lW _)) (I.ck.fresh (aT _)) (dB (jJ _));have I2:=Inv.made (C:=C) I;have r2:Vals (V.ref (s.heap.objs.size+1)::(vs++ip)) (cZ (s.heap.objs.size+1)::(us++ds)):=.cons rfl (r.append hd);have hl:(cZ (s.heap.objs.size+1)::us++ds).length=ps.length:=by
  have e:=r2.length;rw[F.len _ _ _ _ hq] at e;exact e.symm
 refine lV (b2c I.ix M.makes M.init (beq_iff_eq.mp M.fn) (nR (F.run _ X.stack _ _ ⟨Value.ref (s.heap.objs.size+1)::us,[]⟩ (cZ (s.heap.objs.size+1)::(us++ds)) _ _ E (hr.make C us [])
  (I2.Hf.make C us []) (hb _ (cZ (s.heap.objs.size+1)::us) I2.ix hl) r2 hq) λr s' Cu=>?_))
 cases r with
 |error e=>exact hx bz σ _ _ e s' I2 Cu
 |ok fl =>
  cases fl with
  |ret u =>
   obtain⟨v,H',I3,rv,ev,q3⟩:=I2.after Cu;subst ev;exact⟨rv,V.ref (s.heap.objs.size+1),H',I3,rfl,q3⟩
  |next=>exact eD Cu
  |brk=>exact eD Cu
  |cont=>exact eD Cu
theorem a9F(M:Mk X.K C f)(F:bf X.prog X.w X.K X.mg X.base CX k f fd ps sp)(hr:b_ (k+1) X.A)(hg:Gl X x)(hm:X.mg x=av (.ref C))(hb:Binds X.K fd ps ds)(hd:Vals ip ds)(hx:Z8 CX X E)
  (ha:PA X (e::es) t) (Cq:(x==("__debug__":aC))=false:=by decide) (he:starEach (e::es) X.env=(false,eval e X.env)::starEach es X.env:=by rfl) (wb:(backTo pos (starEach es X.env)).any (·.1)=false:=by rfl) :
  PE X (.Call (.Name x p) (e::es) [] pos) (b6d C sp ip E t):=by
 intro bz s σ H Q I h;exact jK (Lm I hg hm (kM I.ok.mod.zu M.kp (D7 (ha pos bz s σ H _ I h) λus s1 ⟨vs,H1,I1,r,q⟩=>⟨I1.ix,b2h M F hr hb hd hx I1 r q⟩) he wb) Cq)
end
structure c1l(K:aF)(fd:aK)(ps ks:List aC)(g:List aE->List aE->List aE)(gV:List V->List V->List V):Prop where
 to:∀(s:aG)(us ws:List aE),K.In s.heap->bx (g us ws)=bx ps->lU s fd ⟨us,ks.zip ws⟩ (ps.zip (g us ws))
 rel:∀{vs:List V}{us:List aE}{zs:List V}{ws:List aE},Vals vs us->Vals zs ws->Vals (gV vs zs) (g us ws)
structure p7(N P:List aC)(sc:cQ):Prop where
 kind:sc.kind=.function:=by rfl
 co:sc.isCoroutine=false:=by rfl
 gen:sc.isGenerator=false:=by rfl
 nd:N.Nodup:=by decide +kernel
 pre:N.take (bx P)=P:=by rfl
 par:∀x∈P,sc.names.lookup x=av .local\/sc.names.lookup x=av .cell:=by decide +kernel
 JI:∀y∈sc.names,y.2≠.free:=by decide +kernel
theorem a4U{kindOf:aC->Option jL}:∀{binds}{m},(∀v,(x,v) ∉ binds)->bindL kindOf binds m x=m x
 |[],_,_=>rfl
 |(n,v)::r,m,h=>by
  unfold bindL;rw[a4U λw hw=>h w (bZ _ hw)];split
  ·have:x≠n:=by rintro rfl;exact h v cY
   simp[this]
  ·rfl
theorem a4R{kindOf:aC->Option jL}:∀{binds}{m},(∀v,(x,v) ∉ binds)->bindC kindOf binds m x=m x
 |[],_,_=>rfl
 |(n,v)::r,m,h=>by
  unfold bindC;rw[a4R λw hw=>h w (bZ _ hw)];split
  ·rfl
  ·have:x≠n:=by rintro rfl;exact h v cY
   simp[this]
theorem a5b{kindOf:aC->Option jL}:∀{P:List aC}{vs}{i:Nat}{m},P.Nodup->P[i]?=av x->vs[i]?=av v->kindOf x=av .local →
  bindL kindOf (P.zip vs) m x=av v
 |[],_,_,_,_,h,_,_=>by simp at h
 |_::_,[],_,_,_,_,h,_=>by simp at h
 |p::P,w::vs,0,m,nd,h1,h2,hk=>by
  simp at h1 h2;subst h1;subst h2;show bindL kindOf ((p,w)::P.zip vs) m p=_;unfold bindL;rw[a4U λv hv=>(nU.mp nd).1 (nV hv).1,if_pos hk];simp
 |p::P,w::vs,i+1,m,nd,h1,h2,hk=>by
  unfold bindL;exact a5b (nU.mp nd).2 (by simpa using h1) (by simp_all) hk
theorem a5w{kindOf:aC->Option jL}:∀{P:List aC}{vs}{i:Nat}{m},P.Nodup->P[i]?=av x->vs[i]?=av v->kindOf x≠av .local →
  bindC kindOf (P.zip vs) m x=av v
 |[],_,_,_,_,h,_,_=>by simp at h
 |_::_,[],_,_,_,_,h,_=>by simp at h
 |p::P,w::vs,0,m,nd,h1,h2,hk=>by
  simp at h1 h2;subst h1;subst h2;show bindC kindOf ((p,w)::P.zip vs) m p=_;unfold bindC;rw[a4R λv hv=>(nU.mp nd).1 (nV hv).1,if_neg hk];simp
 |p::P,w::vs,i+1,m,nd,h1,h2,hk=>by
  unfold bindC;exact a5w (nU.mp nd).2 (by simpa using h1) (by simp_all) hk
def V6(N:List aC)(vs:List V):St:=vs.map av++aQ (bx N-bx vs) bh
def N8(CX:ze)(P:aM)(w:aL)(K:aF)(mg:aC->Option aE)(base:aJ)(N:List aC)(qual:aC)(scope:cQ)(f:aA)(cd:aE)(A:aV)(outer:List Env)(s:aG)(H:Hp)(E:XK):Cx where
 prog:=P
 w:=w
 K:=K
 mg:=mg
 base:=base
 A:=A.deeper (dQ qual scope s.heap.objs.size f cd)
 N:=N
 s₀:=s
 H₀:=H
 env:=dQ qual scope s.heap.objs.size f cd
 outer:=outer
 stack:=dQ qual scope s.heap.objs.size f cd::outer
 ex:=[]
 calm:=true
 fn:=λ_=>true
 pn:=[]
 xe:=λe s'=>wpAny (model P w) (A.deeper (dQ qual scope s.heap.objs.size f cd)) (leaving (dQ qual scope s.heap.objs.size f cd) e) (λ_ Nb=>CX outer H s E e Nb) (λe' Nb=>CX outer H s E e' Nb) s'
theorem a7x{sc:cQ}(h:sc.names.lookup x=av .cell):∃c,(cellsFrom n sc.names []).lookup x=av c:=by
 exact Option.isSome_iff_exists.mp (qO sc.names n [] (.inl h))
theorem a5o{K}
  (S:p7 N ps scope) (hd:A.handled=bh) (e0:v_ P w K mg base A outer s H) (hl:bx vs=bx ps) (r:Vals vs us)
  (x:InCallC s s.heap.objs.size (bindL (dQ qual scope s.heap.objs.size f cd).kindOf (ps.zip us) λ_=>bh) (cellsFrom (s.heap.objs.size+1) scope.names []) (bindC (dQ qual scope s.heap.objs.size f cd).kindOf (ps.zip us) λ_=>bh) s1) :
  Inv (N8 CX P w K mg base N qual scope f cd A outer s H E) [] (V6 N vs) H s1:=by
 have wb:bx ps<=bx N:=by have:=congrArg iT S.pre;rw[cI] at this;lia
 obtain⟨h1,tk,rfl,hk⟩:=x.done;have TR:∀b:aA,b ∉ (N8 CX P w K mg base N qual scope f cd A outer s H E).ex:=λb z=>absurd (show b∈([]:List aA) from z) (by simp);refine⟨⟨e0.mod,S.kind,rfl,rfl,aT _,λy z c h1 h2=>?_,λy hy=>?_,λy c _ h=>?_,λ_=>hd,qP e0.frames,.inr ⟨rfl,rfl⟩,λb z=>absurd z (TR b),e0.bs,e0.xw,λb _ _=>TR b,λb z=>absurd z (TR b),e0.gx,e0.Cj⟩,
  rfl,e0.bare,Un.kept hk,⟨_,x.toInCall.ns,λi y v h1 h2 h3=>?_⟩,λy c h=>⟨_,x.cell y c h⟩,e0.ck.fresh (aT _),λy c h=>?_,λp hp=>absurd (show p∈([]:List (aA×Obj)) from hp) (by simp),e0.ck.kept hk,?_⟩
 ·exact tL x.apart (lY h1) (lY h2)
 ·have hy:=hy;rcases hy with hy|hy
  ·exact a7x hy
  ·exact absurd rfl (S.JI _ (lY hy))
 ·exact gQ (x.above y c (lY h))
 ·have hi:i<bx vs:=by
   unfold V6 at h2;by_cases hi:i<bx vs
   ·exact hi
   ·rw[dU (by simp_all)] at h2;rw[gD] at h2;split at h2<;>cases h2
  have ha:vs[i]?=av v:=by
   unfold V6 at h2;rw[dH (by simp_all),aP] at h2;cases e:vs[i]? with
   |none=>rw[e] at h2;cases h2
   |some a=>rw[e] at h2;cases h2;rfl
  obtain⟨u,hu,rv⟩:=r.get ha;have hp:ps[i]?=av y:=by
   rw[<-S.pre,tM (by lia)];exact h1
  have ndP:ps.Nodup:=by rw[<-S.pre];exact S.nd.sublist (List.take_sublist _ _)
  refine⟨u,rv,?_⟩;rcases S.par y (bK hp) with k|k
  ·exact .inl ⟨k,a5b ndP hp hu k⟩
  ·obtain⟨c,e⟩:=a7x k;refine .inr ⟨.inl k,c,e,?_⟩;have q:=x.cell y c e;rw[a5w ndP hp hu (by show scope.names.lookup y≠_;rw[k];decide)] at q;exact q
 ·exact e0.ck.fresh (gQ (x.above y c (lY h)))
 ·unfold V6;show _=bx N;rw[aX,aH,bP];lia
theorem TU{K}{kV}
  (lk:K.lookup f=av ⟨oc,od,.func (iE name qual params body scope dV kV doc pm an ay ct),yc⟩) (xo:lZ K ay qual=true) (S:p7 N ps scope)
  (len:∀vs H Q E,sp vs H Q E->bx vs=bx ps)
  (fz:∀A outer s H vs Q E,b_ k (A.deeper (dQ qual scope s.heap.objs.size f ay))->sp vs H Q E →
   ∃t,fu (N8 CX P w K mg base N qual scope f ay A outer s H E) body t/\t {nx:=λ_ H'=>Q .non H',rt:=Q} (V6 N vs) H) :
  bf P w K mg base CX (k+1) f (iE name qual params body scope dV kV doc pm an ay ct) ps sp:=by
 refine⟨len,λA outer s H args us vs Q E hr e0 hb r iu=>?_⟩;have KX:=e0.mod.zu.keeps λb o e=>(e0.bs b o e).1;have EK:∀y∈ps.zip us,scope.names.lookup y.1=av .local\/(scope.names.lookup y.1=av .cell/\((cellsFrom (s.heap.objs.size+1) scope.names []).lookup y.1).isSome=true):=λ⟨n,v⟩ hy=>by
  rcases S.par n (nV hy).1 with q|q
  ·exact .inl q
  ·exact .inr ⟨q,qO _ _ _ (.inl q)⟩
 refine tN hr.depth (KX _ _ lk) rfl S.co S.gen rfl (tO KX xo) (hb _ _ _ _ (tQ S.kind EK λenv he s1 x=>?_));subst he;refine⟨(e0.mod.nolimit.keeps λb o e=>(e0.bs b o e).1).keeps x.toInCall.keep,tR ?_⟩;obtain⟨t,ht,hq⟩:=fz A outer s H vs Q E (hr.deeper _) iu;refine eY (ht [] s1 (V6 N vs) H _ (a5o S hr.hd e0 (len _ _ _ _ iu) r x) hq) (λfl s' hs=>?_) λe s' hs=>hs;have fin:∀{au:St}{H':Hp}{v:V}{u:aE},Inv (N8 CX P w K mg base N qual scope f ay A outer s H E) [] au H' s'->RelV v u->Q v H'->CE outer P w H s Q u s' :=
  λ{au H' v u}J rv q=>⟨v,H',J.os,J.bare,J.base,J.ck,rv,q⟩
 cases fl with
 |ret u =>
  obtain⟨v,au,H',J,rv,q⟩:=hs;exact fin J rv q
 |next =>
  obtain⟨au,H',J,q⟩:=hs;exact fin (v:=V.non) J rfl q
 |brk =>
  obtain⟨_,_,_,q⟩:=hs;exact eD q
 |cont =>
  obtain⟨_,_,_,q⟩:=hs;exact eD q
section
variable{X:Cx}{x:aC}{p pos:Pos}{e:aR}{es:List aR}{t:TA}{id T:String}{r:List V->Hp->VK->Prop}
def tCB(r:List V->Hp->VK->Prop)(t:TA):TE:=λσ H Q=>t σ H λvs H1=>r vs H1 Q
theorem j7(hc:K6 X (.builtin id) r)(hg:Gl X x)(hm:X.mg x=bh)(hv:bootBuiltins x=av (.builtin id))(ha:PA X (e::es) t)(hn:x≠"__name__":=by decide)(Cq:(x==("__debug__":aC))=false:=by decide)
  (he:starEach (e::es) X.env=(false,eval e X.env)::starEach es X.env:=by rfl) (wb:(backTo pos (starEach es X.env)).any (·.1)=false:=by rfl):PE X (.Call (.Name x p) (e::es) [] pos) (tCB r t):=by
 intro bz s σ H Q I h;exact jK (JD I hg hm hv (zQ (D7 (ha pos bz s σ H _ I h) λus s1 ⟨vs,H1,I1,r1,q1⟩=>hc bz s1 σ H1 vs us Q I1 r1 q1) he wb) hn Cq)
theorem v5(hc:K6 X (.type T) r)(hg:Gl X x)(hm:X.mg x=bh)(hv:bootBuiltins x=av (.type T))(ha:PA X (e::es) t)(hn:x≠"__name__":=by decide)(Cq:(x==("__debug__":aC))=false:=by decide)
  (he:starEach (e::es) X.env=(false,eval e X.env)::starEach es X.env:=by rfl) (wb:(backTo pos (starEach es X.env)).any (·.1)=false:=by rfl):PE X (.Call (.Name x p) (e::es) [] pos) (tCB r t):=by
 intro bz s σ H Q I h;exact jK (JD I hg hm hv (nJ (D7 (ha pos bz s σ H _ I h) λus s1 ⟨vs,H1,I1,r1,q1⟩=>hc bz s1 σ H1 vs us Q I1 r1 q1) he wb) hn Cq)
end
end L2
namespace HT
open PySem PyProof.Rows
section
open PySem.SeqAt
open PySem.AutoSeq1 (wpAny_loadPart')
open PySem.MeetsSeq PySem.MeetsSeq2 PySem.MeetsSeq3
end
theorem Hg(ht:gP s.heap t vs.toArray)(hb:gP s.heap b ws.toArray)(hv:vs≠[])
  (h1:ws=[]->Q (.ref t) s) (h2:ws≠[]->Q (.ref s.heap.objs.size) {s with heap:=s.heap.push {cls:=.type "tuple",data:=.seq (vs++ws).toArray}})
  (xq:bx vs+bx ws<=sizeLine):wpAny (model prog w) A (binaryOp .Add (.ref t) (.ref b)) Q E s:=by
 obtain⟨⟨cls,dd,data,sl⟩,ho,hc,n,hd⟩:=id ht;obtain⟨⟨cls2,dd2,data2,sl2⟩,Qh,Aq,n2,hd2⟩:=id hb;subst hc hd Aq hd2;have e:vs.toArray++ws.toArray=(vs++ws).toArray:=by simp
 by_cases hw:ws=[]
 ·exact tS ⟨_,ho,rfl⟩ ⟨_,Qh,rfl⟩ tT tU tV tW (tX _ _)
   (tuple_addW1 t b vs.toArray ws.toArray n n2 dd dd2 sl sl2 (by simpa using hv) (by simp[hw])) ⟨ho,Qh,h1 hw⟩
 ·refine tS ⟨_,ho,rfl⟩ ⟨_,Qh,rfl⟩ tT tU tV tW (tX _ _)
   (tuple_addW2 t b vs.toArray ws.toArray n n2 dd dd2 sl sl2 (by simpa using hv) (by simp_all) (by simp_all)) ⟨ho,Qh,?_⟩
  rw[e];exact h2 hw
def wc(n d:Nat):Option Int->Nat
 |none=>d
 |some v=>if v<0 then (v+(n:Int)).toNat else min v.toNat n
def rp n d:wc n d bh=d:=rfl
def gy(n d k:Nat):wc n d (av (k:Int))=min k n:=rfl
end HT
namespace L2
open PySem PySem.Spec PyProof.Rows
abbrev TO:=St->Hp->(Option Int->Hp->Prop)->Prop
def PO(X:Cx)(e:Option aR)(t:TO):Prop :=
 ∀bz s(σ:St)H Q,Inv X bz σ H s->t σ H Q →
  wpAny (model X.prog X.w) X.A (evalPart e X.env) (λu s'=>∃o H',Inv X bz σ H' s'/\IsPart u o/\Q o H') X.xe s
def b5P:TO:=λ_ H Q=>Q bh H
def b8Z(t:TE):TO:=λσ H Q=>t σ H λx H1=>∃i,x=.int i/\Q (av i) H1
theorem G1:PO X bh b5P:=by
 intro bz s σ H Q I h;rw[tY];exact bG ⟨bh,H,I,.none,h⟩
theorem B8(h:PE X e te):PO X (av e) (b8Z te):=by
 intro bz s σ H Q I hw;rw[evalPart_some];refine D7 (h bz s σ H _ I hw) λu s1 ⟨x,H1,I1,r1,q1⟩=>?_;obtain⟨i,rfl,q⟩:=q1;obtain⟨t,rfl⟩:=r1;exact⟨av i,H1,I1,.int i t,q⟩
def TV(X:Cx)(r:V->Option Int->Option Int->Hp->VK->Prop):Prop :=
 ∀bz s(σ:St)H x v vl vu lo hi sl Q,Inv X bz σ H s->RelV x v->s.heap.IsSliceOf sl vl vu .none->IsPart vl lo->IsPart vu hi->r x lo hi H Q →
  ∃T id,typeLookup (.type T) "__getitem__"=pure (av (.builtin id))/\s.TypeIs v T/\wpAny (model X.prog X.w) X.A (getItem v (.ref sl)) (EP X bz σ Q) X.xe s
def tSl(r:V->Option Int->Option Int->Hp->VK->Prop)(te:TE)(tl th:TO):TE:=λσ H Q=>te σ H λx H1=>tl σ H1 λl H2=>th σ H2 λu H3=>r x l u H3 Q
theorem B7{lo}(hr:TV X r)(he:PE X e te)(hl:PO X lo tl)(hu:PO X hi th):PE X (.Subscript e (.Slice lo hi bh p2) pos) (tSl r te tl th):=by
 intro bz s σ H Q I h;refine Subscript_ (D7 (he bz s σ H _ I h) λv s1 ⟨x,H1,I1,r1,q1⟩=>(wpAny_Slice (D7 (hl bz s1 σ H1 _ I1 q1) λvl s2 ⟨l,H2,I2,pl,q2⟩=>D7 (hu bz s2 σ H2 _ I2 q2) λvu s3 ⟨u,H3,I3,pu,q3⟩=>?_)));rw[tY];refine bG ?_;have I4:Inv X bz σ H3 {s3 with heap:=s3.heap.push {cls:=.type "slice",data:=.fields #[vl,vu,.none]}}:=I3.kept λb ob q=>bL _ q;obtain⟨T,id,hT,ht,hg⟩:=hr bz {s3 with heap:=s3.heap.push {cls:=.type "slice",data:=.fields #[vl,vu,.none]}} σ H3 x v vl vu l u s3.heap.objs.size Q I4 r1 (zR ..) pl pu q3;exact tail_any ht hT hg rfl
def P5(xs:List V)(lo hi:Option Int):List V:=(xs.drop (HT.wc (bx xs) 0 lo)).take (HT.wc (bx xs) (bx xs) hi-HT.wc (bx xs) 0 lo)
theorem a3n xs lo hi:bx (P5 xs lo hi)<=bx xs:=by
 unfold P5;rw[cI,eJ];lia
inductive b8F(K:aF)(x y:V)(H:Hp)(Q:VK):Prop|mk:∀a b xs ys,x=.ref a->y=.ref b->cq K H a xs->cq K H b ys->xs≠[]->bx xs+bx ys<=sizeLine->(ys=[]->Q (.ref a) H)->(ys≠[]->∀p,H p=bh->Q (.ref p) (upd H p (.tup (xs++ys))))->b8F K x y H Q
theorem Vals.wg(r:Vals xs us):us=[] ↔ xs=[]:=by
 cases r with
 |nil=>simp
 |cons _ _=>simp
theorem a9S:gw X (binaryOp .Add) (b8F X.K):=by
 intro bz s σ H x y v u Q I rx ry h;obtain⟨a,b,xs,ys,rfl,rfl,ha,hb,hx,hz,q1,q2⟩:=h;cases rx;cases ry;obtain⟨cx,r1,p1,_⟩:=I.tuple ha;obtain⟨Cy,r2,p2,_⟩:=I.tuple hb;refine HT.Hg p1 p2 (λz=>hx (r1.wg.mp z)) (λz=>⟨.ref a,H,I,rfl,q1 (r2.wg.mp z)⟩) (λz=>⟨.ref s.heap.objs.size,_,I.laid (λb ob q=>bL _ q) (aT _) ?_,rfl,q2 (λw=>z (r2.wg.mpr w)) _ (I.ck.fresh (aT _))⟩) (by rw[<-r1.length,<-r2.length];exact hz);exact⟨by rw[aX];exact hz,_,r1.append r2,nD _ _⟩
def Bz(n:Nat)(i:Int):Option Nat:=if 0<=i then (if i<n then av i.toNat else bh) else if -(n:Int)<=i then av (i+n).toNat else bh
def U7{α:Type}(xs:List α)(i:Int):Option α:=(Bz (bx xs) i).bind λj=>xs[j]?
theorem TX(h:Bz n i=av j):seqIndex? i n=av j/\j<n/\-(n:Int)<=i/\i<n:=by
 unfold Bz at h;by_cases h0:0<=i
 ·rw[if_pos h0] at h;by_cases h1:i<n
  ·rw[if_pos h1] at h;exact⟨by rw[qQ h0 h1,bD h],by lia,by lia,h1⟩
  ·rw[if_neg h1] at h;cases h
 ·rw[if_neg h0] at h;by_cases h1:-(n:Int)<=i
  ·rw[if_pos h1] at h;exact⟨by rw[qR (by lia) h1,bD h],by lia,h1,by lia⟩
  ·rw[if_neg h1] at h;cases h
theorem TY(h:U7 xs i=av v):∃j,seqIndex? i (bx xs)=av j/\xs[j]?=av v/\j<bx xs/\-(bx xs:Int)<=i/\i<bx xs:=by
 unfold U7 at h;cases e:Bz (bx xs) i with
 |none=>rw[e] at h;cases h
 |some j =>
  rw[e] at h;obtain⟨h1,h2,h3,h4⟩:=TX e;exact⟨j,h1,h,h2,h3,h4⟩
theorem A2{j:Nat}(h:xs[j]?=av v):U7 xs (j:Int)=av v:=by
 have hj:j<bx xs:=(cA.mp h).1;have e:Bz (bx xs) (j:Int)=av j:=by
  unfold Bz;rw[if_pos (by lia),if_pos (by lia)];simp
 unfold U7;rw[e];exact h
theorem d0q xs(v:α):U7 (xs++[v]) (-1)=av v:=by
 have hl:bx (xs++[v])=bx xs+1:=by simp
 have e:Bz (bx (xs++[v])) (-1)=av (bx xs):=by
  unfold Bz;rw[hl,if_neg (by decide),if_pos (by lia)];congr 1;lia
 unfold U7;rw[e];simp
def b5m(b:aR):Prop:=∀o i,subscripted b false o i=operate [o,i] (getItem o i)
def JJ(X:Cx)(r:R2):Prop :=
 ∀value slice bz s(σ:St)H x y v u Q,Inv X bz σ H s->RelV x v->RelV y u->r x y H Q →
  subscripted slice false v u=operate [v,u] (getItem v u)->wpAny (model X.prog X.w) X.A (subscriptTail value slice v u) (EP X bz σ Q) X.xe s
def Qi(X:Cx)(id:String)(r:V->List V->Hp->VK->Prop):Prop :=
 ∀bz s(σ:St)H x xs v us Q,Inv X bz σ H s->RelV x v->Vals xs us->r x xs H Q →
  wpAny (model X.prog X.w) X.A (call (.builtin id) (v::us)) (EP X bz σ Q) X.xe s
theorem l8(hr:JJ X r)(ha:PE X a ta)(hb:PE X b tb)(hs:b5m b):PE X (.Subscript a b pos) (P_ r ta tb):=by
 intro bz s σ H Q I h;exact Subscript_ (TF ha hb I h λv u s2 x y H2 I2 rx ry q=>hr a b bz s2 σ H2 x y v u Q I2 rx ry q (hs _ _))
inductive Om(K:aF)(x y:V)(H:Hp)(Q:VK):Prop|mk:∀p xs i v,x=.ref p->y=.int i->ah K H p xs->U7 xs i=av v->Q v H->Om K x y H Q
inductive O2(K:aF)(x y:V)(H:Hp)(Q:VK):Prop|mk:∀p xs i v,x=.ref p->y=.int i->cq K H p xs->U7 xs i=av v->Q v H->O2 K x y H Q
inductive c1k(x y:V)(H:Hp)(Q:VK):Prop|mk:∀z i c,x=.str z->y=.int i->z.length<=sizeLine->U7 z.cps.toList i=av c->Q (.str ⟨#[c]⟩) H->c1k x y H Q
theorem j5:JJ X (Om X.K):=by
 intro value slice bz s σ H x y v u Q I rx ry h hs;obtain⟨p,xs,i,z,rfl,rfl,hq,he,q⟩:=h;cases rx;obtain⟨t,rfl⟩:=ry;obtain⟨cx,r,pl,hz⟩:=I.list hq;obtain⟨j,h1,h2,h3,h4,h5⟩:=TY he;obtain⟨w,ew,G'⟩:=r.get h2;have hl:=r.length;have hn:=JH;have fin:EP X bz σ Q w s:=⟨z,H,I,G',q⟩;by_cases h0:0<=i
 ·have hj:i.toNat=j:=by
   rw[qQ h0 h5] at h1;exact bD h1
  exact item_listR pl.isList h0 (by lia) (by simp_all) fin hs
 ·have hj:(i+(cx.toArray.size:Int)).toNat=j:=by
   rw[qR (by lia) h4] at h1;rw[bY,<-hl];exact bD h1
  exact tZ pl.isList.typeIs slot_list_getitem.lookup
   (wpAny_getItem_list_neg pl.isList (by lia) (by simp_all) (by lia) (by simp_all) ⟨rfl,fin⟩) hs
theorem U8:JJ X (O2 X.K):=by
 intro value slice bz s σ H x y v u Q I rx ry h hs;obtain⟨p,xs,i,z,rfl,rfl,hq,he,q⟩:=h;cases rx;obtain⟨t,rfl⟩:=ry;obtain⟨cx,r,pl,hz⟩:=I.tuple hq;obtain⟨j,h1,h2,h3,h4,h5⟩:=TY he;obtain⟨w,ew,G'⟩:=r.get h2;have hn:=JH;exact tZ pl.typeIs slot_tuple_getitem.lookup
  (getItem_tuple pl (by lia) (by lia) (by rw[bY,<-r.length];exact h1) (by simp_all) ⟨rfl,⟨z,H,I,G',q⟩⟩) hs
theorem Nc:JJ X c1k:=by
 intro value slice bz s σ H x y v u Q I rx ry h hs;obtain⟨z,i,c,rfl,rfl,hz,he,q⟩:=h;obtain⟨t,rfl⟩:=rx;obtain⟨t',rfl⟩:=ry;obtain⟨j,h1,h2,h3,h4,h5⟩:=TY he;have hl:z.cps.toList.length=z.length:=by simp[Str.length]
 rw[hl] at h1 h4 h5;have hn:=JH;exact tail_any (mD s z t) slot_str_getitem.lookup (getItem_str (by
  have e1:decide (i < -(2^63:Int))=false:=decide_eq_false (by lia);have e2:decide (i ≥ 2^63)=false:=decide_eq_false (by lia);rw[e1,e2,mG]) (by simp_all) ⟨.str ⟨#[c]⟩,H,I.tok _,⟨_,rfl⟩,q⟩) hs
theorem a8b(cx:List aE)n j u:gT (·.setIfInBounds j u) {cls:=.type "list",data:=.seq cx.toArray n}={cls:=.type "list",data:=.seq (cx.set j u).toArray n}:=by
 simp[gT]
theorem Inv.lst{σ:St}{H}{s}{p}{xs}(I:Inv X bz σ H s)(h:H p=av (.lst xs)) :
  ∃cx n,Vals xs cx/\s.heap.get? p=av {cls:=.type "list",data:=.seq cx.toArray n}/\bx xs<=sizeLine:=by
 obtain⟨z,cx,n,r,e⟩:=I.ck p _ h;exact⟨cx,n,r,e,z⟩
theorem Inv.JK{σ:St}{cx:List aE}(I:Inv X bz σ H s)(h:H p=av (.lst xs))
  (ho:s.heap.get? p=av {cls:=.type "list",data:=.seq cx.toArray n}) (hf:f {cls:=.type "list",data:=.seq cx.toArray n}={cls:=.type "list",data:=.seq e_.toArray n'}) (r:Vals ys e_) (hz:bx ys<=sizeLine) t :
  Inv X bz σ (upd H p (.lst ys)) {s with heap:=s.heap.update p f,toks:=t}:=by
 have e:(s.heap.update p f).get? p=av {cls:=.type "list",data:=.seq e_.toArray n'}:=by
  rw[uA f ho (by rw[hf]<;>rfl),hf]
 exact I.write (by rw[h];trivial) (.inl rfl) (λb u hb q=>(uB _ _ (bV hb)).trans q) ⟨_,e⟩ ⟨hz,e_,n',r,e⟩
inductive b8z(o i v:V)(H:Hp)(Q:(Hp->Prop)):Prop|mk:∀p xs k j,o=.ref p->i=.int k->H p=av (.lst xs)->Bz (bx xs) k=av j->Q (upd H p (.lst (xs.set j v)))->b8z o i v H Q
theorem O1:b9M X b8z:=by
 intro bz s σ H o i v ov iv u Q I ro ri rv h;obtain⟨p,xs,k,j,rfl,rfl,hp,hj,q⟩:=h;cases ro;obtain⟨t,rfl⟩:=ri;obtain⟨cx,n,r,ho,hz⟩:=I.lst hp;obtain⟨h1,h2,h3,h4⟩:=TX hj;have hl:=r.length;have hn:=JH;have I':=
  I.JK hp ho (a8b cx n j u) (r.set rv j) (by simp_all) s.toks
 by_cases h0:0<=k
 ·have hk:k.toNat=j:=by
   rw[qQ h0 h4] at h1;exact bD h1
  exact W.ki_setAt ho h0 (by lia) (by simp_all) (hk▸⟨_,I',q⟩)
 ·have hk:(k+(cx.toArray.size:Int)).toNat=j:=by
   rw[qR (by lia) h3] at h1;rw[bY,<-hl];exact bD h1
  exact W.ki_setBack ho (by lia) (by simp_all) (by lia) (hk▸⟨_,I',q⟩)
theorem a5E lo hi n:(sliceBounds lo hi bh n).1=((HT.wc n 0 lo:Nat):Int)/\(sliceBounds lo hi bh n).2.1=((HT.wc n n hi:Nat):Int)/\(sliceBounds lo hi bh n).2.2=1:=by
 refine⟨?_,?_,rfl⟩
 ·cases lo with
  |none=>simp[sliceBounds,HT.wc]
  |some i =>
   simp only[sliceBounds,HT.wc,uC,show(1:Int)>0 by decide,if_true];by_cases h:i<0
   ·simp only[h,if_true]<;>lia
   ·simp only[h,if_false]<;>lia
 ·cases hi with
  |none=>simp[sliceBounds,HT.wc]
  |some i =>
   simp only[sliceBounds,HT.wc,uC,show(1:Int)>0 by decide,if_true];by_cases h:i<0
   ·simp only[h,if_true]<;>lia
   ·simp only[h,if_false]<;>lia
theorem a4H(cx:List aE)lo hi:slicePick cx.toArray lo hi bh=((cx.drop (HT.wc (bx cx) 0 lo)).take (HT.wc (bx cx) (bx cx) hi-HT.wc (bx cx) 0 lo)).toArray:=by
 obtain⟨h1,h2,h3⟩:=a5E lo hi cx.toArray.size;unfold slicePick;rw[h1,h2,h3];simp only[sliceRange_one,pick_run,bY]<;>rfl
inductive O_(K:aF)(x:V)(lo hi:Option Int)(H:Hp)(Q:VK):Prop|mk:∀a xs,x=.ref a->ah K H a xs->(∀p,H p=bh->Q (.ref p) (upd H p (.lst (P5 xs lo hi))))->O_ K x lo hi H Q
theorem M0:TV X (O_ X.K):=by
 intro bz s σ H x v vl vu lo hi sl Q I rx hs pl pu h;obtain⟨a,xs,rfl,hx,q⟩:=h;cases rx;obtain⟨cx,r,ht,hz⟩:=I.list hx;have hlen:=r.length;refine⟨"list",_,slot_list_getitem.lookup,ht.isList.typeIs,wpAny_getItem_list_slice ht.isList hs pl pu .none (by simp) ?_ (by simp_all)⟩;rw[a4H,<-hlen];refine⟨.ref s.heap.objs.size,_,I.laid (λb ob q=>bL _ q) (aT _) ?_,rfl,q _ (I.ck.fresh (aT _))⟩;exact⟨Nat.le_trans (a3n xs lo hi) hz,_,0,(r.drop (HT.wc xs.length 0 lo)).take (HT.wc xs.length xs.length hi-HT.wc xs.length 0 lo),dG _ rfl⟩
def Hh:V->Bool
 |.non=>true
 |.bl _=>true
 |.int _=>true
 |.str _=>true
 |_=>false
def GB:V->V->Bool
 |.non,.non=>true
 |.bl a,.bl b=>a==b
 |.bl a,.int b=>(if a then 1 else 0)==b
 |.int a,.bl b=>a==(if b then 1 else 0)
 |.int a,.int b=>a==b
 |.str a,.str b=>a==b
 |_,_=>false
theorem b7m(ry:RelV y u)(rx:RelV x v)(fy:Hh y=true)(fx:Hh x=true):uD A s u v (GB y x):=by
 cases y with
 |non =>
  cases ry;cases x with
  |non=>cases rx;exact zS _
  |bl b=>cases rx;exact zT b
  |int b=>obtain⟨t,rfl⟩:=rx;exact zU b t
  |str b=>obtain⟨t,rfl⟩:=rx;exact zV b t
  |_=>exact absurd (show false=true from fx) cX
 |bl a =>
  cases ry;cases x with
  |non=>cases rx;exact zW a
  |bl b=>cases rx;exact zX a b
  |int b=>obtain⟨t,rfl⟩:=rx;exact zY a b t
  |str b=>obtain⟨t,rfl⟩:=rx;exact zZ a b t
  |_=>exact absurd (show false=true from fx) cX
 |int a =>
  obtain⟨t',rfl⟩:=ry;cases x with
  |non=>cases rx;exact Aa a t'
  |bl b=>cases rx;exact Ab a t' b
  |int b=>obtain⟨t,rfl⟩:=rx;exact Ac a t' b t
  |str b=>obtain⟨t,rfl⟩:=rx;exact sI a t' b t
  |_=>exact absurd (show false=true from fx) cX
 |str a =>
  obtain⟨t',rfl⟩:=ry;cases x with
  |non=>cases rx;exact Ad a t'
  |bl b=>cases rx;exact Ae a t' b
  |int b=>obtain⟨t,rfl⟩:=rx;exact sJ a t' b t
  |str b=>obtain⟨t,rfl⟩:=rx;exact Af a t' b t
  |_=>exact absurd (show false=true from fx) cX
 |_=>exact absurd (show false=true from fy) cX
def Ar(x:V)(u:aE):Bool:=match u with
 |.none=>GB .non x
 |.bool b=>GB (.bl b) x
 |.int i _=>GB (.int i) x
 |.str z _=>GB (.str z) x
 |_=>false
theorem b1X(r:RelV y u)(f:Hh y=true):Ar x u=GB y x:=by
 cases y with
 |non=>cases r;rfl
 |bl b=>cases r;rfl
 |int i=>obtain⟨t,rfl⟩:=r;rfl
 |str z=>obtain⟨t,rfl⟩:=r;rfl
 |_=>exact absurd (show false=true from f) cX
theorem Nd:∀{xs}{us},Vals xs us->xs.all Hh=true->us.any (Ar x)=xs.any λy=>GB y x
 |_,_,.nil,_=>rfl
 |y::xs,u::us,.cons r t,f=>by
  rw[uE,fQ] at f;rw[jM,jM,b1X r f.1,Nd t f.2]
theorem Nf(rx:RelV x v)(fx:Hh x=true):∀{xs}{us},Vals xs us->xs.all Hh=true->∀u∈us,uD A s u v (Ar x u)
 |_,_,.nil,_=>λu hu=>by cases hu
 |y::xs,u::us,.cons r t,f=>λu' hu=>by
  rw[uE,fQ] at f;rcases bH.mp hu with rfl|hu
  ·rw[b1X r f.1];exact b7m r rx f.1 fx
  ·exact Nf rx fx t f.2 u' hu
def Hi(x:V)(xs:List V):Bool:=xs.any λy=>GB y x
inductive zC(K:aF)(neg:Bool)(x y:V)(H:Hp)(Q:VK):Prop|mk:∀p xs,y=.ref p->(ah K H p xs\/cq K H p xs)->Hh x=true->xs.all Hh=true->Q (.bl (if neg then !Hi x xs else Hi x xs)) H->zC K neg x y H Q
theorem Qj:gw X (compareOp .In) (zC X.K false):=by
 intro bz s σ H x y v u Q I rx ry h;obtain⟨p,xs,rfl,hq,fx,fs,q⟩:=h;cases ry;rcases hq with hq|hq
 ·obtain⟨cx,r,pl,hz⟩:=I.list hq;refine uF (Ar x) pl.isList (λw hw=>Nf rx fx r fs w (by simp_all)) ⟨.bl _,H,I,rfl,?_⟩;rw[show cx.toArray.any (Ar x)=cx.any (Ar x) by simp,Nd r fs];exact q
 ·obtain⟨cx,r,pl,hz⟩:=I.tuple hq;refine SeqAt.in_tupleAt (Ar x) pl (λw hw=>Nf rx fx r fs w (by simp_all)) ⟨.bl _,H,I,rfl,?_⟩;rw[show cx.toArray.any (Ar x)=cx.any (Ar x) by simp,Nd r fs];exact q
theorem a5H:gw X (compareOp .NotIn) (zC X.K true):=by
 intro bz s σ H x y v u Q I rx ry h;obtain⟨p,xs,rfl,hq,fx,fs,q⟩:=h;cases ry;rcases hq with hq|hq
 ·obtain⟨cx,r,pl,hz⟩:=I.list hq;refine SeqAt.notIn_listAt (Ar x) pl.isList (λw hw=>Nf rx fx r fs w (by simp_all)) ⟨.bl _,H,I,rfl,?_⟩;rw[show cx.toArray.any (Ar x)=cx.any (Ar x) by simp,Nd r fs];exact q
 ·obtain⟨cx,r,pl,hz⟩:=I.tuple hq;refine SeqAt.notIn_tupleAt (Ar x) pl (λw hw=>Nf rx fx r fs w (by simp_all)) ⟨.bl _,H,I,rfl,?_⟩;rw[show cx.toArray.any (Ar x)=cx.any (Ar x) by simp,Nd r fs];exact q
theorem j6:K6 X (.builtin "len") (λxs H Q=>∃p ys,xs=[.ref p]/\(ah X.K H p ys\/cq X.K H p ys)/\Q (.int ys.length) H):=by
 intro bz s σ H xs us Q I r h;obtain⟨p,ys,rfl,hq,q⟩:=h;obtain⟨u,rfl,rx⟩:=U1 r;cases rx;have hn:=JH;rcases hq with hq|hq
 ·obtain⟨cx,r',pl,hz⟩:=I.list hq;have hlen:=r'.length;exact Calls.call_len_list pl.isList (by simp only[bY]<;>lia) ⟨.int ys.length,H,I.tok _,⟨s.toks+1,by rw[bY,hlen]⟩,q⟩
 ·obtain⟨cx,r',pl,hz⟩:=I.tuple hq;have hlen:=r'.length;exact len_tuple pl (by simp only[bY]<;>lia) ⟨.int ys.length,H,I.tok _,⟨s.toks+1,by rw[bY,hlen]⟩,q⟩
theorem Q8:K6 X (.builtin "len") (λxs H Q=>∃z,xs=[.str z]/\z.length<=sizeLine/\Q (.int z.length) H):=by
 intro bz s σ H xs us Q I r h;obtain⟨z,rfl,hz,q⟩:=h;obtain⟨u,rfl,t,rfl⟩:=U1 r;have hn:=JH;exact len_str (by lia) ⟨.int z.length,H,I.tok _,⟨_,rfl⟩,q⟩
theorem C5:K6 X (.type "list") (λxs H Q=>∃p ys,xs=[.ref p]/\(ah X.K H p ys\/cq X.K H p ys)/\∀l,H l=bh->Q (.ref l) (upd H l (.lst ys))):=by
 intro bz s σ H xs us Q I r h;obtain⟨p,ys,rfl,hq,q⟩:=h;obtain⟨u,rfl,rx⟩:=U1 r;cases rx;have fin:∀cx,Vals ys cx->ys.length<=sizeLine->∀h' c',(∀b o',s.heap.get? b=av o'->h'.get? b=av o') →
   h'.get? s.heap.objs.size=av {cls:=.type "list",dict:=bh,data:=.seq cx.toArray c',slots:=#[]}->EP X bz σ Q (.ref s.heap.objs.size) {s with heap:=h'}:=λcx r' hz h' c' kp e =>
  ⟨.ref s.heap.objs.size,_,I.laid kp (aT _) (show dh _ h' _ (.lst ys) from⟨hz,cx,c',r',e⟩),rfl,q _ (I.ck.fresh (aT _))⟩
 rcases hq with hq|hq
 ·obtain⟨cx,r',pl,hz⟩:=I.list hq;have hlen:=r'.length;obtain⟨o,ho,hc,n,hd⟩:=pl.isList;exact uG p (.inl rfl) ho hc hd (λh' c' kp e=>fin cx r' hz h' c' kp e) (by simp_all)
 ·obtain⟨cx,r',pl,hz⟩:=I.tuple hq;have hlen:=r'.length;obtain⟨o,ho,hc,n,hd⟩:=pl;exact uG p (.inr rfl) ho hc hd (λh' c' kp e=>fin cx r' hz h' c' kp e) (by simp_all)
theorem E7:K6 X (.type "tuple") (λxs H Q=>∃p ys,xs=[.ref p]/\((ah X.K H p ys/\∀l,H l=bh->Q (.ref l) (upd H l (.tup ys)))\/(cq X.K H p ys/\Q (.ref p) H))):=by
 intro bz s σ H xs us Q I r h;obtain⟨p,ys,rfl,h⟩:=h;obtain⟨u,rfl,rx⟩:=U1 r;cases rx;rcases h with⟨hq,q⟩|⟨hq,q⟩
 ·obtain⟨cx,r',pl,hz⟩:=I.list hq;have hlen:=r'.length;refine call_tuple_list pl.isList (λh' kp=>?_) (by simp_all);have I1:=I.kept (t':=s.toks) kp;have I2:=
   I1.laid (t':=s.toks) (λb o e=>bL _ e) (aT _) (show dh _ _ _ (.tup ys) from⟨hz,cx,r',nD _ _⟩)
  exact⟨.ref h'.objs.size,_,I2,rfl,q _ (I1.ck.fresh (aT _))⟩
 ·obtain⟨cx,r',pl,hz⟩:=I.tuple hq;exact call_tuple_same pl ⟨.ref p,H,I,rfl,q⟩
def TZ(K:aF)(T:String)(x:V)(H:Hp):Prop:=match x with
 |.str _=>T="str"
 |.int _=>T="int"
 |.ref p=>(T="list"/\∃xs,ah K H p xs)\/(T="tuple"/\∃o,K.lookup p=av o/\o.cls=.type "tuple"/\o.dict=bh)
 |_=>False
theorem b1u{σ:St}(I:Inv X bz σ H s)(r:RelV x v)(ty:TZ X.K T x H) :
  s.TypeIs v T/\∀a,v=.ref a->∃ob,s.heap.get? a=av ob/\ob.dict=bh:=by
 cases x with
 |str z =>
  obtain⟨t,rfl⟩:=r;cases (show T="str" from ty);exact⟨typeIs_str s z t,λ_ e=>nomatch e⟩
 |int i =>
  obtain⟨t,rfl⟩:=r;cases (show T="int" from ty);exact⟨typeIs_int s i t,λ_ e=>nomatch e⟩
 |ref p =>
  cases r;rcases ty with⟨rfl,xs,hq⟩|⟨rfl,o,hk,hc,hd⟩
  ·obtain⟨cx,_,pl,_⟩:=I.list hq;refine⟨pl.isList.typeIs,λa e=>?_⟩;cases e;obtain⟨o,n,e,c,hd,_⟩:=pl;exact⟨o,e,hd⟩
  ·refine⟨⟨o,I.ix p o hk,hc⟩,λa e=>?_⟩;cases e;exact⟨o,I.ix _ o hk,hd⟩
 |_=>exact eD ty
def Qk(K:aF)(T:String)(r:V->List V->Hp->VK->Prop)(to:TE)(t:TA):TE:=λσ H Q=>to σ H λx H1=>TZ K T x H1/\t σ H1 λxs H2=>r x xs H2 Q
theorem K7{apos}{iz}{id}(pa:qS T)(slot:Slot T name id)(Ng:typeOf (.builtin id)=pure (.type "method_descriptor"))(hm:Qi X id r)(ho:PE X o to)(ha:PA X (e::es) t)
    (yd:attributeBase o name X.env (eval o X.env)=eval o X.env:=by rfl)
    (JL:((backTo iz (starEach (e::es) X.env)).all (λx=>!x.1)&&(backToKw iz (keywordEach [] X.env)).all (λx=>x.1.isSome)
     &&decide (bx (e::es)+bx ([]:List lX)+(if ([]:List lX).isEmpty then 0 else 1)<30))=true:=by rfl)
    (hline:(apos.endLine==iz.line)=true:=by rfl) (hs:starEach (e::es) X.env=(false,eval e X.env)::starEach es X.env:=by rfl) (As:(backTo iz (starEach es X.env)).any (·.1)=false:=by rfl) :
    PE X (.Call (.Attribute o name apos) (e::es) [] iz) (Qk X.K T r to t):=by
  intro bz s σ H Q I h;refine wpAny_Call_method_late yd JL hline rfl (D7 (ho bz s σ H _ I h) λv s1 ⟨x,H1,I1,r1,ty,q1⟩=>?_);obtain⟨h1,h2⟩:=b1u I1 r1 ty;refine⟨T,id,pa,slot,Ng,h1,h2,?_⟩;have hA:=ha iz bz s1 σ H1 _ I1 q1;rw[hs] at hA⊢;exact uH (by show(false||(backTo iz (starEach es X.env)).any (·.1))=false;rw[As]<;>rfl) (uI (D7 hA λus s2 ⟨vs,H2,I2,r2,q2⟩=>hm bz s2 σ H2 x vs v us Q I2 r1 r2 q2))
/- xs.append(e),list.index on a zD tuple .. are Qi facts of 06m -/
def Lz(X:Cx)(id:String)(r:V->List V->Hp->VK->Prop):Prop :=
 ∀bz s(σ:St)H x xs v us Q,Inv X bz σ H s->RelV x v->Vals xs us->r x xs H Q →
  wpAny (model X.prog X.w) X.A (call (.builtin id) (v::us)) (EP X bz σ Q) X.xe s
theorem Vals.one:∀{x}{us},Vals [x] us->∃u,us=[u]/\RelV x u
 |_,_,.cons r .nil=>⟨_,rfl,r⟩
theorem Vals.rep(h:Vals xs us):∀k,Vals (aQ k xs).flatten (aQ k us).flatten
 |0=>.nil
 |k+1=>by
  rw[eZ,eZ,gE,gE];exact Vals.append h (Vals.rep h k)
theorem Ql(cx:List aE):∀k acc,
  jN (λx1 x2=>x1++x2) acc.toArray (aQ k cx.toArray)=(acc++(aQ k cx).flatten).toArray
 |0,acc=>by simp
 |k+1,acc=>by
  have e:acc.toArray++cx.toArray=(acc++cx).toArray:=by simp
  have e2:(acc++cx)++(aQ k cx).flatten=acc++(aQ (k+1) cx).flatten:=by
   rw[eZ,gE,dC]
  rw[<-e2,<-Ql cx k (acc++cx),<-e,eZ,List.foldl_cons]
section
variable{X:Cx}{bz:List (aA×Obj)}{σ:St}{H:Hp}{s:aG}{l b:aA}{xs ys zs:List V}
theorem Inv.JM{cx:List aE}(I:Inv X bz σ H s)(hH:H l=av (.lst xs))
  (e:s.heap.get? l=av {cls:=.type "list",data:=.seq cx.toArray n}) (hf:f cx.toArray=e_.toArray) (hv:Vals ys e_) (hz:bx ys<=sizeLine) :
  Inv X bz σ (upd H l (.lst ys)) {s with heap:=s.heap.update l (gT f),toks:=t'}:=by
 have q:=Ag e f;rw[hf] at q;exact I.write (hH▸trivial) (.inl rfl) (λb' u hb hu=>(uB s.heap (gT f) (bV hb)).trans hu) ⟨_,q⟩ ⟨hz,e_,_,hv,q⟩
def Inv.JN(I:Inv X bz σ H s)(hv:Vals ys cx)(hz:bx ys<=sizeLine) :
  Inv X bz σ (upd H s.heap.objs.size (.lst ys)) {s with heap:=s.heap.push {cls:=.type "list",data:=.seq cx.toArray},toks:=t'} :=
 I.laid (λ_ _ q=>bL _ q) (aT _) ⟨hz,cx,0,hv,dG _ rfl⟩
def Inv.fresh(I:Inv X bz σ H s):H s.heap.objs.size=bh:=I.ck.fresh (aT _)
theorem Inv.Cz(I:Inv X bz σ H s)(hH:H l=av (.lst xs)):xs.length<=sizeLine/\∃cx n,Vals xs cx/\xs.length=cx.length/\s.heap.get? l=av {cls:=.type "list",data:=.seq cx.toArray n}:=by
 obtain⟨z,cx,n,r,e⟩:=I.ck l _ hH;exact⟨z,cx,n,r,r.length,e⟩
theorem b1T(h:n<=sizeLine):qV n=false:=by
 unfold qV;exact decide_eq_false (by lia)
end
inductive Pa(x:V)(vs:List V)(H:Hp)(Q:VK):Prop|mk:∀l xs y,x=.ref l->vs=[y]->H l=av (.lst xs)->bx xs<sizeLine->Q .non (upd H l (.lst (xs++[y])))->Pa x vs H Q
theorem P2:Lz X "list.append" Pa:=by
 intro bz s σ H x vs v us Q I rx rv h;obtain⟨l,xs,y,rfl,rfl,hH,hz,q⟩:=h;cases rx;obtain⟨u,rfl,ru⟩:=rv.one;obtain⟨z,cx,n,r,hl,e⟩:=I.Cz hH;refine gF F.slot_list_append ⟨_,e,rfl⟩ F.entry_list_append (F.args_list_append_2 _ _) (PySem.list_append l cx.toArray n u (by simp_all)) ⟨e,.non,_,I.JM hH e (by simp) (r.append (.cons ru .nil)) ?_,rfl,q⟩;rw[aX,fR];lia
inductive Pc(x y:V)(H:Hp)(Q:VK):Prop|mk:∀l b xs zs,x=.ref l->y=.ref b->H l=av (.lst xs)->H b=av (.lst zs)->bx xs+bx zs<=sizeLine->(∀p,H p=bh->Q (.ref p) (upd H p (.lst (xs++zs))))->Pc x y H Q
theorem B9:gw X (binaryOp .Add) Pc:=by
 intro bz s σ H x y v u Q I rx ry h;obtain⟨l,b,xs,zs,rfl,rfl,hH,hB,hz,q⟩:=h;cases rx;cases ry;obtain⟨z,cx,n,r,hl,e⟩:=I.Cz hH;obtain⟨z2,Cy,n2,r2,j_,e2⟩:=I.Cz hB;refine PySem.P.add_list e e2 ?_ (by simp_all);have ea:cx.toArray++Cy.toArray=(cx++Cy).toArray:=by simp
 rw[ea];exact⟨.ref _,_,I.JN (r.append r2) (by simp_all),rfl,q _ I.fresh⟩
inductive zE(x y:V)(H:Hp)(Q:VK):Prop|mk:∀l k xs,x=.ref l->y=.int k->H l=av (.lst xs)->-(2^63)<=k->k<2^63->bx xs*k.toNat<=sizeLine->(∀p,H p=bh->Q (.ref p) (upd H p (.lst (aQ k.toNat xs).flatten)))->zE x y H Q
theorem Ua{α:Type}(xs:List α)k:(aQ k xs).flatten.length=k*bx xs:=by simp
theorem Q6:gw X (binaryOp .Mult) zE:=by
 intro bz s σ H x y v u Q I rx ry h;obtain⟨l,k,xs,rfl,rfl,hH,h1,h2,hz,q⟩:=h;cases rx;obtain⟨t,rfl⟩:=ry;obtain⟨z,cx,n,r,hl,e⟩:=I.Cz hH;have hlen:cx.toArray.size*k.toNat<=sizeLine:=by rw[bY,<-hl];exact hz
 have Ub:¬cx.toArray.size*k.toNat>(2^63-1)/8:=by
  have:(sizeLine:Nat)<=(2^63-1)/8:=by decide
  lia
 have Uc:¬(!Builtin.List.listFitsIndex k)=true:=by
  rw[uM h1 h2];exact cX
 have Nh:¬qV (cx.toArray.size*k.toNat)=true:=by
  rw[b1T hlen];exact cX
 have Ud:jN (λx1 x2=>x1++x2) #[] (aQ (if cx.toArray.isEmpty=true then 0 else k.toNat) cx.toArray)=(aQ k.toNat cx).flatten.toArray:=by
  have f0:=λm=>by
   have:=Ql cx m [];rw[gG] at this;exact this
  rw[f0];cases cx with
  |nil=>simp
  |cons a r'=>rw[if_neg (by simp)]
 refine uN (by decide) ⟨_,e,rfl⟩ (λs'=>nX s' k t) noFill_list_mul uO nY repeat_list uP.lookup
  (gF nY (nX s k t) uQ (uR _ _) (int___rmul___int_list k t l cx.toArray n)
   ⟨e,rfl,⟨_,e,rfl⟩,gF F.slot_list_mul ⟨_,e,rfl⟩ F.entry_list_mul (F.args_list_mul_2 _ _) (Ah l cx.toArray n k t Uc Ub Nh) ⟨e,?_⟩⟩)
 rw[Ud];exact⟨.ref _,_,I.JN (r.rep k.toNat) (by rw[Ua,qX];exact hz),rfl,q _ I.fresh⟩
end L2
namespace Att
open PySem PySem.W PySem.Calls PyProof.Rows
theorem a0q:∀ns vs,WellAll P h vs (ns.map Fk)->Do vs ns:=by
 intro ns;induction ns with
 |nil =>
  intro vs w;rw[jY] at w;cases w;exact .nil
 |cons n ns ih =>
  intro vs w;rw[cS] at w;cases w with
  |cons a b =>
   cases a;exact .cons _ _ (ih _ b)
theorem c6W{l:Ev}(hn:l.most=av n)
  (pN:l.row.toRowW.claim.pre args=true) (XZ:WellAll P h vals args) :
  ∃a vs ns,vals=[cZ a]/\args=[WData.list (ns.map Fk)]/\h.get? a=av {cls:=.type "list",data:=.seq vs.toArray}/\Do vs ns/\bx ns<=n:=by
 have hc:l.pre.holds [] {args:=args}=true:=(pre_splitW pN).2;obtain⟨d,r,rfl,h1,h2⟩:=hasAllW_cons ((pre_splitW pN).1);obtain rfl:=hasAllW_nil h2;obtain⟨xs,rfl,h3⟩:=hasW_list h1;obtain⟨ns,rfl⟩:=items_int h3;have hlen:bx ns<=n:=by
  unfold OpenLaw.pre at hc;have h4:(WTm.not (.lt (.lit (.int (n:Int))) (.len (.arg 0)))).holds [] {args:=[.list (ns.map .int)]}=true:=by
   have h4:=(holds_andW hc).1;rw[hn] at h4;exact h4
  have h5:=condW_of h4 (w_not (w_lt w_lit (w_len_list (w_arg rfl))));rw[aH] at h5;refine uV λq=>?_;have q':(n:Int)<((bx ns:Nat):Int):=by lia
  first
   |(rw[decide_eq_true q'] at h5;exact absurd h5 (by decide))
   |(simp at h5;lia)
 cases XZ with
 |cons w1 w2 =>
  cases w2;cases w1 with
  |list ho Pe=>exact⟨_,_,ns,rfl,rfl,ho,a0q ns _ Pe,hlen⟩
theorem c6V(l:Ev)args:l.row.toRowW.claim.post args (.bool true) args=true :=
 postW_of
  (show Go [] (.bool true) .bool=true by first|rfl|decide|simp[WShape.arms])
  (show(WTm.eq .res (.lit (.bool true))).value [] {args:=args,res:=av (.bool true),after:=args}=av (.bool (true==true)) from w_eq_bool (w_res rfl) w_lit) rfl
theorem aan{l:Ev}
  (hn:l.most=av n) (zF:d.params.defaults=[])
  (call:∀w s₀ vy mg mb fa o pm cd doc a vs ns,
   Ground q loose [] Ge w s₀ mg mb vy.heap->ye w vy.heap →
   vy.heap.get? fa=av o->o.data=.func (docDef d.name d.params d.body d.scope pm cd doc)->vy.heap.CodeRec cd d.name->mg d.name=av (.ref fa) →
   vy.heap.get? a=av {cls:=.type "list",data:=.seq vs.toArray}->Do vs ns->bx ns<=n->vy.gens=#[] →
   codeAny (model l.prog w) callerA (.call (.ref fa) ⟨[.ref a],[]⟩) (λr s'=>r=.ok (.ret (.bool true))/\OldK vy.heap s'.heap/\s'.os=vy.os/\jC s'.gens) vy) :
  WalkO q loose Ge ye l.row.toRowW d [] (λf vs=>Fa f vs):=by
 intro w s₀ vy mg mb G Y fa o pm cd doc dV kV ho hd xo hD zG hg args vals as pN hlay hrd XZ hlo;obtain rfl:dV=.none:=Dflts.none hD zF;obtain rfl:kV=.none:=Dflts.noKw hD;obtain⟨a,vs,ns,rfl,rfl,uy,hints,hlen⟩:=c6W hn pN XZ;refine enter_call (nR (call w s₀ vy mg mb fa o pm cd doc a vs ns G Y ho (fd_plain hd) xo zG uy hints hlen hg) λr s' hq=>?_);obtain⟨rfl,h2,h3,h4⟩:=hq;exact⟨.inl ⟨.bool true,.bool true,[],rfl,λ_=>rfl,.bool true,c6V l _,λ_=>⟨List.Pairwise.nil,λ_ hm=>(nomatch hm)⟩⟩,h2,h3,h4⟩
end Att
namespace L2
open PySem PySem.Spec PyProof.Rows
theorem a1D:∀{vs}{ns},Do vs ns->Vals (ns.map V.int) vs
 |_,_,.nil=>.nil
 |_,_,.cons n t h=>.cons ⟨t,rfl⟩ (a1D h)
def T5(s:aO)(j:Nat):aO:=match s with
 |.ClassDef _ _ _ body _ _ _ _ _ _ _=>body.getD j (.Pass ⟨0,0,0,0⟩)
 |_=>.Pass ⟨0,0,0,0⟩
def Q4(s:aO):kO:=match s with
 |.FunctionDef _ a _ _ _ _ _ _ _ _=>a
 |_=>{posonlyargs:=[],args:=[],vararg:=bh,kwonlyargs:=[],kw_defaults:=[],kwarg:=bh,defaults:=[]}
def x9(s:aO):List aO:=match s with
 |.FunctionDef _ _ b _ _ _ _ _ _ _=>b
 |_=>[]
def i9(s:aO):cQ:=match s with
 |.FunctionDef _ _ _ _ _ _ sc _ _ _=>sc
 |_=>{kind:=.function,names:=[],isGenerator:=false,isCoroutine:=false}
abbrev J8:ze:=λ_ _ _ _ _ _=>False
abbrev E0:XK:=λ_ _ _=>False
def v6:Z8 J8 X E0:=λ_ _ _ _ _ _ _ h=>h.elim
structure df(K:aF)(x qual:aC)(st:aO)(f:aA)(fd:aK):Prop where
 ex:∃(oc:aE)(od:Option aA)(kV doc pm:aE)(an:Option aA)(ay ct:aE)(yc:Array (Option aE)),
  fd=iE x qual (Q4 st) (x9 st) (i9 st) .none kV doc pm an ay ct/\K.lookup f=av ⟨oc,od,.func fd,yc⟩/\lZ K ay qual=true
 kp:dX K (.ref f)=true
abbrev Aj(K)(x):=df K x x
section
variable{P:aM}{w:aL}{K:aF}{mg:aC->Option aE}{base:aJ}
theorem df.ok{st}(F:df K x qual st f fd)(S:p7 N ps (i9 st))(len:∀vs H Q E,sp vs H Q E->bx vs=bx ps)
  (fz:∀ay A outer s H vs Q E,b_ k (A.deeper (dQ qual (i9 st) s.heap.objs.size f ay))->sp vs H Q E →
   ∃t,fu (N8 J8 P w K mg base N qual (i9 st) f ay A outer s H E).oi (x9 st) t/\t {nx:=λ_ H'=>Q .non H',rt:=Q} (V6 N vs) H):bf P w K mg base J8 (k+1) f fd ps sp:=by
 obtain⟨oc,od,kV,doc,pm,an,ay,ct,yc,rfl,lk,xo⟩:=F.ex;refine TU lk xo S len λA outer s H vs Q E hr iu=>?_;obtain⟨t,h,q⟩:=fz ay A outer s H vs Q E hr iu;exact⟨t,h.oi,q⟩
def df.oa{st}(F:df K x qual st f fd)(S:p7 N ps (i9 st))(fz:∀ay A outer s H vs Q E,b_ k (A.deeper (dQ qual (i9 st) s.heap.objs.size f ay))->sp vs H Q E →
   ∃t,fu (N8 J8 P w K mg base N qual (i9 st) f ay A outer s H E).oi (x9 st) t/\t {nx:=λ_ H'=>Q .non H',rt:=Q} (V6 N vs) H)(len:∀vs H Q E,sp vs H Q E->bx vs=bx ps:=by rintro _ _ _ _ ⟨⟩;subst_vars;rfl):bf P w K mg base J8 (k+1) f fd ps sp:=F.ok S len fz
theorem df.binds{st}(F:df K x qual st f fd)
  (h:∀kV doc pm an ay ct us,bx us=bx ps->bindArgs (iE x qual (Q4 st) (x9 st) (i9 st) .none kV doc pm an ay ct) ⟨us,[]⟩=pure (ps.zip us)):Binds K fd ps []:=by
 obtain⟨oc,od,kV,doc,pm,an,ay,ct,yc,rfl,lk,xo⟩:=F.ex;exact .all (h kV doc pm an ay ct)
def b2i{st}{kV}(l:K.lookup f=av ⟨oc,od,.func (iE x qual (Q4 st) (x9 st) (i9 st) .none kV doc pm an ay ct),yc⟩)
  (c:lZ K ay qual=true) (k:dX K (.ref f)=true):df K x qual st f (iE x qual (Q4 st) (x9 st) (i9 st) .none kV doc pm an ay ct):=⟨⟨oc,od,kV,doc,pm,an,ay,ct,yc,rfl,l,c⟩,k⟩
end
theorem t9(h:n<=1000):n<sizeLine:=gU h (by decide)
theorem pv{X}i{pos}(hN:X.N[i]?=av x:=by rfl)(hv:Te X.env.scope x:=by first|exact aI rfl|exact fY (aI rfl)|exact fY (fY rfl))(hd:(x==("__debug__":aC))=false:=by decide)
  (xo:(x==("__classdict__":aC))=false:=by decide):PE X (.Name x pos) (JB i):=b6z hN hv hd xo
theorem M7{B:Prop}(h:B):if false=true then A else B:=by simp_all
theorem J3{B:Prop}(h:A):if true=true then A else B:=by simp_all
theorem y6{B:Prop}[Decidable c](h1:c->A)(h2:¬c->B):if c then A else B:=by simp_all
theorem b8R{B:Prop}[Decidable c](hc:c)(h:B):if (!decide c)=true then A else B:=by simp_all
def af(H H':Hp):Prop:=∀b o,H b=av o->H' b=av o
def af.refl H:af H H:=λ_ _ h=>h
def af.trans(a:af H H1)(b:af H1 H2):af H H2:=λc o h=>b c o (a c o h)
theorem af.free(e:af H H')(h:H' l=uS):H l=uS:=by
 cases q:H l with
 |none=>rfl
 |some o =>
  rw[e l o q] at h;cases h
theorem af.seq{K}(e:af H H')(h:ah K H a xs):ah K H' a xs:=by
 rcases h with(h|⟨o,h⟩)|h
 ·exact .inl (.inl (e _ _ h))
 ·exact .inl (.inr ⟨o,e _ _ h⟩)
 ·exact .inr h
def p_(env:Env):List (aC×NameKind)->List (aC×Addr)->List (aC×Addr)
 |[],cs=>cs
 |(n,k)::r,cs=>if k==.free then (match env.cells.lookup n with|some a=>p_ env r ((n,a)::cs)|none=>p_ env r cs) else p_ env r cs
theorem M5(h:∀n,(n,fC)∈scope.names->∃c,env.cells.lookup n=av c):closureFor scope env=pure (p_ env scope.names []):=by
 simp only[closureFor];generalize ([]:List (aC×Addr))=cs;revert h;generalize scope.names=l;intro h;induction l generalizing cs with
 |nil=>rfl
 |cons x r ih =>
  obtain⟨n,k⟩:=x;have hr:=λn hn=>h n (bZ _ hn);by_cases hk:k=.free
  ·subst hk;obtain⟨c,hc⟩:=h n cY;simp only[oA,p_,hc,beq_self_eq_true,if_true,cellOf];exact(ih ((n,c)::cs) hr)
  ·have hb:(k==fC)=false:=by simp_all
   simp only[oA,p_,hb,uT,if_false];exact(ih cs hr)
theorem Ni:∀{l}{cs},(∀x c,cs.lookup x=av c->env.cells.lookup x=av c)->(p_ env l cs).lookup x=av c->env.cells.lookup x=av c
 |[],_,h,e=>h x c e
 | (n,k)::r,cs,h,e=>by
  unfold p_ at e;by_cases hk:(k==fC)=true
  ·rw[if_pos hk] at e;cases q:env.cells.lookup n with
   |none=>rw[q] at e;exact Ni h e
   |some a =>
    rw[q] at e;refine Ni (λy d z=>?_) e;rw[eU] at z;cases hy:y==n with
    |true =>
     rw[hy] at z;have:y=n:=by simpa using hy
     subst this;rw[q];exact z
    |false=>rw[hy] at z;exact h y d z
  ·rw[if_neg hk] at e;exact Ni h e
theorem Qm:∀{l}{cs},(x,c)∈p_ env l cs->(env.cells.lookup x=av c/\(x,fC)∈l)\/(x,c)∈cs
 |[],_,e=>.inr e
 | (n,k)::r,cs,e=>by
  unfold p_ at e;by_cases hk:(k==fC)=true
  ·rw[if_pos hk] at e;have i_:k=.free:=by simp_all
   cases q:env.cells.lookup n with
   |none =>
    rw[q] at e;exact(Qm e).imp (λz=>⟨z.1,bZ _ z.2⟩) id
   |some a =>
    rw[q] at e;rcases Qm e with z|z
    ·exact .inl ⟨z.1,bZ _ z.2⟩
    ·rcases bH.mp z with z|z
     ·cases z;exact .inl ⟨q,by rw[i_];exact cY⟩
     ·exact .inr z
  ·rw[if_neg hk] at e;exact(Qm e).imp (λz=>⟨z.1,bZ _ z.2⟩) id
theorem B6:∀names n acc,cellsFrom n names acc=cellsFrom n names []++acc
 |[],_,_=>rfl
 |(x,k)::r,n,acc=>by
  unfold cellsFrom;split
  ·rw[B6 r (n+1) ((x,n)::acc),B6 r (n+1) [(x,n)],dC];rfl
  ·exact B6 r n acc
theorem Q9:∀{names}{n},(x,c)∈cellsFrom n names []->(x,iF)∈names
 |[],_,e=>by cases e
 |(y,k)::r,n,e=>by
  unfold cellsFrom at e;by_cases hk:(k==iF)=true
  ·rw[if_pos hk,B6] at e;have i_:k=.cell:=by simp_all
   rcases bJ.mp e with z|z
   ·exact bZ _ (Q9 z)
   ·rw[cJ] at z;cases z;rw[i_];exact cY
  ·rw[if_neg hk] at e;exact bZ _ (Q9 e)
theorem Ue:∀{names}{n},(x,iF)∈names->∃c,(x,c)∈cellsFrom n names []
 |(y,k)::r,n,e=>by
  unfold cellsFrom;rcases bH.mp e with z|z
  ·cases z;rw[if_pos (by rfl),B6];exact⟨n,eL _ cY⟩
  ·split
   ·rw[B6];obtain⟨c,hc⟩:=Ue z;exact⟨c,fW _ hc⟩
   ·exact Ue z
theorem a3Z{α:Type}:∀{eX gi:List (aC×α)},(eX++gi).lookup x=match eX.lookup x with|some c=>av c|none=>gi.lookup x
 |[],_=>rfl
 |(n,c)::r,gi=>by
  rw[fD,eU,eU];cases hx:x==n with
  |true=>rfl
  |false=>exact a3Z
theorem a1T{α:Type}{c:α}:∀{l:List (aC×α)},(x,c)∈l->∃c',l.lookup x=av c'
 |(n,d)::r,h=>by
  rw[eU];cases hx:x==n with
  |true=>exact⟨d,rfl⟩
  |false =>
   rcases bH.mp h with z|z
   ·cases z;simp at hx
   ·exact a1T z
theorem Qn:∀{l}{cs},(∃c,cs.lookup x=av c)->∃c,(p_ env l cs).lookup x=av c
 |[],_,h=>h
 | (n,k)::r,cs,h=>by
  unfold p_;split
  ·split
   ·refine Qn ?_;rw[eU];cases hy:x==n with
    |true=>exact⟨_,rfl⟩
    |false=>exact h
   ·exact Qn h
  ·exact Qn h
theorem LA(hx:∃c,env.cells.lookup x=av c):∀{l}{cs},(x,fC)∈l->∃c,(p_ env l cs).lookup x=av c
 | (n,k)::r,cs,h=>by
  rcases bH.mp h with e|e
  ·cases e;obtain⟨c,hc⟩:=hx;unfold p_;rw[if_pos (by rfl),hc];refine Qn ⟨c,?_⟩;simp[eU]
  ·unfold p_;split
   ·split
    ·exact LA hx e
    ·exact LA hx e
   ·exact LA hx e
def Z7(env:Env)(scope:cQ)(C:aA):List (aC×Addr):=cellsFrom (C+1) scope.names (p_ env scope.names [])
theorem N0(h:(Z7 env scope C).lookup x=av c) :
  ((x,c)∈cellsFrom (C+1) scope.names []/\(x,iF)∈scope.names)\/(env.cells.lookup x=av c/\(x,fC)∈scope.names):=by
 have m:=mem_of_lookup h;unfold Z7 at m;rw[B6] at m;rcases bJ.mp m with z|z
 ·exact .inl ⟨z,Q9 z⟩
 ·rcases Qm z with y|y
  ·exact .inr y
  ·cases y
theorem a3j(hx:∃c,env.cells.lookup x=av c)(hf:(x,fC)∈scope.names)(hn:(x,iF) ∉ scope.names):(Z7 env scope C).lookup x=env.cells.lookup x:=by
 obtain⟨c,hc⟩:=LA (cs:=[]) hx hf;have Jz:=Ni (λ_ _ z=>by simp at z) hc;unfold Z7;rw[B6,a3Z];cases q:(cellsFrom (C+1) scope.names []).lookup x with
 |some d=>exact absurd (Q9 (mem_of_lookup q)) hn
 |none=>rw[Jz,<-hc]
def rq(X:Cx)(os:List aC)(fr:List Nat)(scope:cQ)(C:aA)(fp:List aA)(s₀:aG)(H₀:Hp):Cx :=
 {X with N:=os++fr.map λj=>X.N.getD j "",s₀:=s₀,H₀:=H₀,env:=compEnvC scope (Z7 X.env scope C) C X.env,outer:=X.stack,ex:=fp,fn:=λx=>scope.names.lookup x==av .cell,pn:=[],xe:=λ_ _=>False}
def LB(fr:List Nat)(σ:St):St:=fr.map λj=>(σ[j]?).join
def c_(n:Nat)(fr:List Nat)(σ:St):St:=aQ n bh++LB fr σ
def Wk(Ph ir:St):Prop:=bx ir=bx Ph/\∀(i:Nat)v,Ph[i]?=av (av v)->ir[i]?=av (av v)
def BA(outer:cQ)(scope:cQ)(N:List aC)(fr:List Nat):Bool :=
 (scope.names.all λp=>(scope.names.lookup p.1==av p.2)&&(p.2 != .free||outer.names.lookup p.1==av .cell)) &&
 (fr.all λj=>decide (j<bx N)&&(outer.names.lookup (N.getD j "")==av .cell)&&(scope.names.lookup (N.getD j "")==av .free))
theorem O8:∀{l:List (aC×NameKind)},l.lookup x=av k->(x,k)∈l
 |(n,j)::r,h=>by
  rw[eU] at h;cases hx:x==n with
  |true =>
   rw[hx] at h;have:x=n:=by simpa using hx
   subst this;cases h;exact cY
  |false=>rw[hx] at h;exact bZ _ (O8 h)
theorem W3{env:Env}:∀{names:List (aC×NameKind)},
  (names.map λ(n,k)=>if (k==fC&&env.scope.kind==.function&&env.kindOf n==av .cell) then (n,iF) else (n,k)).lookup x=av k →
  (x,k)∈names\/(x,fC)∈names
 |[],h=>by simp at h
 | (n,j)::r,h=>by
  rw[cS] at h;dsimp only at h;by_cases hc:(j==fC&&env.scope.kind==.function&&env.kindOf n==av .cell)=true
  ·rw[if_pos hc,eU] at h;have hj:j=.free:=by
    have:=(fQ _ _▸(fQ _ _▸hc).1).1;simpa using this
   cases hx:x==n with
   |true =>
    have:x=n:=by simpa using hx
    subst this;subst hj;exact .inr cY
   |false =>
    rw[hx] at h;exact(W3 h).imp (bZ _) (bZ _)
  ·rw[if_neg hc,eU] at h;cases hx:x==n with
   |true =>
    rw[hx] at h;have:x=n:=by simpa using hx
    subst this;cases h;exact .inl cY
   |false =>
    rw[hx] at h;exact(W3 h).imp (bZ _) (bZ _)
section
variable{X:Cx}{os:List aC}{fr:List Nat}{scope:cQ}
theorem X0(h:BA X.env.scope scope X.N fr=true):∀p∈scope.names,scope.names.lookup p.1=av p.2/\(p.2=.free->X.env.scope.names.lookup p.1=av .cell):=λp hp=>by
 have q:=fE.mp (fQ _ _▸h).1 p hp;simp only[fQ,bne_iff_ne,qY,beq_iff_eq,ne_eq] at q;refine⟨q.1,λe=>?_⟩;rcases q.2 with z|z
 ·exact absurd e z
 ·exact z
theorem Ug(h:BA X.env.scope scope X.N fr=true)(ha:(x,a)∈scope.names)(hb:(x,b)∈scope.names):a=b:=by
 have h2:=(X0 h _ hb).1;rw[(X0 h _ ha).1] at h2;exact bD h2
theorem b6l(h:BA X.env.scope scope X.N fr=true):∀j∈fr,j<bx X.N/\X.env.scope.names.lookup (X.N.getD j "")=av .cell/\scope.names.lookup (X.N.getD j "")=av .free:=λj hj=>by
 have q:=fE.mp (fQ _ _▸h).2 j hj;simp only[fQ,beq_iff_eq,decide_eq_true_eq] at q;exact⟨q.1.1,q.1.2,q.2⟩
def JO{σ:St}(I:Inv X bz σ H s)(h:BA X.env.scope scope X.N fr=true):∀n,(n,fC)∈scope.names->∃c,X.env.cells.lookup n=av c:=λn hn =>
 I.ok.has n (.inl ((X0 h _ hn).2 rfl))
theorem Inv.block{bz:List (aA×Obj)}{σ:St}{H:Hp}{s:aG}{fp:List aA}{h₁:aJ}{t':Nat}(I:Inv X bz σ H s)(hk:scope.kind=.function)(h:BA X.env.scope scope X.N fr=true)
  (hf:∀b∈fp,xp X bz H b) (ho:∀b∈fp,∃o,s.heap.get? b=av o) (EL:h₁.Ns s.heap.objs.size λ_=>bh) (gq:∀b o,s.heap.get? b=av o->h₁.get? b=av o)
  (xr:CellsOk h₁ (s.heap.objs.size+1) (cellsFrom (s.heap.objs.size+1) scope.names [])) :
  Inv (rq X os fr scope s.heap.objs.size fp s H) [] (c_ (bx os) fr σ) H {s with heap:=h₁,toks:=t'} where
 ok:={
  mod:=I.ok.mod
  kind:=hk
  glob:=I.ok.glob
  blt:=I.ok.blt
  above:=aT _
  inj:=λx y c e1 e2=>by
   have old:∀{z:aC},X.env.cells.lookup z=av c->c<s.heap.objs.size:=λ{z}e=>by
    obtain⟨v,q⟩:=I.cell z c e;exact q.lt
   rcases N0 e1 with z1|z1<;>rcases N0 e2 with z2|z2
   ·exact tL xr.apart z1.1 z2.1
   ·exact absurd (bS (mJ (old z2.1)) (xr.empty _ _ z1.1).2) (dO _)
   ·exact absurd (bS (mJ (old z1.1)) (xr.empty _ _ z2.1).2) (dO _)
   ·exact I.ok.inj x y c z1.1 z2.1
  has:=λx hx=>by
   have hm:(x,iF)∈scope.names\/(x,fC)∈scope.names:=by
    rcases hx with e|e
    ·exact W3 e
    ·rcases W3 e with z|z
     ·exact .inr z
     ·exact .inr z
   rcases hm with z|z
   ·obtain⟨c,hc⟩:=Ue z;refine a1T (c:=c) ?_;show(x,c)∈Z7 _ _ _;unfold Z7;rw[B6];exact fW _ hc
   ·obtain⟨c,hc⟩:=JO I h x z;refine⟨c,?_⟩;show(Z7 _ _ _).lookup x=_;rw[a3j ⟨c,hc⟩ z λw=>by cases Ug h z w];exact hc
  Gs:=λx c hx e=>by
   have f':scope.names.lookup x=av .cell:=by simpa using (show(scope.names.lookup x==av .cell)=true from hx)
   rcases N0 e with z|z
   ·exact gQ (uU (xr.empty _ _ z.1).2)
   ·cases Ug h (O8 f') z.2
  hd:=I.ok.hd
  frames:=I.ok.frames
  GX:=.inl rfl
  GY:=λb hb=>by
   obtain⟨o,e⟩:=ho b hb;refine⟨Nat.ne_of_lt (bN e),λx c e1=>?_⟩;rcases N0 e1 with z|z
   ·intro w;have:=(xr.empty _ _ z.1).2;rw[w] at this;exact absurd (bS (mJ (bN e)) this) (dO _)
   ·exact(hf b hb).2.2.2.2.1 x c z.1
  bs:=I.bs
  xw:=bF I.ok.xw I.sz
  um:=λb o e hb=>by
   rcases(hf b hb).2.2.2.1 with z|z
   ·exact I.ok.um b o e z
   ·exact absurd (bS (bN e) (bF I.ok.xw z)) (dO _)
  uo:=λb hb hz=>by
   rcases bH.mp (I.rg b hz) with e|e
   ·exact(hf b hb).2.1 e
   ·exact(hf b hb).2.2.1 e
  gx:=I.stack
  Cj:=I.qm}
 os:=rfl
 bare:=I.bare
 base:=Un.kept gq
 loc:=by
  refine⟨_,EL,λi x v e1 e2 _=>?_⟩;have hi:bx os<=i:=by
   refine uV λfk=>?_;unfold c_ at e2;rw[dH (by simpa using fk)] at e2;rw[gD] at e2;split at e2<;>cases e2
  have EM:(fr.map λj=>X.N.getD j "")[i-bx os]?=av x:=by
   rw[<-dU hi];exact e1
  have JP:(fr.map λj=>(σ[j]?).join)[i-bx os]?=av (av v):=by
   have z:(aQ (bx os) (bh:Option V)).length<=i:=by simpa using hi
   unfold c_ at e2;rw[dU z,bP] at e2;exact e2
  rw[aP] at EM JP;cases q:fr[i-bx os]? with
  |none=>rw[q] at EM;cases EM
  |some j =>
   rw[q] at EM JP;obtain⟨EN,wj,JQ⟩:=b6l h j (bK q);have ex:X.N.getD j ""=x:=bD EM;have ev:(σ[j]?).join=av v:=bD JP;have hN:X.N[j]?=av x:=by
    rw[<-ex,bA,aS EN];rfl
   have Uh:σ[j]?=av (av v):=by
    cases r:σ[j]? with
    |none=>rw[r] at ev;cases ev
    |some y=>rw[r] at ev;exact congrArg av ev
   rw[ex] at wj JQ;obtain⟨m,_,hl⟩:=I.loc;obtain⟨u,r,lk⟩:=hl j x v hN Uh (.inr (.inl wj));refine⟨u,r,?_⟩;have kc:uW X.env x=av .cell:=wj;rcases lk with⟨k1,_⟩|⟨_,c,ec,z⟩
   ·rw[kc] at k1;cases k1
   ·have LC:=O8 JQ;have ec':(Z7 X.env scope s.heap.objs.size).lookup x=av c:=by
     rw[a3j ⟨c,ec⟩ LC λw=>by cases Ug h LC w];exact ec
    refine .inr ⟨?_,c,ec',?_⟩
    ·have kk:∀{names:List (aC×NameKind)},names.lookup x=av .free->(names.map λ(n,k)=>if (k==fC&&X.env.scope.kind==.function&&X.env.kindOf n==av .cell) then (n,iF) else (n,k)).lookup x=av .cell:=by
      intro names;induction names with
      |nil=>intro e;simp at e
      |cons p r ih =>
       obtain⟨n,k⟩:=p;intro e;rw[eU] at e;rw[cS];dsimp only;cases hx:x==n with
       |true =>
        rw[hx] at e;cases e;have hxn:x=n:=by simpa using hx
        subst hxn;rw[if_pos (by rw[I.ok.kind,kc];rfl),eU];simp
       |false =>
        rw[hx] at e;by_cases hc:(k==fC&&X.env.scope.kind==.function&&X.env.kindOf n==av .cell)=true
        ·rw[if_pos hc,eU,hx];exact ih e
        ·rw[if_neg hc,eU,hx];exact ih e
     exact .inl (kk JQ)
    ·obtain⟨o,mj,hd⟩:=z;exact⟨o,gq _ _ mj,hd⟩
 cell:=λx c e=>by
  rcases N0 e with z|z
  ·exact⟨_,(xr.empty _ _ z.1).1⟩
  ·obtain⟨v,o,mj,hd⟩:=I.cell x c z.1;exact⟨v,o,gq _ _ mj,hd⟩
 free:=I.ck.fresh (aT _)
 ee:=λx c e=>by
  rcases N0 e with z|z
  ·exact I.ck.fresh (gQ (uU (xr.empty _ _ z.1).2))
  ·exact I.ee x c z.1
 pin:=λp hp=>nomatch hp
 ck:=I.ck.kept gq
 len:=by simp[c_,LB,rq]
def Inv.unblock{σ au:St}(I:Inv X bz σ H s)(hf:∀b∈fp,xp X bz H b)(J:Inv (rq X os fr scope C fp s H) [] au H' s'):Inv X bz σ H' s' :=
 I.call' J.os J.base J.ck J.bare λb hb=>⟨(hf b hb).2.2.2.1,(hf b hb).2.1,(hf b hb).2.2.2.2.1,(hf b hb).2.2.2.2.2⟩
theorem Inv.BB{σ:St}(Hj:Inv X bz σ₀ H₀ s₀)(I:Inv X bz σ H s)(hn:H C=bh)(hC:s₀.heap.objs.size<=C)(hs:kH C s.heap h'):Inv X bz σ H {s with heap:=h'} :=
 I.turned (λb o hb e=>(hs.2 b hb).trans e) hn (gR (bS Hj.lt hC)) (.inr (bF Hj.sz hC))
  (λx c e z=>by
   obtain⟨v,q⟩:=Hj.cell x c e;exact absurd (bS q.lt (z▸hC)) (dO _))
  λp hp z=>absurd (bS (bN (Hj.pin p hp).1) (z▸hC)) (dO _)
end
def Ui(X:Cx)(ifs:List aR)(t:TT):Prop :=
 ∀bz s(σ:St)H Q,Inv X bz σ H s->t σ H Q →
  wpAny (model X.prog X.w) X.A (forIn ifs true λc r=>if r=true then do let ok <- isTrue c X.env (eval c X.env);pure (oB ok) else pure (oB r)) (TP X bz σ Q) X.xe s
def Uj:TT:=λ_ H Q=>Q true H
def a6P:Ui X [] Uj:=λ_ _ _ H _ I h=>wpAny_tests_nil ⟨H,I,h⟩
def a7v(h:PT X c t):Ui X [c] t:=λbz s σ H Q I q=>wpAny_tests_one (h bz s σ H Q I q)
theorem a5U
  (hQ:Q {scope,locals:=s.heap.objs.size,globals,cells:=cellsFrom (s.heap.objs.size+1) scope.names closure,qual,func:=bh,code:=env.code,frame:=env.frame,builtins:=env.builtins} {s with heap:=pushCells (s.heap.push {cls:=.type "dict",data:=.dict #[]}) scope.names}) :
  wpAny M A (newFunctionEnv scope globals closure [] qual bh .none (av env)) Q E s:=by
 simp only[newFunctionEnv,Option.isSome_some,if_true];refine aN (wpAny_alloc (aN (wpAny_layCells _ (λname kind cells=>by cases hkc:kind==iF<;>simp[hkc]) _ _ _ _ ?_)));rw[show({s with heap:=s.heap.push {cls:=.type "dict",data:=.dict #[]}}:aG).heap.objs.size=s.heap.objs.size+1 from gS ..];exact aN (bG (bG hQ))
theorem a6e(I:Nat->aG->Prop)
  (turn:∀n s,I n s->wpAny (model prog w) A (pyNext it) (λr vy=>match r with
   |none=>R (.ok .next) vy
   |some v=>wpAny (model prog w) A (letOwnedTupleGo target it v) (λ_ s₀=>wpAny (model prog w) A (assign target env v) (λ_ vz =>
     wpAny (model prog w) A (forIn ifs true λc r=>if r=true then do let ok <- isTrue c env (eval c env);pure (oB ok) else pure (oB r)) (λok EO =>
      if ok=true then wpAny (model prog w) A (eval elt env) (λx Hk =>
       wpAny (model prog w) A (call (.builtin "list.append") [acc,x]) (λ_ Nj=>∃m,m<n/\I m Nj) (λ_ _=>False) Hk) (λ_ _=>False) EO
      else ∃m,m<n/\I m EO) (λ_ _=>False) vz) (λ_ _=>False) s₀) (λ_ _=>False) vy) (λ_ _=>False) s)
  n (h:I n s) :
  codeAny (model prog w) A (.compLoop (.ListComp elt [⟨target,iter,ifs,0⟩] scope pos) 0 it acc env) R s:=by
 refine codeAny_loop rfl I (λn s hI=>?_) n h;show wpAny _ A ((compTurn (.ListComp elt [⟨target,iter,ifs,0⟩] scope pos) 0 it acc env).onRaise λx=>do noteFrame x env;theTreesLotGoes x) _ _ s;refine wpAny_noted ?_;rw[compTurn_list];refine aN (iQ (aN (eY (turn n s hI) (λr vy h₁=>?_) λ_ _ h'=>h'.elim)));cases r with
 |none=>exact bG h₁
 |some v =>
  refine aN (eY h₁ (λ_ s₀ h₀=>(aN (eY h₀ (λ_ vz JR=>aN (eY JR (λok EO Nk=>?_) λ_ _ h'=>h'.elim)) λ_ _ h'=>h'.elim))) λ_ _ h'=>h'.elim);cases ok with
  |false=>exact bG ⟨rfl,Nk⟩
  |true =>
   exact aN (aN (eY Nk (λx Hk Uk=>aN (eY Uk (λ_ Nj Ul=>bG (bG ⟨rfl,Ul⟩)) λ_ _ h'=>h'.elim)) λ_ _ h'=>h'.elim))
def IJ(n:Nat)(fr:List Nat)(g:TG)(te:TE)(σ:St)(J:It)(H1:Hp)(p:aA)(D:Hp->Prop):Prop :=
 ∃W:Nat->Nat->List V->Hp->Prop,(∃m,W 0 m [] (upd H1 p (.lst [])))/\∀i m ys H,W i m ys H →
  (J.stop i H/\D H)\/(J.go i H/\∀x H',J.By i H x H'->g x (c_ n fr σ) H' λir H2=>Wk (c_ n fr σ) ir/\te ir H2 λv H3=>H3 p=av (.lst ys)/\bx ys<sizeLine/\∃m',m'<m/\W (i+1) m' (ys++[v]) (upd H3 p (.lst (ys++[v]))))
def LD(n:Nat)(fr:List Nat)(wi:TI)(g:TG)(te:TE):TE:=λσ H Q=>wi σ H λJ H1=>∀p,H1 p=bh->IJ n fr g te σ J H1 p (Q (.ref p))
def LF(n:Nat)(fr:List Nat)(g:TG)(tc:TT)(te:TE)(σ:St)(J:It)(H1:Hp)(p:aA)(D:Hp->Prop):Prop :=
 ∃W:Nat->Nat->List V->Hp->Prop,(∃m,W 0 m [] (upd H1 p (.lst [])))/\∀i m ys H,W i m ys H →
  (J.stop i H/\D H)\/(J.go i H/\∀x H',J.By i H x H'->g x (c_ n fr σ) H' λir H2=>Wk (c_ n fr σ) ir/\tc ir H2 λok H2' =>
   if ok=true then te ir H2' λv H3=>H3 p=av (.lst ys)/\bx ys<sizeLine/\∃m',m'<m/\W (i+1) m' (ys++[v]) (upd H3 p (.lst (ys++[v]))) else ∃m',m'<m/\W (i+1) m' ys H2')
def b8W(n:Nat)(fr:List Nat)(wi:TI)(g:TG)(tc:TT)(te:TE):TE:=λσ H Q=>wi σ H λJ H1=>∀p,H1 p=bh->LF n fr g tc te σ J H1 p (Q (.ref p))
def a7a:LF n fr g Uj te σ J H1 p D=IJ n fr g te σ J H1 p D:=rfl
section
variable{X:Cx}{os:List aC}{fr:List Nat}{scope:cQ}{elt tg iter:aR}{pos:Pos}{wi:TI}{g:TG}{te:TE}
theorem Qo{D:aA->Hp->Prop}{RR:aE->aA->jH->aG->Prop}
  (hc:X.calm=true) (hg:∀C fp s₀ H₀,PG (rq X os fr scope C fp s₀ H₀) tg g) (ht:∀C fp s₀ H₀,Ui (rq X os fr scope C fp s₀ H₀) ifs tc) (he:∀C fp s₀ H₀,PE (rq X os fr scope C fp s₀ H₀) elt te)
  (hk:scope.kind=.function) (ck:BA X.env.scope scope X.N fr=true)
  (h2:PIE X bz σ tg (λJ H1=>∀p,H1 p=bh->LF (bx os) fr g tc te σ J H1 p (D p)) Hc s2)
  (hRR:∀p C s3 H3 s' H',Inv X bz σ H3 s3->s3.heap.objs.size=C->H' C=bh->Inv X bz σ H' s'->(∃m,s'.heap.Ns C m)->D p H'->RR (.ref p) C (.ok .next) s') :
  wpAny (model X.prog X.w) X.A (newList []) (λacc EO=>wpAny (model X.prog X.w) X.A (newFunctionEnv scope X.env.globals (p_ X.env scope.names []) [] X.env.qual bh .none (av X.env)) (λNl Hk =>
   codeAny (model X.prog X.w) X.A (.compStart (.ListComp elt [⟨tg,iter,ifs,0⟩] scope pos) 0 Hc acc {Nl with scope:=relabel scope X.env}) (RR acc Nl.locals) Hk) X.xe EO) X.xe s2:=by
 obtain⟨it,fp,tn,J,H2,e,I2,T,Gz,f2,hR⟩:=h2;subst e;refine lQ ?_;obtain⟨W,⟨m0,w0⟩,turn⟩:=hR s2.heap.objs.size I2.fresh;have I3:=I2.JN (t':=s2.toks) .nil (dM _);have ne2:∀b∈fp,b≠s2.heap.objs.size:=λb hb=>by
  obtain⟨o,e,_⟩:=(T.obj _ _ Gz) b hb;exact dB (bN e)
 have PX:tn 0 (s2.heap.push {cls:=.type "list",dict:=bh,data:=.seq ([]:List aE).toArray}):=T.keep _ _ _ Gz λb hb o e=>bL _ e;have f3:∀b∈fp,xp X bz (upd H2 s2.heap.objs.size (.lst [])) b:=λb hb=>⟨by rw[j3 (ne2 b hb)];exact(f2 b hb).1,(f2 b hb).2⟩;generalize Pk:({s2 with heap:=s2.heap.push {cls:=.type "list",dict:=bh,data:=.seq ([]:List aE).toArray}}:aG)=s3 at I3⊢;have Nm:tn 0 s3.heap:=by rw[<-Pk];exact PX
 generalize s2.heap.objs.size=p at *;refine a5U ?_;have EL:(pushCells (s3.heap.push {cls:=.type "dict",data:=.dict #[]}) scope.names).Ns s3.heap.objs.size λ_=>bh:=(Heap.Ns.new s3.heap (.type "dict")).keeps (uX _ _);have gq:∀b o,s3.heap.get? b=av o->(pushCells (s3.heap.push {cls:=.type "dict",data:=.dict #[]}) scope.names).get? b=av o:=λb o e=>uX _ _ b o (bL _ e);have xr:=cellsFrom_ok scope.names (s3.heap.push {cls:=.type "dict",data:=.dict #[]}) (s3.heap.objs.size+1) [] ⟨λ_ _ hm=>(nomatch hm),Ai⟩ (by simp);rw[gS] at xr;generalize pushCells (s3.heap.push {cls:=.type "dict",data:=.dict #[]}) scope.names=h₁ at EL gq xr⊢;have Uo:∀b∈fp,∃o,s3.heap.get? b=av o:=λb hb=>by
  obtain⟨o,e,_⟩:=T.obj _ _ Nm b hb;exact⟨o,e⟩
 have J0:=I3.block (os:=os) (t':=s3.toks) hk ck f3 Uo (h₁:=h₁) EL gq xr;have Up:=J0.ok;have Uq:∀{H':Hp},(∀b∈fp,H' b=bh)->∀b∈fp,xp (rq X os fr scope s3.heap.objs.size fp s3 (upd H2 p (.lst []))) [] H' b:=λhn b hb =>
  ⟨hn b hb,(Up.GY b hb).1,Up.uo b hb,.inl hb,(Up.GY b hb).2,λq hq=>nomatch hq⟩
 have st4:tn 0 h₁:=T.keep _ _ _ Nm λb hb o e=>gq b o e;have loop:∀s4:aG,s4={s3 with heap:=h₁,toks:=s3.toks} →
   codeAny (model X.prog X.w) X.A (.compLoop (.ListComp elt [⟨tg,iter,ifs,0⟩] scope pos) 0 (.ref it) (.ref p) (compEnvC scope (Z7 X.env scope s3.heap.objs.size) s3.heap.objs.size X.env)) (RR (.ref p) s3.heap.objs.size) s4:=by
  rintro s4 rfl;refine a6e (λn s'=>∃i ys H',Inv (rq X os fr scope s3.heap.objs.size fp s3 (upd H2 p (.lst []))) [] (c_ (bx os) fr σ) H' s'/\tn i s'.heap/\(∀b∈fp,H' b=bh)/\W i n ys H') ?_ m0 ⟨0,[],_,J0,st4,(λb hb=>(f3 b hb).1),w0⟩;rintro n s5 ⟨i,ys,H5,I5,Ls,PY,w5⟩;rcases turn i n ys H5 w5 with⟨stop,qd⟩|⟨go,step⟩
  ·refine D7 (T.done (rq X os fr scope s3.heap.objs.size fp s3 (upd H2 p (.lst []))) rfl rfl rfl hc i [] s5 _ H5 (λ_ _=>False) I5 (Uq PY) Ls stop) λr s6 ⟨hr,I6⟩=>?_;subst hr;exact hRR p _ s3 _ s6 H5 I3 rfl I6.free (I3.unblock f3 I6) (let ⟨m,hm,_⟩:=I6.loc;⟨m,hm⟩) qd
  ·refine D7 (T.item (rq X os fr scope s3.heap.objs.size fp s3 (upd H2 p (.lst []))) rfl rfl rfl hc i [] s5 _ H5 (λ_ _=>False) I5 (Uq PY) Ls go) λr s6 ⟨u,hr,h6⟩=>?_;subst hr;refine D7 h6 λ_ s7 ⟨x,H7,I7,r7,y7,Ur,fr7⟩=>(D7 (hg _ _ _ _ _ s7 _ H7 x u _ (I7.pinned (Uq fr7) (T.obj _ _ Ur)) r7 (step x H7 y7)) λ_ s8 ⟨Nn,H8,I8,wk8,q8⟩=>?_);have again:∀{H':Hp}{s':aG}{zs:List V}{m':Nat},Inv (rq X os fr scope s3.heap.objs.size fp s3 (upd H2 p (.lst []))) ([]++MY fp s7.heap) Nn H' s'->m'<n->W (i+1) m' zs H' →
     ∃m,m<n/\∃i ys H',Inv (rq X os fr scope s3.heap.objs.size fp s3 (upd H2 p (.lst []))) [] (c_ (bx os) fr σ) H' s'/\tn i s'.heap/\(∀b∈fp,H' b=bh)/\W i m ys H':=λ{H' s' zs m'}J' Au w'=>by
    refine⟨m',Au,i+1,zs,H',(J'.weak wk8.1.symm λi v e=>wk8.2 i v e).ki,T.keep _ _ _ Ur λb hb o e=>(J'.pin (b,o) (eL _ (eL _ (PV hb e)))).1,λb hb=>?_,w'⟩;obtain⟨o,e,d⟩:=T.obj _ _ Ur b hb;exact(J'.pin (b,o) (eL _ (eL _ (PV hb e)))).2.1
   refine D7 (ht _ _ _ _ _ s8 Nn H8 _ I8 q8) λok s9 ⟨H9,I9,q9⟩=>?_;cases ok with
   |false =>
    obtain⟨m',Au,w9⟩:=q9;exact again I9 Au w9
   |true =>
    refine D7 (he _ _ _ _ _ s9 Nn H9 _ I9 q9) λy zH ⟨v,JS,I10,r10,Us,Ut,m',Au,w10⟩=>(D7 (P2 (X:=rq X os fr scope s3.heap.objs.size fp s3 (upd H2 p (.lst []))) _ zH Nn JS (.ref p) [v] (.ref p) [y] (λ_ H'=>H'=upd JS p (.lst (ys++[v]))) I10 rfl (.cons r10 .nil) ⟨p,ys,v,rfl,rfl,Us,Ut,rfl⟩) λ_ s11 ⟨_,Qp,Np,_,IK⟩=>?_);subst IK;exact again Np Au w10
 exact codeAny_compStart_list (loop _ rfl) (T.self _ 0 _ _ _ st4 (loop _ rfl))
theorem N6 os fr(hc:X.calm=true)(hi:PI X tg iter wi)(hg:∀C fp s₀ H₀,PG (rq X os fr scope C fp s₀ H₀) tg g)(he:∀C fp s₀ H₀,PE (rq X os fr scope C fp s₀ H₀) elt te)
  (hk:scope.kind=.function:=by rfl) (ck:BA X.env.scope scope X.N fr=true:=by rfl) (hs:∀x,foldedSetIterable iter X.env x=pure x:=by intro _;rfl) :
  PE X (.ListComp elt [⟨tg,iter,[],0⟩] scope pos) (LD (bx os) fr wi g te):=by
 intro bz s σ H Q I h;unfold LD at h;rw[uY];refine oC rfl hs (M5 (JO I ck)) hk (λx hx hl=>by have:=(X0 ck x hx).1;rw[hl] at this;exact this) (D7 (hi bz s σ H _ I h) λv s1 h1=>D7 h1 λHc s2 h2=>(Qo hc hg (λ_ _ _ _=>a6P) he hk ck h2 ?_));intro p C s3 H3 s' H' I3 eC hn I' ⟨m,hm⟩ q;refine⟨m,hm,λh' dt=>⟨.ref p,H',I3.BB I' hn (by lia) dt,rfl,q⟩⟩
theorem zI os fr(hc:X.calm=true)(hi:PI X tg iter wi)(hg:∀C fp s₀ H₀,PG (rq X os fr scope C fp s₀ H₀) tg g)(ht:∀C fp s₀ H₀,PT (rq X os fr scope C fp s₀ H₀) c tc)(he:∀C fp s₀ H₀,PE (rq X os fr scope C fp s₀ H₀) elt te)
  (hk:scope.kind=.function:=by rfl) (ck:BA X.env.scope scope X.N fr=true:=by rfl) (hs:∀x,foldedSetIterable iter X.env x=pure x:=by intro _;rfl) :
  PE X (.ListComp elt [⟨tg,iter,[c],0⟩] scope pos) (b8W (bx os) fr wi g tc te):=by
 intro bz s σ H Q I h;rw[uY];refine oC rfl hs (M5 (JO I ck)) hk (λx hx hl=>by have:=(X0 ck x hx).1;rw[hl] at this;exact this) (D7 (hi bz s σ H _ I h) λv s1 h1=>D7 h1 λHc s2 h2=>(Qo hc hg (λ_ _ _ _=>a7v (ht _ _ _ _)) he hk ck h2 ?_));intro p C s3 H3 s' H' I3 eC hn I' ⟨m,hm⟩ q;refine⟨m,hm,λh' dt=>⟨.ref p,H',I3.BB I' hn (by lia) dt,rfl,q⟩⟩
theorem CA{ER}os fr(hN:X.N.Nodup)(Ek:X.N[i]?=av x)(hx:X.env.scope.names.lookup x=av .local)
  (hc:X.calm=true) (hi:PI X tg iter wi) (hg:∀C fp s₀ H₀,PG (rq X os fr scope C fp s₀ H₀) tg g) (he:∀C fp s₀ H₀,PE (rq X os fr scope C fp s₀ H₀) elt te)
  (Uu:swapsWith (.ListComp elt [⟨tg,iter,[],0⟩] scope pos) (av (.Name x pos')) ER.line X.env=pure true:=by rfl)
  (hk:scope.kind=.function:=by rfl) (ck:BA X.env.scope scope X.N fr=true:=by rfl) (hs:∀x,foldedSetIterable iter X.env x=pure x:=by intro _;rfl) :
  PS X (.Assign [.Name x pos'] (.ListComp elt [⟨tg,iter,[],0⟩] scope pos) ER) (EE (LD (bx os) fr wi g te) (N7 i)):=by
 intro bz s σ H D I h;unfold EE LD at h;rw[uZ _ _ _ _ Uu];refine aN (iQ (aN ?_));refine aN (eY (oC rfl hs (M5 (JO I ck)) hk (λx hx hl=>by have:=(X0 ck x hx).1;rw[hl] at this;exact this)
  (D7 (hi bz s σ H _ I h) λv s1 h1=>D7 h1 λHc s2 h2=>?_)) (λ_ s' hq=>bG (bG hq)) λ_ _ e=>e)
 refine Qo hc hg (λ_ _ _ _=>a6P) he hk ck h2 ?_;intro p C s3 H3 s' H' I3 eC hn I' ⟨m,hm⟩ q;refine qC (Tp (v:=.ref p) I' hN Ek (.inl hx) rfl (λNb Uv ⟨a,Uw,ha⟩=>?_) (.inr hx));have Ux:C≠a:=by
  rcases ha with e|e
  ·rw[e];exact gR (eC▸I3.lt)
  ·obtain⟨v,z⟩:=I3.cell x a e;exact gR (eC▸z.lt)
 exact⟨m,hm.sameBut Uw Ux,λh' dt=>⟨_,H',I3.BB Uv hn (by lia) dt,q⟩⟩
end
abbrev JT(K:aF)(H:Hp)(a:aA)(xs:List V):Prop:=ah K H a xs\/cq K H a xs
theorem Nq{h':aJ}{h:aJ}(hk:∀b x,b ∉ [h.objs.size]->(h.push o).get? b=av x->h'.get? b=av x):∀b x,h.get? b=av x->h'.get? b=av x :=
 λb x e=>hk b x (λhm=>by rw[cJ.mp hm] at e;exact dO _ (bN e)) (bL _ e)
theorem Nr{σ:St}(hc:X.calm=true)(I:Inv X bz σ H s)(h:JT X.K H a xs):∃cx,Vals xs cx/\∀Q E,
  (∀o St,Walks X.prog X.w X.A.in1 s.heap.objs.size [s.heap.objs.size,a] [s.heap.objs.size] cx.toArray.size (λi v=>cx.toArray[i]?=av v) St->St 0 (s.heap.push o) →
   (∀b∈[s.heap.objs.size,a],b<(s.heap.push o).objs.size)->Q (.ref s.heap.objs.size) {s with heap:=s.heap.push o})->wpAny (model X.prog X.w) X.A.in1 (pyIter (.ref a)) Q E s:=by
 have hh:=I.ok.hd hc;have lt2:∀(o:Obj),a<s.heap.objs.size->∀b∈[s.heap.objs.size,a],b<(s.heap.push o).objs.size:=λo fk b hb=>by
  rw[gS];rcases bH.mp hb with rfl|hb
  ·exact jJ _
  ·rw[cJ.mp hb];exact mJ fk
 rcases h with h|h
 ·obtain⟨cx,r,p,hz⟩:=I.list h;have hl:=p.isList;have fk:a<s.heap.objs.size:=by obtain⟨_,e,_⟩:=hl;exact bN e
  exact⟨cx,r,λQ E hQ=>nF hl (hQ _ _ (rA (A:=X.A.in1) hh _ a (dB fk) cx.toArray) ⟨⟨_,dG _ rfl,rfl,rfl⟩,hl.push _⟩ (lt2 _ fk))⟩
 ·obtain⟨cx,r,p,hz⟩:=I.tuple h;have hl:=p;have fk:a<s.heap.objs.size:=by obtain⟨_,e,_⟩:=hl;exact bN e
  exact⟨cx,r,λQ E hQ=>sT hl (hQ _ _ (Walks.tuple (A:=X.A.in1) hh _ a (dB fk) cx.toArray) ⟨⟨_,dG _ rfl,rfl,rfl⟩,hl.push _⟩ (lt2 _ fk))⟩
theorem Uy(r:Vals ys cx){i:Nat}(e:cx.toArray[i]?=av v):∃y,ys[i]?=av y/\RelV y v:=by
 have e':cx[i]?=av v:=by simp_all
 cases q:ys[i]? with
 |none=>rw[r.none_of q] at e';cases e'
 |some y =>
  obtain⟨u,h1,h2⟩:=r.get q;rw[e'] at h1;cases h1;exact⟨y,rfl,h2⟩
theorem a8G(bs:List Bool):((aW (bx bs)).all λi=>(bs[i]?).getD true)=bs.all id:=by
 rw[iD,fE,fE];constructor
 ·intro h b hb;obtain⟨i,hi,e⟩:=rB hb;have:=h i (fF.mpr hi);simp only[aS hi,iG,e] at this;exact this
 ·intro h i hi;have Ek:=fF.mp hi;simp only[aS Ek,iG];exact h _ (eF Ek)
theorem a8B(bs:List Bool):((aW (bx bs)).any λi=>(bs[i]?).getD false)=bs.any id:=by
 rw[iD,mK,mK];constructor
 ·rintro⟨i,hi,e⟩;have Ek:=fF.mp hi;simp only[aS Ek,iG] at e;exact⟨_,eF Ek,e⟩
 ·rintro⟨b,hb,e⟩;obtain⟨i,hi,rfl⟩:=rB hb;exact⟨i,fF.mpr hi,by simp only[aS hi,iG];exact e⟩
theorem a7g(hc:X.calm=true):K6 X (.builtin "all") (λvs H Q=>∃(a:aA)(bs:List Bool),vs=[.ref a]/\JT X.K H a (bs.map V.bl)/\Q (.bl (bs.all id)) H):=by
 intro bz s σ H vs us Q I r h;obtain⟨a,bs,rfl,hs,q⟩:=h;obtain⟨u,rfl,ru⟩:=U1 r;cases ru;obtain⟨cx,rv,walk⟩:=Nr hc I hs;have hlen:cx.toArray.size=bs.length:=by rw[bY,<-rv.length,aH]
 refine call_all_walk (walk _ _ λo St W st fp=>⟨_,_,_,_,_,_,λi=>(bs[i]?).getD true,rfl,W,st,λi v s' Q' E' hP hQ=>?_,λh' tk hk=>?_⟩)
 ·obtain⟨y,e,ry⟩:=Uy rv hP;rw[aP] at e;cases eb:bs[i]? with
  |none=>rw[eb] at e;cases e
  |some b =>
   rw[eb] at e;cases e;cases ry;simp only[eb,iG] at hQ;exact gC hQ
 ·rw[hlen,a8G bs];exact⟨.bl _,H,I.kept (Nq hk),rfl,q⟩
theorem a7F(hc:X.calm=true):K6 X (.builtin "any") (λvs H Q=>∃(a:aA)(bs:List Bool),vs=[.ref a]/\JT X.K H a (bs.map V.bl)/\Q (.bl (bs.any id)) H):=by
 intro bz s σ H vs us Q I r h;obtain⟨a,bs,rfl,hs,q⟩:=h;obtain⟨u,rfl,ru⟩:=U1 r;cases ru;obtain⟨cx,rv,walk⟩:=Nr hc I hs;have hlen:cx.toArray.size=bs.length:=by rw[bY,<-rv.length,aH]
 refine call_any_walk (walk _ _ λo St W st fp=>⟨_,_,_,_,_,_,λi=>(bs[i]?).getD false,rfl,W,st,λi v s' Q' E' hP hQ=>?_,λh' tk hk=>?_⟩)
 ·obtain⟨y,e,ry⟩:=Uy rv hP;rw[aP] at e;cases eb:bs[i]? with
  |none=>rw[eb] at e;cases e
  |some b =>
   rw[eb] at e;cases e;cases ry;simp only[eb,iG] at hQ;exact gC hQ
 ·rw[hlen,a8B bs];exact⟨.bl _,H,I.kept (Nq hk),rfl,q⟩
theorem Nt{ns:List Int}(rv:Vals (ns.map V.int) cx):∀i v,cx.toArray[i]?=av v->∃t,v=iM (ns.getD i 0) t:=λi v hP=>by
 obtain⟨y,e,ry⟩:=Uy rv hP;rw[aP] at e;cases en:ns[i]? with
 |none=>rw[en] at e;cases e
 |some n =>
  rw[en] at e;cases e;obtain⟨t,rfl⟩:=ry;exact⟨t,by rw[bA,en];rfl⟩
theorem a3g(ns:List Int):∀j,preSum (λi=>ns.getD i 0) j=(ns.take j).sum
 |0=>by simp[preSum]
 |j+1=>by
  rw[preSum,a3g ns j];by_cases hj:j<bx ns
  ·rw[vA hj,vB,bA,aS hj];simp
  ·rw[fZ (by lia),fZ (by lia),bA,bW (by lia)];simp
theorem b1s(hc:X.calm=true):K6 X (.builtin "sum") (λvs H Q=>∃(a:aA)(ns:List Int),vs=[.ref a]/\JT X.K H a (ns.map V.int)/\Q (.int ns.sum) H):=by
 intro bz s σ H vs us Q I r h;obtain⟨a,ns,rfl,hs,q⟩:=h;obtain⟨u,rfl,ru⟩:=U1 r;cases ru;obtain⟨cx,rv,walk⟩:=Nr hc I hs;have hlen:cx.toArray.size=ns.length:=by rw[bY,<-rv.length,aH]
 refine call_sum_walkG (walk _ _ λo St W st fp=>⟨_,_,_,_,_,_,λi=>ns.getD i 0,rfl,W,st,fp,Nt rv,λh' tk t' hk=>?_⟩);rw[hlen,a3g,fZ (aT _)];exact⟨.int _,H,I.kept (Nq hk),⟨_,rfl⟩,q⟩
theorem a4O{l:List Int}(h:j<bx l):l.getD j 0∈l:=by simp_all
theorem a5p{l:List Int}(h:a∈l):∃j,j<bx l/\l.getD j 0=a:=by
 obtain⟨j,hj,e⟩:=rB h;exact⟨j,hj,by rw[bA,aS hj];exact e⟩
theorem Qq(hc:X.calm=true):K6 X (.builtin "max") (λvs H Q=>∃a ns,vs=[.ref a]/\JT X.K H a (ns.map V.int)/\ns≠[]/\∀M,M∈ns->(∀n∈ns,n<=M)->Q (.int M) H):=by
 intro bz s σ H vs us Q I r h;obtain⟨a,ns,rfl,hs,mm,q⟩:=h;obtain⟨u,rfl,ru⟩:=U1 r;cases ru;obtain⟨cx,rv,walk⟩:=Nr hc I hs;have hlen:cx.toArray.size=ns.length:=by rw[bY,<-rv.length,aH]
 have ur:=vC.mpr mm;refine call_max_walk (walk _ _ λo St W st fp=>?_);refine⟨_,_,_,_,_,_,_,rfl,W,st,fp,by rw[hlen];exact ur,CmpOf.ints_gt (λi=>ns.getD i 0) (Nt rv),λv h' tk hP hk=>?_⟩;obtain⟨h1,h2⟩:=argBest_gt (λi=>ns.getD i 0) (cx.toArray.size-1);obtain⟨t,rfl⟩:=Nt rv _ v hP;refine⟨.int _,H,I.kept (Nq hk),⟨_,rfl⟩,q _ (a4O (by lia)) λn hn=>?_⟩;obtain⟨j,hj,rfl⟩:=a5p hn;exact h2 j (by lia)
theorem b0k(hc:X.calm=true):K6 X (.builtin "min") (λvs H Q=>∃a ns,vs=[.ref a]/\JT X.K H a (ns.map V.int)/\ns≠[]/\∀M,M∈ns->(∀n∈ns,M<=n)->Q (.int M) H):=by
 intro bz s σ H vs us Q I r h;obtain⟨a,ns,rfl,hs,mm,q⟩:=h;obtain⟨u,rfl,ru⟩:=U1 r;cases ru;obtain⟨cx,rv,walk⟩:=Nr hc I hs;have hlen:cx.toArray.size=ns.length:=by rw[bY,<-rv.length,aH]
 have ur:=vC.mpr mm;refine call_min_walk (walk _ _ λo St W st fp=>?_);refine⟨_,_,_,_,_,_,_,rfl,W,st,fp,by rw[hlen];exact ur,vD (λi=>ns.getD i 0) (Nt rv),λv h' tk hP hk=>?_⟩;obtain⟨h1,h2⟩:=argBest_lt (λi=>ns.getD i 0) (cx.toArray.size-1);obtain⟨t,rfl⟩:=Nt rv _ v hP;refine⟨.int _,H,I.kept (Nq hk),⟨_,rfl⟩,q _ (a4O (by lia)) λn hn=>?_⟩;obtain⟨j,hj,rfl⟩:=a5p hn;exact h2 j (by lia)
theorem Uz:K6 X (.builtin "isinstance") (λvs H Q=>∃x t n b,vs=[x,.ty n]/\Cp X.K H x t/\bU X.K t (.type n)=av b/\Q (.bl b) H):=by
 intro bz s σ H vs us Q I r h;obtain⟨x,t,n,b,rfl,ty,e,q⟩:=h;obtain⟨u,v,rfl,ru,rv⟩:=Lw r;cases rv;exact b0U I ru ty e λtk=>⟨.bl b,H,I.tok _,rfl,q⟩
mutual
inductive Dp(K:aF)(H:Hp):V->dI->Prop
 |non:Dp K H .non .none
 |bl (b:Bool):Dp K H (.bl b) (.bool b)
 |int (i:Int):Dp K H (.int i) (.int i)
 |str (x:aC):Dp K H (.str x) (.str x)
 |lst {a:aA} {xs:List V} {ds:List dI}:ah K H a xs->qc K H xs ds->Dp K H (.ref a) (.list ds)
 |tup {a:aA} {xs:List V} {ds:List dI}:cq K H a xs->qc K H xs ds->Dp K H (.ref a) (.tuple ds)
inductive qc(K:aF)(H:Hp):List V->List dI->Prop
 |nil:qc K H [] []
 |cons {x:V} {xs:List V} {d:dI} {ds:List dI}:Dp K H x d->qc K H xs ds->qc K H (x::xs) (d::ds)
end
theorem af.cm{K}(e:af H H')(h:cq K H a xs):cq K H' a xs:=by
 rcases h with(h|⟨o,h⟩)|h
 ·exact .inl (.inl (e _ _ h))
 ·exact .inl (.inr ⟨o,e _ _ h⟩)
 ·exact .inr h
mutual
theorem Dp.same{K:aF}{H H':Hp}(e:af H H'):∀{x:V}{d:dI},Dp K H x d->Dp K H' x d
 |_,_,.non=>.non
 |_,_,.bl b=>.bl b
 |_,_,.int i=>.int i
 |_,_,.str x=>.str x
 |_,_,.lst h r=>.lst (e.seq h) (qc.same e r)
 |_,_,.tup h r=>.tup (e.cm h) (qc.same e r)
theorem qc.same{K:aF}{H H':Hp}(e:af H H'):∀{xs:List V}{ds:List dI},qc K H xs ds->qc K H' xs ds
 |_,_,.nil=>.nil
 |_,_,.cons a r=>.cons (Dp.same e a) (qc.same e r)
end
mutual
theorem Dp.reads{σ:St}(I:Inv X bz σ H s):∀{x:V}{d:dI},Dp X.K H x d->∀{u:aE},RelV x u->∃as,Reads s.heap u d as
 |_,_,.non,u,r=>by cases r;exact⟨_,.none⟩
 |_,_,.bl b,u,r=>by cases r;exact⟨_,.bool b⟩
 |_,_,.int i,u,r=>by obtain⟨t,rfl⟩:=r;exact⟨_,.int i t⟩
 |_,_,.str x,u,r=>by obtain⟨t,rfl⟩:=r;exact⟨_,.str x t⟩
 |_,_,.lst h q,u,r=>by
  cases r;obtain⟨cx,rv,p,hz⟩:=I.list h;obtain⟨o,e1,e2,n,e3⟩:=p.isList;obtain⟨as,ra⟩:=qc.reads I q rv;exact⟨_,.list e1 e2 e3 (by simpa using ra)⟩
 |_,_,.tup h q,u,r=>by
  cases r;obtain⟨cx,rv,p,hz⟩:=I.tuple h;obtain⟨o,e1,e2,n,e3⟩:=(show s.heap.IsTuple _ cx.toArray from p);obtain⟨as,ra⟩:=qc.reads I q rv;exact⟨_,.tuple e1 e2 e3 (by simpa using ra)⟩
theorem qc.reads(I:Inv X bz σ H s):∀{xs:List V}{ds:List dI},qc X.K H xs ds->∀{us:List aE},Vals xs us->∃as,ReadsAll s.heap us ds as
 |_,_,.nil,us,r=>by cases r;exact⟨_,.nil⟩
 |_,_,.cons a q,us,r=>by
  cases r with
  |cons r1 r2 =>
   obtain⟨as,h1⟩:=Dp.reads I a r1;obtain⟨bs,h2⟩:=qc.reads I q r2;exact⟨_,.cons h1 h2⟩
end
inductive Pl(K:aF)(x y:V)(H:Hp)(Q:VK):Prop|mk:∀d e,Dp K H x d->Dp K H y e->d.canLay0=true->e.canLay0=true->min d.depth e.depth<=60->Q (.bl (cK d e)) H->Pl K x y H Q
inductive Pn(K:aF)(x y:V)(H:Hp)(Q:VK):Prop|mk:∀d e,Dp K H x d->Dp K H y e->d.canLay0=true->e.canLay0=true->min d.depth e.depth<=60->Q (.bl (!PyData.eqv d e)) H->Pn K x y H Q
theorem d0Y(hr:b_ k X.A):gw X (compareOp .Eq) (Pl X.K):=by
 intro bz s σ H x y v u Q I rx ry h;obtain⟨d,e,h1,h2,c1,c2,hd,q⟩:=h;obtain⟨as,r1⟩:=h1.reads I rx;obtain⟨bs,r2⟩:=h2.reads I ry;exact SeqAt.compareEq_reads r1 r2 c1 c2 (by have:=hr.units;lia) ⟨.bl _,H,I,rfl,q⟩
theorem JU(hr:b_ k X.A):gw X (compareOp .NotEq) (Pn X.K):=by
 intro bz s σ H x y v u Q I rx ry h;obtain⟨d,e,h1,h2,c1,c2,hd,q⟩:=h;obtain⟨as,r1⟩:=h1.reads I rx;obtain⟨bs,r2⟩:=h2.reads I ry;exact SeqAt.compareNe_reads r1 r2 c1 c2 (by have:=hr.units;lia) ⟨.bl _,H,I,rfl,q⟩
theorem af.new(h:H p=bh)o:af H (upd H p o):=λb u q=>by rw[j3 (i7 q h)];exact q
theorem Wk.set(hi:i<n):Wk (c_ n fr σ) ((c_ n fr σ).set i (av v)):=by
 refine⟨by simp,λj w e=>?_⟩;by_cases hj:j=i
 ·subst hj;unfold c_ at e;rw[dH (by simp_all),gD] at e;split at e<;>cases e
 ·rw[dP (bV hj)];exact e
structure IL(J:It)(H1:Hp)(xs:List V):Prop where
 go:∀i H,af H1 H->i<bx xs->J.go i H
 By:∀i H x H',af H1 H->i<bx xs->J.By i H x H'->H'=H/\xs[i]?=av x
 stop:∀H,af H1 H->J.stop (bx xs) H
def A3{K}(h:ah K H1 a xs):IL (Lr K a) H1 xs :=
 ⟨λi H e hi=>⟨xs,xs[i],e.seq h,aS hi⟩,λi H x H' e hi y=>⟨y.1,y.2 xs (e.seq h)⟩,λH e=>⟨xs,e.seq h,aT _⟩⟩
def U3{K}(h:cq K H1 a xs):IL (Tv K a) H1 xs :=
 ⟨λi H e hi=>⟨xs,xs[i],e.cm h,aS hi⟩,λi H x H' e hi y=>⟨y.1,y.2 xs (e.cm h)⟩,λH e=>⟨xs,e.cm h,aT _⟩⟩
theorem Po{lo}:IL (Hd lo n) H1 ((aW n).map λ(i:Nat)=>V.int (lo+(i:Int))) :=
 ⟨λi H e hi=>(show i<n from by simpa using hi),λi H x H' e hi y=>⟨y.1,by rw[y.2,aP,cU (by simp_all)];rfl⟩,λH e=>by simp[Hd]⟩
theorem aZ.app:∀{a c}{b d:List β},aZ F a b->aZ F c d->aZ F (a++c) (b++d)
 |_,_,_,_,.nil,s=>s
 |_,_,_,_,.cons r t,s=>.cons r (aZ.app t s)
theorem O9(hJ:IL J H1 xs)(hp:H1 p=bh)(hz:bx xs<sizeLine)F
  (step:∀(i:Nat)x H N,xs[i]?=av x->af H1 H->N (F x) H->g x (c_ n fr σ) H λir H2=>Wk (c_ n fr σ) ir/\te ir H2 N)
  (hd:D (upd H1 p (.lst (xs.map F)))):IJ n fr g te σ J H1 p D:=by
 refine⟨λi m ys H=>m=bx xs-i/\i<=bx xs/\ys=(xs.take i).map F/\H=upd H1 p (.lst ys),⟨bx xs,by simp,dM _,by simp,rfl⟩,?_⟩;rintro i m ys H ⟨rfl,hi,rfl,rfl⟩;have e:=af.new (o:=.lst ((xs.take i).map F)) hp;by_cases fk:i<bx xs
 ·refine .inr ⟨hJ.go i _ e fk,λx H' y=>?_⟩;obtain⟨rfl,hx⟩:=hJ.By i _ x H' e fk y;refine step i x _ _ hx e ⟨ae,by rw[aH,cI];lia,bx xs-(i+1),by lia,rfl,fk,?_,Ju⟩;rw[rC,hx,bQ];rfl
 ·have:i=bx xs:=by lia
  subst this;refine .inl ⟨hJ.stop _ e,?_⟩;rw[fZ (aT _)];exact hd
theorem N5(hJ:IL J H1 xs)(hp:H1 p=bh)(hz:bx xs<sizeLine)(R:Nat->V->Hp->Prop)(hR:∀i y H H',R i y H->(∀b o,b≠p->H b=av o->H' b=av o)->R i y H')
  (step:∀i x H ys N,xs[i]?=av x->af H1 H->H p=av (.lst ys)->(∀v H3,af H H3->R i v H3->N v H3)->g x (c_ n fr σ) H λir H2=>Wk (c_ n fr σ) ir/\te ir H2 N)
  (hd:∀ys H,af H1 H->H p=av (.lst ys)->bx ys=bx xs->(∀i y,ys[i]?=av y->R i y H)->D H):IJ n fr g te σ J H1 p D:=by
 refine⟨λi m ys H=>m=bx xs-i/\i<=bx xs/\af H1 H/\H p=av (.lst ys)/\bx ys=i/\∀j y,ys[j]?=av y->R j y H,⟨bx xs,by simp,dM _,af.new hp _,ae,rfl,λj y e=>by simp at e⟩,?_⟩;rintro i m ys H ⟨rfl,hi,e,hH,len,pr⟩;by_cases fk:i<bx xs
 ·refine .inr ⟨hJ.go i _ e fk,λx H' y=>?_⟩;obtain⟨rfl,hx⟩:=hJ.By i _ x H' e fk y;refine step i x _ ys _ hx e hH λv H3 s3 r3=>⟨s3 _ _ hH,by lia,bx xs-(i+1),by lia,rfl,fk,λb o q=>?_,ae,by rw[aX,len];rfl,λj y ey=>?_⟩
  ·rw[j3 (i7 q hp)];exact s3 _ _ (e _ _ q)
  ·have up:∀b o,b≠p->H3 b=av o->upd H3 p (.lst (ys++[v])) b=av o:=λb o hb q=>by rw[j3 hb];exact q
   by_cases hj:j<bx ys
   ·rw[dH hj] at ey;exact hR j y _ _ (pr j y ey) λb o hb q=>up b o hb (s3 _ _ q)
   ·rw[dU (by lia)] at ey;have om:j-bx ys=0:=by
     cases q:j-bx ys with
     |zero=>rfl
     |succ k=>rw[q] at ey;simp at ey
    rw[om] at ey;have:j=i:=by lia
    subst this;simp at ey;subst ey;exact hR j v _ _ r3 up
 ·have:i=bx xs:=by lia
  subst this;exact .inl ⟨hJ.stop _ e,hd ys H e hH len pr⟩
theorem Inv.rz{σ:St}{fp:List aA}{T:aA}(I:Inv X bz σ H s)(hf:∀b∈fp,xp X bz H b)
  (k:∀b o,b ∉ fp->s.heap.get? b=av o->h'.get? b=av o) (ho:∀b∈fp,∃o,h'.get? b=av o) (hT:s.heap.objs.size<=T) (hz:bx xs<=sizeLine) (hv:Vals xs cx) (ht:gP h' T cx.toArray) :
  Inv X bz σ (upd H T (.tup xs)) {s with heap:=h'}:=by
 have Nu:=I.ck.fresh hT;refine I.step (λb hb=>⟨(hf b hb).2.2.2.1,(hf b hb).2.1,(hf b hb).2.2.2.2.1,(hf b hb).2.2.2.2.2⟩) (λb o _ _ hc e _=>k b o hc e) (λb o _ _ hc e _=>⟨o.slots,k b o hc e⟩)
  (λb o hc e n=>by rw[j3 ((λb o e=>dB (bS (bN e) hT)) b o e)];exact n) (λb o hc e=>⟨o,k b o hc e⟩) (λb ys e=>by rw[j3 (i7 e Nu)];exact e) (λb o u e=>by rw[j3 (i7 e Nu)];exact e) (λb ps e=>⟨#[],by rw[j3 (i7 e Nu),e];simp⟩)
  (λm hm=>?_) (λb u e=>?_) I.bare
 ·obtain⟨o,es,ep,e1,r⟩:=hm;exact⟨o,es,ep,k _ o (λz=>(hf _ z).2.1 rfl) e1,r⟩
 ·by_cases hb:b=T
  ·subst hb;rw[ae] at e;cases e;exact⟨hz,cx,hv,ht⟩
  ·rw[j3 hb] at e;have IC:∀c u,H c=av u->c ∉ fp:=λc u q z=>by rw[(hf c z).1] at q;cases q
   refine(I.ck b u e).rf (λc v hc q=>k c v ?_ q) (λc q=>by rw[j3 (i7 q Nu)];exact q) λc ys q=>by rw[j3 (i7 q Nu)];exact q
   rcases hc with z|z
   ·rw[z];exact IC b u e
   ·exact IC c _ z
theorem Inv.vi{σ:St}{fp:List aA}(I:Inv X bz σ H s)(hf:∀b∈fp,xp X bz H b)
  (k:∀b o,b ∉ fp->s.heap.get? b=av o->h'.get? b=av o):Inv X bz σ H {s with heap:=h'}:=by
 refine I.step (λb hb=>⟨(hf b hb).2.2.2.1,(hf b hb).2.1,(hf b hb).2.2.2.2.1,(hf b hb).2.2.2.2.2⟩) (λb o _ _ hc e _=>k b o hc e) (λb o _ _ hc e _=>⟨o.slots,k b o hc e⟩)
  (λb o hc e n=>n) (λb o hc e=>⟨o,k b o hc e⟩) (λb ys e=>e) (λb o u e=>e) (λb ps e=>⟨#[],by rw[e];simp⟩)
  (λm hm=>?_) (λb u e=>?_) I.bare
 ·obtain⟨o,es,ep,e1,r⟩:=hm;exact⟨o,es,ep,k _ o (λz=>(hf _ z).2.1 rfl) e1,r⟩
 ·have IC:∀c u,H c=av u->c ∉ fp:=λc u q z=>by rw[(hf c z).1] at q;cases q
  refine(I.ck b u e).rf (λc v hc q=>k c v ?_ q) (λc q=>q) λc ys q=>q;rcases hc with z|z
  ·rw[z];exact IC b u e
  ·exact IC c _ z
theorem b7W(n l1 l2:Nat)(h1:l1<n)(h2:l2<n):jO (n+4) (n+2) (n+3) n (n+1) l1 l2 where
 TIz:=(by lia)
 TOz:=(by lia)
 i1z:=(by lia)
 i2z:=(by lia)
 TITO:=(by lia)
 TIi1:=(by lia)
 TIi2:=(by lia)
 TOi1:=(by lia)
 TOi2:=(by lia)
 i12:=(by lia)
 l1z:=(by lia)
 l1TO:=(by lia)
 l1i1:=(by lia)
 l1i2:=(by lia)
 l2z:=(by lia)
 l2TO:=(by lia)
 l2i1:=(by lia)
 l2i2:=(by lia)
def b9B(i j:Int):Prop:=0<j/\j<2^8000
theorem log2_lt(h:y<2^8000):y.log2<9000:=by
 by_cases h0:y=0
 ·subst h0;decide
 ·exact bS ((mO h0).mpr h) (by decide)
theorem UA:gw X (binaryOp .FloorDiv) (rI b9B λi j=>.int (i/j)):=Lu λi j _ _ _ _ _ hc q=>by
 have h0:j≠0:=by have:=hc.1;lia
 refine sY h0 ((sZ i (cC hc.1))▸q) (.inl (PyProof.noPylong_of_log2 (log2_lt ?_)));have:=hc.1;have:=hc.2;lia
def fh(n:Nat)(i:Int):Prop:=i.natAbs<2^n
def b9o(i j:Int):Prop:=fh 1000000 i/\fh 1000000 j
theorem b0b(h:fh 1000000 i):vE i<=2^20:=by
 unfold vE;split
 ·exact dM _
 ·rename_i h0
  have GC:i.natAbs≠0:=by simp_all
  have:=(mO GC).mpr h;lia
def Qr:gw X (binaryOp .Mult) (rI b9o λi j=>.int (i*j)):=Lu λ_ _ _ _ _ _ _ hc q=>mul_int q (IntMulOk.of_bits (b0b hc.1) (b0b hc.2))
theorem af.write(e:af H H')(hp:H p=bh):af H (upd H' p o):=λb u q=>by rw[j3 (i7 q hp)];exact e b u q
end L2
namespace L2
open PySem PySem.W
structure X4(K:fA)(D:aA):Prop where
 ob:∃nm q N bs bm hdct sn sub ab col dd k0 k1 k2 k3 k5,K.lookup D=av (excClassObj nm q D N bs bm hdct sn sub ab col dd k0 k1 k2 k3 k5 "ValueError.__new__")/\nsOkIn K N=true/\nsIn K N "__init__"=av bh/\
  tailIn K [.type "ValueError",.type "Exception",.type "BaseException",.type "object"] bm=true
 ga:iI K (.ref D) "__getattribute__"=av (av (.builtin "BaseException.__getattribute__"))
 gn:iI K (.ref D) "__getattr__"=av bh
 ca:iI K (.ref D) "__class__"=av (av (.builtin "object.__class__"))
 mo:mroIn K D (.type "object")=av true
 mb:mroIn K D (.type "BaseException")=av true
end L2
namespace L2
open PySem PySem.Spec PyProof.Rows
theorem dh.got(x:dh H h a o):∃ob,h.get? a=av ob:=by
 cases o with
 |lst xs=>obtain⟨_,_,_,_,e⟩:=x;exact⟨_,e⟩
 |tup xs=>obtain⟨_,_,_,ob,e,_⟩:=x;exact⟨ob,e⟩
 |ins C dx fs=>obtain⟨_,_,_,e,_⟩:=x;exact⟨_,e⟩
 |own y=>exact x
 |zt lo hi=>obtain⟨_,_,_,e⟩:=x;exact⟨_,e⟩
 |Bw ob u=>obtain⟨e,_⟩:=x;exact⟨_,e⟩
 |my ps=>exact⟨_,(show h.get? a=av _ from x)⟩
 |ext φ=>obtain⟨_,e,_⟩:=x;exact e
theorem Un.slots{fs ex:List aA}{H0 H':Hp}{h0 h1 h2:aJ}(u:Un fs ex H0 H' h0 h1)(hb:∀b o,h1.get? b=av o->(∃o0,h0.get? b=av o0)->b ∉ fs->h2.get? b=av o)
  (hf:∀b∈fs,∀o,h1.get? b=av o->∃sl,h2.get? b=av {o with slots:=sl}):Un fs ex H0 H' h0 h2 where
 keep:=λb o q n JW hx=>hb b o (u.keep b o q n JW hx) ⟨o,q⟩ JW
 slot:=λb o q n JW hx=>by
  obtain⟨sl,e⟩:=u.slot b o q n JW hx;obtain⟨Tg,e'⟩:=hf b JW _ e;exact⟨Tg,e'⟩
 free:=u.free
 there:=λb o q hx=>by
  obtain⟨o',e⟩:=u.there b o q hx;by_cases hm:b∈fs
  ·obtain⟨sl,e'⟩:=hf b hm _ e;exact⟨_,e'⟩
  ·exact⟨_,hb b o' e ⟨o,q⟩ hm⟩
 pj:=u.pj
 pw:=u.pw
 pz:=u.pz
theorem mz.slots(x:mz H h)(k:∀b u o,H b=av u->h.get? b=av o->h'.get? b=av o):mz H h':=λa o e =>
 (x a o e).rf (λb u hb q=>by
  rcases hb with rfl|hb
  ·exact k b o u e q
  ·exact k b _ u hb q) (λ_ q=>q) λ_ _ q=>q
structure Em(P:aM)(w:aL)(l:List Env)(H:Hp)(s:aG)(ea t D:aA)(B:aJ)(H':Hp)(s':aG):Prop where
 os:s'.os=s.os
 bare:jC s'.gens
 un:Un (uk l) [] H H' s.heap s'.heap
 ck:mz H' s'.heap
 LH:vH B l ea (.ref D) (.ref t) s'.heap
 GD:∀b o,s'.heap.get? b=av o->((∃o0,s.heap.get? b=av o0)/\b ∉ uk l)\/H' b≠bh->B.get? b=av o
inductive W2(P:aM)(w:aL)(l:List Env)(H:Hp)(s:aG)(E:XK)(e:aE)(s':aG):Prop|mk:∀ea t D B H',e=.ref ea->Em P w l H s ea t D B H' s'->E (.ref D) bh H'->W2 P w l H s E e s'
theorem Em.inv{σ:St}(I:Inv X bz σ H s)(F:Em X.prog X.w X.stack H s ea t D B H' s'):Inv X bz σ H' s' :=
 I.call' F.os F.un F.ck F.bare λb z=>absurd z (by simp)
theorem UE{σ:St}(I:Inv X bz σ H s)(e:X.s₀.heap.get? b=av o)(hb:b ∉ uk X.outer):b ∉ uk X.stack:=λz=>by
 rcases bH.mp (I.rg b z) with q|q
 ·have:=bS (bN e) I.ok.above;rw[q] at this;exact dO _ this
 ·exact hb q
theorem V5{K}:Z8 (W2 P w) (N8 (W2 P w) P w K mg base N qual scope f cd A outer s₀ H₀ E) E:=by
 intro bz σ H s e s' I h;obtain⟨ea,t,D,B,H',rfl,F,hE⟩:=h;have I':=F.inv I;refine wpAny_leaves_onW I.ok.frames rfl F.LH λh' fl up=>?_;have st:=fl.1;have bin:∀b o,s'.heap.get? b=av o->(∃o0,s₀.heap.get? b=av o0)->b ∉ uk outer->B.get? b=av o:=λb o q ⟨o0,z⟩ hn=>by
  obtain⟨o1,q1⟩:=I.base.there b o0 z (by show b ∉ ([]:List aA);simp);exact F.GD b o q (.inl ⟨⟨o1,q1⟩,UE I z hn⟩)
 refine⟨ea,t,D,B,H',rfl,⟨I'.os,F.bare,I'.base.slots (λb o q z hn=>st b o (bin b o q z hn)) λb hb o q=>?_,F.ck.slots λb u o e q=>st b o (F.GD b o q (.inr (by lia))),fl,λb o q z=>?_⟩,hE⟩
 ·obtain⟨_,o',mj,hd⟩:=F.LH.2.2.1.2.2.mem hb;rw[q] at mj;cases mj;exact up b o q hd
 ·have:∃o1,s'.heap.get? b=av o1/\B.get? b=av o1:=by
   rcases z with⟨⟨o0,z⟩,hn⟩|z
   ·obtain⟨o1,q1⟩:=I'.base.there b o0 z (by show b ∉ ([]:List aA);simp);exact⟨o1,q1,bin b o1 q1 ⟨o0,z⟩ hn⟩
   ·cases e:H' b with
    |none=>exact absurd e z
    |some u =>
     obtain⟨o1,q1⟩:=(F.ck b u e).got;exact⟨o1,q1,F.GD b o1 q1 (.inr z)⟩
  obtain⟨o1,_,b1⟩:=this;have:=st b o1 b1;rw[show h'.get? b=av o from q] at this;cases this;exact b1
theorem b9b{K}{σ:St}(I:Inv (N8 (W2 P w) P w K mg base N qual scope f cd A outer s₀ H₀ E) bz σ H s)(hx:Heap.MadeExcOf s.heap h1 ea (.ref D) vs)
  (hE:E (.ref D) bh H):(N8 (W2 P w) P w K mg base N qual scope f cd A outer s₀ H₀ E).xe (.ref ea) {s with heap:=h1}:=by
 refine wpAny_leaves_madeW I.ok.frames rfl (λb o q=>W.of_hideAll _ q) (W.funFrames_hide I.stack (λenv he b hb=>nK.mpr ⟨env,he,hb⟩)) hx λh' t fl _ _ up=>?_;have st:=λb o q hn=>fl.1 b o (vJ _ q hn);have trn:∀b u,H b=av u->b ∉ uk (dQ qual scope s₀.heap.objs.size f cd::outer):=λb u e z=>by
  have:=I.qm b z;rw[e] at this;cases this
 refine⟨ea,t,D,_,H,rfl,⟨I.os,I.bare,I.base.slots (λb o q ⟨o0,z⟩ hn=>st b o q (UE I z hn)) λb hb o q=>?_,I.ck.slots λb u o e q=>st b o q (trn b u e),fl,λb o q z=>?_⟩,hE⟩
 ·obtain⟨_,o',mj,hd⟩:=I.gx.mem hb;rw[q] at mj;cases mj;exact up b o (hx.keeps b o q) hd
 ·have:∃o1,s.heap.get? b=av o1/\b ∉ uk (dQ qual scope s₀.heap.objs.size f cd::outer):=by
   rcases z with⟨⟨o0,z⟩,hn⟩|z
   ·obtain⟨o1,q1⟩:=I.base.there b o0 z (by show b ∉ ([]:List aA);simp);exact⟨o1,q1,UE I z hn⟩
   ·cases e:H b with
    |none=>exact absurd e z
    |some u =>
     obtain⟨o1,q1⟩:=(I.ck b u e).got;exact⟨o1,q1,trn b u e⟩
  obtain⟨o1,q1,hn⟩:=this;have:=st b o1 q1 hn;rw[show h'.get? b=av o from q] at this;cases this;exact vJ _ q1 hn
def tFs(te:TE):TE:=λσ H Q=>te σ H λv H1=>∃i,v=.int i/\i.natAbs.log2<1920/\∀x,Q (.str x) H1
theorem b5G(he:PE X e te)(ha:a.length<=1000):PE X (.JoinedStr [.Constant (.str a) j p1,.FormattedValue e (-1) bh p2] p3) (tFs te):=by
 intro bz s σ H Q I h;refine rH (kP (D7 (l9 bz s σ H (λv H'=>v=.str a/\H'=H) I ⟨rfl,rfl⟩) λu s1 ⟨v,H1,I1,r,hv,hH⟩=>?_));subst hv;subst hH;obtain⟨tk,rfl⟩:=r;have e0:(eI++a).length=a.length:=by rw[kQ];show 0+a.length=a.length;lia
 refine⟨by rw[e0];exact bF ha (by decide),kP (oG (D7 (he bz s1 σ H1 _ I1 h) λu s2 ⟨v,H2,I2,r,i,hv,hi,q⟩=>?_))⟩;subst hv;obtain⟨Nw,rfl⟩:=r;refine oH hi ?_;have hl:(eI++a++cN (toString i)).length<=sizeLine:=by
  rw[kQ,e0];have h1:=oJ (a:=i) (k:=1920) (by decide) hi;rw[oK,bE];lia
 exact⟨hl,rJ ⟨.str _,H2,(I2.tok _).tok _,⟨_,rfl⟩,q _⟩ hl⟩
section
variable{P:aM}{w:aL}{K:aF}{mg:aC->Option aE}{base:aJ}{N:List aC}{qual:aC}{scope:cQ}{f:aA}{cd:aE}{A:aV}{outer:List Env}{s₀:aG}{H₀:Hp}{E:XK}
 {x:aC} {D:aA} {e:aR} {t:TA} {np iz pos:Pos}
def b3F(t:TA)(D:aA)(E:XK):TS:=λ_ σ H=>t σ H λvs H1=>bx vs<=1000/\E (.ref D) bh H1
theorem T7(k:X4 K D)(hg:Gl (N8 (W2 P w) P w K mg base N qual scope f cd A outer s₀ H₀ E) x)(hm:mg x=av (.ref D))(hh:A.handled=bh)
  (ha:PA (N8 (W2 P w) P w K mg base N qual scope f cd A outer s₀ H₀ E) [e] t)
  (he:starEach [e] (dQ qual scope s₀.heap.objs.size f cd)=[(false,eval e (dQ qual scope s₀.heap.objs.size f cd))]:=by rfl) (Cq:(x==("__debug__":aC))=false:=by decide) :
  PS (N8 (W2 P w) P w K mg base N qual scope f cd A outer s₀ H₀ E) (.Raise (av (.Call (.Name x np) [e] [] iz)) bh pos) (b3F t D E):=by
 intro bz s σ H Dn I h;obtain⟨nm,q,Na,bs,bm,hdct,sn,sub,ab,col,dd,k0,k1,k2,k3,k5,lk,ok,ni,tl⟩:=k.ob;have tb:∀h:aJ,K.In h->OwnTail h [.type "ValueError",.type "Exception",.type "BaseException",.type "object"] bm:=λh X=>W.tail_of_in X tl;have UH:∀h:aJ,K.In h->h.Ns Na (h.nsMap Na)/\h.nsMap Na "__init__"=bh:=λh X=>⟨.of_isNs (W.isNs_of_in X ok),W.nsMap_none_of_in X ok ni⟩;refine wpAny_Raise_call_subT (nm:=nm) (q:=q) (N:=Na) (bs:=bs) (hdct:=hdct) (sn:=sn) (sub:=sub) (ab:=ab) (col:=col) (dd:=dd) (k0:=k0) (k1:=k1) (k2:=k2) (k3:=k3) (k5:=k5)
  F.excBase_ValueError ((tb base I.mod.zu).hasType rfl) (by show(A.deeper _).handled=bh;exact hh) (by rw[show starEach [e] (N8 (W2 P w) P w K mg base N qual scope f cd A outer s₀ H₀ E).env=_ from he];rfl)
  (UH base I.mod.zu).2 (Lm I hg hm ⟨rfl,?_⟩ Cq)
 have h2:=ha iz bz s σ H _ I h;rw[show starEach [e] (N8 (W2 P w) P w K mg base N qual scope f cd A outer s₀ H₀ E).env=_ from he] at h2⊢;refine uI (eY h2 (λus s2 ⟨vs,H2,I2,r,hl,hE⟩=>⟨rfl,by rw[<-r.length];exact gQ (t9 hl),I2.ix _ _ lk,(UH base I.mod.zu).1.keeps I2.bk,tb _ I2.ix,λh' ea hx=>b9b I2 hx hE⟩) λ_ _ z=>z)
end
section
variable{X:Cx}{bz:List (aA×Obj)}{σ:St}{H:Hp}{s:aG}{ea:aA}
end
def Ends.less(D:Ends)(i:Nat):Ends:={nx:=λσ H=>D.nx (σ.set i bh) H,rt:=D.rt,bk:=λσ H=>D.bk (σ.set i bh) H,ct:=λσ H=>D.ct (σ.set i bh) H}
section
variable{X:Cx}{x n:aC}{R:aA}{i:Nat}{tb:(St->XK)->TS}{ts:TS}{body IM:List aO}{Nx:aO}{np ur pos:Pos}
end
structure NC(k:Nat)(A:aV):Prop where
 dp:A.depth+3*k+5<recursionLimit
 un:A.units+16*k+200<cLine
structure ND(P:aM)(w:aL)(K:aF)(mg:aC->Option aE)(base:aJ)(k:Nat)(f:aA)(fd:aK)(ps:List aC)(sp:Sp):Prop where
 len:∀vs H Q E,sp vs H Q E->bx vs=bx ps
 run:∀(A:aV)(outer:List Env)(s:aG)(H:Hp)(args:Args)(us:List aE)(vs:List V)(Q:VK)(E:XK),NC k A->v_ P w K mg base A outer s H->lU s fd args (ps.zip us)->Vals vs us->sp vs H Q E →
  codeAny (model P w) A (.call (.ref f) args) (CR J8 outer P w H s Q E) s
theorem df.vj{K}{st}(F:df K x qual st f fd)(S:p7 N ps (i9 st))(len:∀vs H Q E,sp vs H Q E->bx vs=bx ps)
  (fz:∀ay A outer s H vs Q E,b_ k (A.deeper (dQ qual (i9 st) s.heap.objs.size f ay))->sp vs H Q E →
   ∃t,fu (N8 (W2 P w) P w K mg base N qual (i9 st) f ay A outer s H E) (x9 st) t/\t {nx:=λ_ H'=>Q .non H',rt:=Q} (V6 N vs) H):bf P w K mg base (W2 P w) (k+1) f fd ps sp:=by
 obtain⟨oc,od,kV,doc,pm,an,ay,ct,yc,rfl,lk,xo⟩:=F.ex;exact TU lk xo S len λA outer s H vs Q E hr iu=>fz ay A outer s H vs Q E hr iu
def df.ob{K}{st}(F:df K x qual st f fd)(S:p7 N ps (i9 st))(fz:∀ay A outer s H vs Q E,b_ k (A.deeper (dQ qual (i9 st) s.heap.objs.size f ay))->sp vs H Q E →
   ∃t,fu (N8 (W2 P w) P w K mg base N qual (i9 st) f ay A outer s H E) (x9 st) t/\t {nx:=λ_ H'=>Q .non H',rt:=Q} (V6 N vs) H)(len:∀vs H Q E,sp vs H Q E->bx vs=bx ps:=by rintro _ _ _ _ ⟨⟩;subst_vars;rfl):bf P w K mg base (W2 P w) (k+1) f fd ps sp:=F.vj S len fz
end L2
namespace L2
open PySem PySem.Spec PyProof.Rows
theorem b5e(q1:iU s.heap j tp i)(q2:gP s.heap tp vs)(q3:vs[i]?=av x)
  (q:∀h',iU h' j tp (i+1)->kH j s.heap h'->Q x {s with heap:=h'}):wpAny (model prog w) A (gH (.ref j)) Q E s:=by
 obtain⟨oj,g1,g2,g3⟩:=id q1;obtain⟨ot,g4,_,nt,g5⟩:=q2;unfold gH;refine aN (oO q1.typeIs oP (oQ oP q1.typeIs vT ?_ (vU _)));show wpAny _ _ (field (.ref j) 0 >>= _) _ _ s;refine aN (gA g1 g3 rfl ?_);rw[if_neg λz=>by cases z];refine aN (gA g1 g3 rfl (aN (gX g4 g5 ?_)));simp only[cF,q3];refine aN (vV g1 g3 (by simp) (bG ⟨x,rfl,bG (q _ ⟨_,uA _ g1 (Obj.isFreed_of_fields (vW g3 _)),(Obj.cls_mapFields ..).trans g2,?_⟩ (mS ..))⟩));rw[vW g3];simp[rawInt]
theorem b7J(hh:A.handled=bh)(q1:iU s.heap j tp i)(q2:gP s.heap tp vs)(q3:vs[i]?=bh)
  (q:∀h' e,mU j s.heap h'->(∃o,h'.get? e=av o/\o.cls=.type "StopIteration")->E (.ref e) {s with heap:=h'}):wpAny (model prog w) A (gH (.ref j)) Q E s:=by
 obtain⟨oj,g1,g2,g3⟩:=id q1;obtain⟨ot,g4,_,nt,g5⟩:=q2;unfold gH;refine aN (oO q1.typeIs oP (oQ oP q1.typeIs vT ?_ (vU _)));show wpAny _ _ (field (.ref j) 0 >>= _) _ _ s;refine aN (gA g1 g3 rfl ?_);rw[if_neg λz=>by cases z];refine aN (gA g1 g3 rfl (aN (gX g4 g5 ?_)));simp only[cF,q3];refine aN (lR (aN (vV g1 g3 (by simp) ?_)));show wpAny _ _ (do let e <- newExc (.type "StopIteration") [];_) _ _ _;refine aN (aN (lQ (aN (wpAny_of_eq rfl (lQ (aN (wpAny_handled ?_)) (by size_fits)))) (by size_fits)));rw[show A.in1.handled=bh from hh];exact aN (bG (wpAny_throw (q _ _ (((mS ..).extBut.push _).push _) ⟨_,dG _ rfl,rfl⟩)))
def iU.at'(x:iU h a t i)(e:∀o,h.get? a=av o->h'.get? a=av o):iU h' a t i:=let ⟨o,ho,r⟩:=x;⟨o,e _ ho,r⟩
def gz:Bool->aJ->aA->Array aE->Prop
 |true,h,t,xs=>h.IsList t xs
 |false,h,t,xs=>gP h t xs
def g_:Bool->aJ->aA->aA->Nat->Prop
 |true,h,j,t,k=>h.IsListIter j t k
 |false,h,j,t,k=>iU h j t k
def xt:Bool->aF->Hp->aA->List V->Prop
 |true,K,H,a,xs=>ah K H a xs
 |false,K,H,a,xs=>cq K H a xs
def NH:Bool->String
 |true=>"list_iterator"
 |false=>"tuple_iterator"
theorem g_.at'(x:g_ b h j t k)(e:∀o,h.get? j=av o->h'.get? j=av o):g_ b h' j t k:=by
 cases b
 ·exact iU.at' x e
 ·exact Heap.IsListIter.at x e
def g_.extBut(x:g_ b h j t k)(hs:mU c h h')(n:j≠c):g_ b h' j t k:=x.at' λo e=>hs j o n e
theorem gz.at'(x:gz b h t xs)(e:∀o,h.get? t=av o->h'.get? t=av o):gz b h' t xs:=by
 cases b
 ·obtain⟨o,ho,r⟩:=x;exact⟨o,e o ho,r⟩
 ·obtain⟨o,ho,r⟩:=x;exact⟨o,e o ho,r⟩
def gz.extBut(x:gz b h t xs)(hs:mU c h h')(n:t≠c):gz b h' t xs:=x.at' λo e=>hs t o n e
def gz.push(x:gz b h t xs)o:gz b (h.push o) t xs:=x.at' λ_ e=>bL _ e
theorem gz.lt(x:gz b h t xs):t<h.objs.size:=by
 cases b
 ·obtain⟨o,ho,_⟩:=x;exact bN ho
 ·obtain⟨o,ho,_⟩:=x;exact bN ho
theorem g_.mk(e:h.get? j=av {cls:=.type (NH b),data:=.fields #[.ref t,.int 0 0]}):g_ b h j t 0:=by
 cases b
 ·exact⟨_,e,rfl,rfl⟩
 ·exact⟨_,e,rfl,rfl⟩
theorem g_.obj(x:g_ b h j t k):∃o,h.get? j=av o/\∃vs,o.data=.fields vs:=by
 cases b
 ·obtain⟨o,ho,_,d⟩:=x;exact⟨o,ho,_,d⟩
 ·obtain⟨o,ho,_,d⟩:=x;exact⟨o,ho,_,d⟩
theorem af.CG{K}(e:af H H')(x:xt b K H a ys):xt b K H' a ys:=by
 cases b
 ·exact e.cm x
 ·exact e.seq x
theorem Inv.CG{σ:St}(I:Inv X bz σ H s)(x:xt b X.K H a ys):∃cx,Vals ys cx/\gz b s.heap a cx.toArray/\bx ys<=sizeLine:=by
 cases b
 ·exact I.tuple x
 ·obtain⟨i,r,p,z⟩:=I.list x;exact⟨i,r,p.isList,z⟩
theorem Inv.BD{σ:St}(I:Inv X bz σ H s)(x:xt b X.K H a ys)(y:xt b X.K H a zs):ys=zs:=by
 cases b
 ·exact I.vh x y
 ·exact I.rh x y
theorem UN(q1:g_ b s.heap j tp i)(q2:gz b s.heap tp vs)(q3:vs[i]?=av x)
  (q:∀h',g_ b h' j tp (i+1)->kH j s.heap h'->Q x {s with heap:=h'}):wpAny (model prog w) A (gH (.ref j)) Q E s:=by
 cases b
 ·exact b5e q1 q2 q3 q
 ·exact wpAny_nextOf_list_item q1 q2 q3 q
theorem Gf(hh:A.handled=bh)(q1:g_ b s.heap j tp i)(q2:gz b s.heap tp vs)(q3:vs[i]?=bh)
  (q:∀h' e,mU j s.heap h'->(∃o,h'.get? e=av o/\o.cls=.type "StopIteration")->E (.ref e) {s with heap:=h'}):wpAny (model prog w) A (gH (.ref j)) Q E s:=by
 cases b
 ·exact b7J hh q1 q2 q3 q
 ·exact wpAny_nextOf_list_end hh q1 q2 q3 q
theorem b6t(m:gz b s.heap t xs)(h:Q (.ref s.heap.objs.size) {s with heap:=s.heap.push {cls:=.type (NH b),data:=.fields #[.ref t,.int 0 0]}}):wpAny (model prog w) A (pyIter (.ref t)) Q E s:=by
 cases b
 ·exact iter_tuple m h
 ·exact nF m h
abbrev Y0(h:aJ)(z ti to:aA)(f0:aE)(f1:Bool):Prop :=
 h.get? z=av {cls:=.type "zip",dict:=bh,data:=.fields #[f0,.bool f1,.bool false,.ref ti,.ref to],slots:=#[]}
def Zf_(v:aE):Prop:=v=.none\/∃a:Nat,v=rawInt a
structure dK(b1 b2:Bool)(z ti to j1 j2 t1 t2:aA)(f0:aE)(f1:Bool)(k:Nat)(h:aJ):Prop where
 z:Y0 h z ti to f0 f1
 zf:Zf_ f0
 p1:dN h ti (.ref j1) (.ref j2)
 p2:∃a b,dN h to a b
 i1:g_ b1 h j1 t1 k
 i2:g_ b2 h j2 t2 k
section
variable{b1 b2:Bool}{h h':aJ}{z ti to j1 j2 t1 t2:aA}{f0:aE}{f1:Bool}{k:Nat}
theorem dK.obj(q:dK b1 b2 z ti to j1 j2 t1 t2 f0 f1 k h):∀b∈[z,ti,to,j1,j2],∃o,h.get? b=av o/\∀v,o.data≠.cell v:=λb hb=>by
 obtain⟨hz,_,Hn,⟨a,c,IP⟩,h1,h2⟩:=q;obtain⟨o1,e1,v1,d1⟩:=h1.obj;obtain⟨o2,e2,v2,d2⟩:=h2.obj;simp only[bH,dJ,or_false] at hb;rcases hb with rfl|rfl|rfl|rfl|rfl
 ·exact⟨_,hz,nofun⟩
 ·exact⟨_,Hn,nofun⟩
 ·exact⟨_,IP,nofun⟩
 ·exact⟨o1,e1,λv q=>by rw[d1] at q;cases q⟩
 ·exact⟨o2,e2,λv q=>by rw[d2] at q;cases q⟩
theorem dK.keep(q:dK b1 b2 z ti to j1 j2 t1 t2 f0 f1 k h)(m:∀b∈[z,ti,to,j1,j2],∀o,h.get? b=av o->h'.get? b=av o):dK b1 b2 z ti to j1 j2 t1 t2 f0 f1 k h' :=
 let ⟨a,c,IP⟩:=q.p2
 ⟨m z (by simp) _ q.z,q.zf,m ti (by simp) _ q.p1,⟨a,c,m to (by simp) _ IP⟩,q.i1.at' λo e=>m j1 (by simp) o e,q.i2.at' λo e=>m j2 (by simp) o e⟩
end
def f0A{h:aJ}{fp:List aA}{F:Obj->Prop}(q:∀b∈fp,∃o,h.get? b=av o/\F o):∀b∈fp,b≠h.objs.size:=λb hb e =>
 let ⟨_,ho,_⟩:=q b hb
 absurd (bN ho) (e▸dO _)
theorem c8N(h:Q (s.heap.get? a) s):wpAny (model prog w) A (loadIfAlive a) Q E s:=λΓ p _=>by
 show Sem.wp (model prog w) Γ (.loadIfAlive a .pure) _ _ p s;rw[Sem.wp_loadIfAlive];exact h
theorem c9n(q0:Y0 s.heap z ti to f0 f1)(z0:Zf_ f0)(h1:Q true s)(h2:f0≠.none->∀h',Y0 h' z ti to f0 true->kH z s.heap h'->Q false {s with heap:=h'}) :
  wpAny (model prog w) A (oR (.ref z)) Q E s:=by
 unfold oR;refine aN (gA q0 rfl rfl ?_);rcases z0 with rfl|⟨a,rfl⟩
 ·exact bG h1
 ·show wpAny _ _ (loadIfAlive (a:Int).toNat >>= _) _ _ s;refine aN (c8N ?_);cases hg:s.heap.get? (a:Int).toNat with
  |none=>exact bG h1
  |some o =>
   refine aN (gA q0 rfl rfl ?_);cases f1 with
   |true=>exact bG (h2 nofun s.heap q0 ⟨rfl,λ_ _=>rfl⟩)
   |false =>
    exact aN (kU q0 (by simp) λu1 z1 s1=>bG (h2 nofun u1 z1 s1))
theorem d1J{Q:aE->aG->Prop}(D:jO z ti to j1 j2 t1 t2)(st:dK b1 b2 z ti to j1 j2 t1 t2 f0 f1 k s.heap)(l1:gz b1 s.heap t1 xs)(l2:gz b2 s.heap t2 ys)(ex:xs[k]?=av x)(ey:ys[k]?=av y)
  (q:∀h' pO pP,(f0=.none->f1=false->pO=rawInt s.heap.objs.size/\pP=false)->dK b1 b2 z ti to j1 j2 t1 t2 pO pP (k+1) h'->dN h' s.heap.objs.size x y->h'.objs.size=s.heap.objs.size+1 →
   (∀c o,c ∉ [z,ti,to,j1,j2]->s.heap.get? c=av o->h'.get? c=av o)->Q (.ref s.heap.objs.size) {s with heap:=h'}) :
  wpAny (model prog w) A (iH.«zip.__next__» ⟨[.ref z],[]⟩) (λfin s'=>∃v,fin=.done (.ret v)/\Q v s') E s:=by
 obtain⟨q0,z0,p1,⟨a,b,p2⟩,i1,i2⟩:=st;show wpAny _ _ (field (.ref z) 2 >>= _) _ _ _;refine aN (gA q0 rfl rfl (show wpAny _ _ (field (.ref z) 3 >>= _) _ _ _ from aN (gA q0 rfl rfl (aN (gX p1 rfl ?_)))));show wpAny _ _ (do let free <- oR (.ref z);_) _ _ _;refine aN (c9n q0 z0 ?_ λnf v1 z1 s1=>?_)
 ·simp only[if_true];refine aN (lR (aN (gA q0 rfl rfl (aN (kU q0 (by simp) λu1 z1 s1=>(aN (aN (aN (mV (show wpAny _ _ (gH (.ref j1) >>= _) _ _ _ from aN (UN (i1.extBut s1.extBut D.i1z) (l1.extBut s1.extBut D.l1z) ex λu2 zJ s2=>bG ?_)))))))))));have to2:=s2.extBut _ _ D.TOi1 (s1.extBut _ _ D.TOz p2);refine aN (gX to2 rfl (aN (rS to2 λu3 to3 s3=>aN (jR (bG ?_)))));refine aN (aN (mV (show wpAny _ _ (gH (.ref j2) >>= _) _ _ _ from aN (UN (((i2.extBut s1.extBut D.i2z).extBut s2.extBut D.i12.symm).extBut s3.extBut D.TOi2.symm)
   (((l2.extBut s1.extBut D.l2z).extBut s2.extBut D.l2i1).extBut s3.extBut D.l2TO) ey λu4 Pp s4=>bG ?_))))
  have to4:=s4.extBut _ _ D.TOi2 to3;refine aN (gX to4 rfl (aN (rS to4 λu5 to5 s5=>aN (jR (bG (bG ?_))))));have NI:dN u5 to x y:=to5;refine aN (gX NI rfl (aN (wpAny_newTuple ?_)));have sz:u5.objs.size=s.heap.objs.size:=by rw[s5.1,s4.1,s3.1,s2.1,s1.1]
  have z5:Y0 u5 z ti to .ellipsis f1:=s5.extBut _ _ D.TOz.symm (s4.extBut _ _ D.i2z.symm (s3.extBut _ _ D.TOz.symm (s2.extBut _ _ D.i1z.symm z1)));have kp:∀c o,c≠z->c≠to->c≠j1->c≠j2->s.heap.get? c=av o->u5.get? c=av o:=λc o n1 n2 n3 n4 e=>s5.extBut _ _ n2 (s4.extBut _ _ n4 (s3.extBut _ _ n2 (s2.extBut _ _ n3 (s1.extBut _ _ n1 e))));have zl:z<u5.objs.size:=bN z5;show wpAny _ _ (do let r <- vZ (.ref z) (.ref u5.objs.size);_) _ _ _;unfold vZ;have z6:Y0 (u5.push {cls:=.type "tuple",data:=.seq #[x,y]}) z ti to .ellipsis f1:=bL _ z5;refine aN (aN (kU z6 (by simp) λu7 z7 s7=>(kU z7 (by simp) λu8 z8 s8=>?_)));have z8':Y0 u8 z ti to (rawInt u5.objs.size) false:=z8;have up:∀c o,c≠z->u5.get? c=av o->u8.get? c=av o:=λc o n1 e=>s8.extBut _ _ n1 (s7.extBut _ _ n1 (bL _ e));have nt8:dN u8 u5.objs.size x y:=s8.extBut _ _ (gR zl) (s7.extBut _ _ (gR zl) (dG _ rfl));have Pq:u8.objs.size=s.heap.objs.size+1:=by rw[s8.1,s7.1,gS,sz]
  rw[sz] at z8' nt8;refine bG ⟨_,rfl,?_⟩;show Q (.ref u5.objs.size) _;rw[sz];exact q u8 _ _ (λ_ _=>⟨rfl,rfl⟩) ⟨z8',.inr ⟨_,rfl⟩,up _ _ D.TIz (kp _ _ D.TIz D.TITO D.TIi1 D.TIi2 p1),⟨_,_,up _ _ D.TOz NI⟩,(((zJ.extBut s3.extBut D.TOi1.symm).extBut s4.extBut D.i12).extBut s5.extBut D.TOi1.symm).at' λo e=>up _ o D.i1z e,(Pp.extBut s5.extBut D.TOi2.symm).at' λo e=>up _ o D.i2z e⟩ nt8 Pq λc o hb e=>by
   simp only[bH,dJ,or_false,not_or] at hb;exact up c o hb.1 (kp c o hb.1 hb.2.2.1 hb.2.2.2.1 hb.2.2.2.2 e)
 ·simp only[uT,if_false];rw[hX];simp only[oA,qZ];refine aN (aN (aN (iP (show wpAny _ _ (gH (.ref j1) >>= _) _ _ _ from aN (UN (i1.extBut s1.extBut D.i1z) (l1.extBut s1.extBut D.l1z) ex λu2 zJ s2=>bG (bG (aN (aN (iP (show wpAny _ _ (gH (.ref j2) >>= _) _ _ _ from aN (UN ((i2.extBut s1.extBut D.i2z).extBut s2.extBut D.i12.symm) ((l2.extBut s1.extBut D.l2z).extBut s2.extBut D.l2i1) ey λu3 Pp s3=>bG (bG (bG (aN (wpAny_newTuple ?_ (by show 2<=sizeLine;decide))))))))))))))));have sz:u3.objs.size=s.heap.objs.size:=by rw[s3.1,s2.1,s1.1]
  have kp:∀c o,c≠z->c≠j1->c≠j2->s.heap.get? c=av o->u3.get? c=av o:=λc o n1 n3 n4 e=>s3.extBut _ _ n4 (s2.extBut _ _ n3 (s1.extBut _ _ n1 e));have up:∀c o,u3.get? c=av o->(u3.push {cls:=.type "tuple",data:=.seq #[x,y]}).get? c=av o:=λc o e=>bL _ e;have nt:dN (u3.push {cls:=.type "tuple",data:=.seq #[x,y]}) s.heap.objs.size x y:=by rw[<-sz];exact dG _ rfl
  have Pq:(u3.push {cls:=.type "tuple",data:=.seq #[x,y]}).objs.size=s.heap.objs.size+1:=by rw[gS,sz]
  refine bG ⟨_,rfl,?_⟩;show Q (.ref u3.objs.size) _;rw[sz];exact q _ f0 true (λm=>absurd m nf) ⟨up _ _ (s3.extBut _ _ D.i2z.symm (s2.extBut _ _ D.i1z.symm z1)),z0,up _ _ (kp _ _ D.TIz D.TIi1 D.TIi2 p1),⟨a,b,up _ _ (kp _ _ D.TOz D.TOi1 D.TOi2 p2)⟩,(zJ.extBut s3.extBut D.i12).at' λo e=>up _ o e,Pp.at' λo e=>up _ o e⟩ nt Pq λc o hb e=>by
   simp only[bH,dJ,or_false,not_or] at hb;exact up _ _ (kp c o hb.1 hb.2.2.2.1 hb.2.2.2.2 e)
theorem d2o(hh:A.handled=bh)(D:jO z ti to j1 j2 t1 t2)(st:dK b1 b2 z ti to j1 j2 t1 t2 f0 f1 k s.heap)(l1:gz b1 s.heap t1 xs)(l2:gz b2 s.heap t2 ys)(en:xs[k]?=bh\/ys[k]?=bh)
  (q':∀h' e,(∀c o,c ∉ [z,ti,to,j1,j2]->s.heap.get? c=av o->h'.get? c=av o)->(∃o,h'.get? e=av o/\o.cls=.type "StopIteration")->E (.ref e) {s with heap:=h'}) :
  wpAny (model prog w) A (iH.«zip.__next__» ⟨[.ref z],[]⟩) Q E s:=by
 obtain⟨q0,z0,p1,⟨a,b,p2⟩,i1,i2⟩:=st;have q:∀h' e,(∀c o,c≠z->c≠to->c≠j1->c≠j2->s.heap.get? c=av o->h'.get? c=av o)->(∃o,h'.get? e=av o/\o.cls=.type "StopIteration")->E (.ref e) {s with heap:=h'}:=λh' e k=>q' h' e λc o hb=>by
  simp only[bH,dJ,or_false,not_or] at hb;exact k c o hb.1 hb.2.2.1 hb.2.2.2.1 hb.2.2.2.2
 show wpAny _ _ (field (.ref z) 2 >>= _) _ _ _;refine aN (gA q0 rfl rfl (show wpAny _ _ (field (.ref z) 3 >>= _) _ _ _ from aN (gA q0 rfl rfl (aN (gX p1 rfl ?_)))));show wpAny _ _ (do let free <- oR (.ref z);_) _ _ _;refine aN (c9n q0 z0 ?_ λnf v1 z1 s1=>?_)
 ·simp only[if_true];refine aN (lR (aN (gA q0 rfl rfl (aN (kU q0 (by simp) λu1 z1 s1=>?_)))));have Qy:=z1;refine aN ?_;simp only[vX,vY,oA,qZ];cases ex:xs[k]? with
  |none =>
   refine aN (aN (mV (show wpAny _ _ (gH (.ref j1) >>= _) _ _ _ from aN (Gf hh (i1.extBut s1.extBut D.i1z) (l1.extBut s1.extBut D.l1z) ex λu2 e s2 ⟨oe,e1,e2⟩=>?_))));have z2:Y0 u2 z ti to .ellipsis f1:=s2 _ _ D.i1z.symm Qy;have ne:e≠z:=λc=>by subst c;rw[z2] at e1;cases e1;simp at e2
   exact kU z2 (by simp) λu3 _ s3=>q u3 e (λc o n1 _ n3 _ m=>s3.extBut _ _ n1 (s2 _ _ n3 (s1.extBut _ _ n1 m))) ⟨oe,s3.extBut _ _ ne e1,e2⟩
  |some x =>
   have ey:ys[k]?=bh:=by
    rcases en with m|m
    ·rw[ex] at m;cases m
    ·exact m
   refine aN (aN (mV (show wpAny _ _ (gH (.ref j1) >>= _) _ _ _ from aN (UN (i1.extBut s1.extBut D.i1z) (l1.extBut s1.extBut D.l1z) ex λu2 zJ s2=>bG ?_))));have to2:dN u2 to a b:=s2.extBut _ _ D.TOi1 (s1.extBut _ _ D.TOz p2);refine aN (gX to2 rfl (aN (rS to2 λu3 to3 s3=>aN (jR (bG ?_)))));refine aN (aN (mV (show wpAny _ _ (gH (.ref j2) >>= _) _ _ _ from aN (Gf hh (((i2.extBut s1.extBut D.i2z).extBut s2.extBut D.i12.symm).extBut s3.extBut D.TOi2.symm)
    (((l2.extBut s1.extBut D.l2z).extBut s2.extBut D.l2i1).extBut s3.extBut D.l2TO) ey λu4 e s4 ⟨oe,e1,e2⟩=>?_))))
   have z4:Y0 u4 z ti to .ellipsis f1:=s4 _ _ D.i2z.symm (s3.extBut _ _ D.TOz.symm (s2.extBut _ _ D.i1z.symm Qy));have ne:e≠z:=λc=>by subst c;rw[z4] at e1;cases e1;simp at e2
   exact kU z4 (by simp) λu5 _ s5=>q u5 e (λc o n1 n2 n3 n4 m=>s5.extBut _ _ n1 (s4 _ _ n4 (s3.extBut _ _ n2 (s2.extBut _ _ n3 (s1.extBut _ _ n1 m))))) ⟨oe,s5.extBut _ _ ne e1,e2⟩
 ·simp only[uT,if_false];rw[hX];simp only[oA,qZ];cases ex:xs[k]? with
  |none =>
   exact aN (aN (aN (iP (show wpAny _ _ (gH (.ref j1) >>= _) _ _ _ from aN (Gf hh (i1.extBut s1.extBut D.i1z) (l1.extBut s1.extBut D.l1z) ex λu2 e s2 r=>q u2 e (λc o n1 _ n3 _ m=>s2 _ _ n3 (s1.extBut _ _ n1 m)) r)))))
  |some x =>
   have ey:ys[k]?=bh:=by
    rcases en with m|m
    ·rw[ex] at m;cases m
    ·exact m
   exact aN (aN (aN (iP (show wpAny _ _ (gH (.ref j1) >>= _) _ _ _ from aN (UN (i1.extBut s1.extBut D.i1z) (l1.extBut s1.extBut D.l1z) ex λu2 zJ s2=>bG (bG (aN (aN (iP (show wpAny _ _ (gH (.ref j2) >>= _) _ _ _ from aN (Gf hh ((i2.extBut s1.extBut D.i2z).extBut s2.extBut D.i12.symm) ((l2.extBut s1.extBut D.l2z).extBut s2.extBut D.l2i1) ey λu3 e s3 r=>q u3 e (λc o n1 _ n3 n4 m=>s3 _ _ n4 (s2.extBut _ _ n3 (s1.extBut _ _ n1 m))) r)))))))))))
theorem d1M{i:Nat}{G:aE->aJ->Prop}(he:IsEnum s.heap e it i old)
  (hn:∀Q' E',(∀x h',IsEnum h' e it i old->G x h'->Q' x {s with heap:=h'})->wpAny (model prog w) A.in1 (gH (.ref it)) Q' E' s)
  (hQ:∀x h1 h' tk,G x h1->mH h' e it ((i:Int)+1) x h1.objs.size->h'.get? h1.objs.size=av {cls:=.type "tuple",data:=.seq #[.int i tk,x]}->(∀b o,b≠e->h1.get? b=av o->h'.get? b=av o)->Q (av (.ref h1.objs.size)) {s with heap:=h',toks:=tk+1}) :
  wpAny (model prog w) A (pyNext (.ref e)) Q E s:=by
 have hT:s.TypeIs (.ref e) "enumerate":=⟨_,he,rfl⟩;unfold pyNext;refine aN (wA (oO hT cL (oQ cL hT Re ?_ (Rs _))));show wpAny _ _ (field (.ref e) 2 >>= _) _ _ _;refine aN (gA he rfl rfl (aN (hn _ _ λx h1 Yz g=>?_)));obtain⟨hp,gg,d,tk,os⟩:=s;refine aN (gA Yz rfl rfl (aN (gA Yz rfl rfl (aN (wpAny_mkInt (aN (kU Yz (by simp) λh2 he2 s2=>?_)))))));have Pr:=he2;refine aN (kU Pr (by simp) λh3 he3 s3=>?_);have Pu:=he3;refine aN (wpAny_newTuple ?_);have Pw:IsEnum (h3.push {cls:=.type "tuple",data:=.seq #[.int i tk,x]}) e it ((i:Int)+1) old:=bL _ Pu;have sz:h3.objs.size=h1.objs.size:=by rw[s3.1,s2.1]
 have tt:(h3.push {cls:=.type "tuple",data:=.seq #[.int i tk,x]}).get? h1.objs.size=av {cls:=.type "tuple",data:=.seq #[.int i tk,x]}:=by rw[<-sz];exact dG _ rfl
 have kp:∀b o,b≠e->h1.get? b=av o->(h3.push {cls:=.type "tuple",data:=.seq #[.int i tk,x]}).get? b=av o:=λb o nb q=>bL _ (s3.extBut b o nb (s2.extBut b o nb q));rw[sz];generalize h3.push {cls:=.type "tuple",data:=.seq #[.int i tk,x]}=h4 at *;refine aN ?_;unfold oR;refine aN (gA Pw rfl rfl (bG (aN (lR (aN (gA Pw rfl rfl (aN (kU Pw (by simp) λh5 he5 s5=>?_))))))));have Py:=he5;refine aN ?_;unfold vZ;refine aN (kU Py (by simp) λh6 he6 s6=>(kU he6 (by simp) λh7 he7 s7=>?_));have up:=λb o nb q=>s7.extBut b o nb (s6.extBut b o nb (s5.extBut b o nb q));exact aN (jR (bG ⟨_,rfl,bG (hQ x h1 h7 tk g he7 (up _ _ (gR (bN Yz)) tt) λb o nb q=>up b o nb (kp b o nb q))⟩))
theorem d2f(he:IsEnum s.heap e it i old)
  (hn:∀Q' E',(∀h' x,(∃o,h'.get? x=av o/\o.cls=.type "StopIteration")->Q bh {s with heap:=h'}->E' (.ref x) {s with heap:=h'})->wpAny (model prog w) A.in1 (gH (.ref it)) Q' E' s) :
  wpAny (model prog w) A (pyNext (.ref e)) Q E s:=by
 have hT:s.TypeIs (.ref e) "enumerate":=⟨_,he,rfl⟩;unfold pyNext;refine aN (wA (oO hT cL (oQ cL hT Re ?_ (Rs _))));show wpAny _ _ (field (.ref e) 2 >>= _) _ _ _;exact aN (gA he rfl rfl (aN (hn _ _ λh' x ⟨o,ho,hc⟩ q=>(aN (wpAny_isInstance ⟨o,ho,hc⟩ isSubtype_stop (bG q))))))
abbrev Qz(b1:Bool)(h:aJ)(t1:aA):aJ:=h.push {cls:=.type (NH b1),data:=.fields #[.ref t1,.int 0 0]}
abbrev QA(b1 b2:Bool)(h:aJ)(t1 t2:aA):aJ:=(Qz b1 h t1).push {cls:=.type (NH b2),data:=.fields #[.ref t2,.int 0 0]}
abbrev QB(b1 b2:Bool)(h:aJ)(t1 t2:aA):aJ:=(QA b1 b2 h t1 t2).push {cls:=.type "tuple",data:=.seq #[.ref h.objs.size,.ref (Qz b1 h t1).objs.size]}
abbrev QC(b1 b2:Bool)(h:aJ)(t1 t2:aA):aJ:=(QB b1 b2 h t1 t2).push {cls:=.type "tuple",data:=.seq #[.none,.none]}
abbrev LJ(b1 b2:Bool)(h:aJ)(t1 t2:aA):aJ:=(QC b1 b2 h t1 t2).push {cls:=.type "zip",data:=.fields #[.none,.bool false,.bool false,.ref (QA b1 b2 h t1 t2).objs.size,.ref (QB b1 b2 h t1 t2).objs.size]}
theorem b7Z b1 b2 t1 t2 xs ys :
  Meets (iH.«zip.__new__» ⟨[.type "zip",.ref t1,.ref t2],[]⟩) (λ_ R s=>gz b1 s.heap t1 xs/\gz b2 s.heap t2 ys/\R (.ok (.ret (.ref (QC b1 b2 s.heap t1 t2).objs.size))) {s with heap:=LJ b1 b2 s.heap t1 t2}) :=
 .of_wp λprog w A R s h=>by
  obtain⟨hp,g,d,tk,os⟩:=s;obtain⟨e1,e2,h⟩:=h;have NB:=sub_zip;have m2:gz b2 (wD ⟨hp.push {cls:=.type (NH b1),data:=.fields #[.ref t1,.int 0 0]},g,d,tk,os⟩) t2 ys:=gz.push e2 _
  wp_walk using b6t e1,b6t m2
  exact⟨_,rfl,h⟩
theorem b5o{s:aG}(l1:gz b1 s.heap t1 xs)(l2:gz b2 s.heap t2 ys)
  (q:∀h',eV h' (s.heap.objs.size+4) (s.heap.objs.size+2) (s.heap.objs.size+3) .none->dN h' (s.heap.objs.size+2) (.ref s.heap.objs.size) (.ref (s.heap.objs.size+1))->dN h' (s.heap.objs.size+3) .none .none →
   g_ b1 h' s.heap.objs.size t1 0->g_ b2 h' (s.heap.objs.size+1) t2 0->(∀c o,s.heap.get? c=av o->h'.get? c=av o)->Q (.ref (s.heap.objs.size+4)) {s with heap:=h'}) :
  wpAny (model prog w) A (call (.type "zip") [.ref t1,.ref t2]) Q E s:=by
 refine callType_new F.called_zip (by decide) (F.typeCall_zip_2 _ _) (F.newCall_zip_2 _ _) (λob=>F.args_object_init_3 ob _ _) F.entry_zip_new (b7Z b1 b2 t1 t2 xs ys) ⟨l1,l2,?_⟩;have n1:(Qz b1 s.heap t1).objs.size=s.heap.objs.size+1:=gS ..;have n2:(QA b1 b2 s.heap t1 t2).objs.size=s.heap.objs.size+2:=by simp
 have n3:(QB b1 b2 s.heap t1 t2).objs.size=s.heap.objs.size+3:=by rw[gS,n2]
 have n4:(QC b1 b2 s.heap t1 t2).objs.size=s.heap.objs.size+4:=by rw[gS,n3]
 have p5:(LJ b1 b2 s.heap t1 t2).get? (QC b1 b2 s.heap t1 t2).objs.size=av _:=dG _ rfl;have p4:(LJ b1 b2 s.heap t1 t2).get? (QB b1 b2 s.heap t1 t2).objs.size=av _:=bL _ (dG _ rfl);have p3:(LJ b1 b2 s.heap t1 t2).get? (QA b1 b2 s.heap t1 t2).objs.size=av _:=bL _ (bL _ (dG _ rfl));have p2:(LJ b1 b2 s.heap t1 t2).get? (Qz b1 s.heap t1).objs.size=av _:=bL _ (bL _ (bL _ (dG _ rfl)));rw[n2,n3,n4] at p5;rw[n1,n2] at p3;rw[n3] at p4;rw[n1] at p2;rw[n4];exact⟨⟨_,p5,rfl⟩,q _ p5 p3 p4 (g_.mk (bL _ (bL _ (bL _ (bL _ (dG _ rfl)))))) (g_.mk p2) λc o m=>(bL _ (bL _ (bL _ (bL _ (bL _ m)))))⟩
def QD(b1 b2:Bool)(K:aF)(l1 l2:aA):It :=
  ⟨λi H=>∃xs ys x y,xt b1 K H l1 xs/\xt b2 K H l2 ys/\xs[i]?=av x/\ys[i]?=av y,
   λi H x H'=>∃p a b,H p=bh/\x=.ref p/\H'=upd H p (.tup [a,b])/\∀xs ys,xt b1 K H l1 xs->xt b2 K H l2 ys->xs[i]?=av a/\ys[i]?=av b,
   λi H=>∃xs ys,xt b1 K H l1 xs/\xt b2 K H l2 ys/\(bx xs<=i\/bx ys<=i)⟩
theorem Px{σ:St}(D:jO z ti to j1 j2 l1 l2)(I:Inv X bz σ H s)(hf:∀b∈[z,ti,to,j1,j2],xp X bz H b)(st:dK b1 b2 z ti to j1 j2 l1 l2 f0 f1 i s.heap)(hg:(QD b1 b2 X.K l1 l2).go i H)
  (q:∀h' pO pP x H',(f0=.none->f1=false->pO=rawInt s.heap.objs.size/\pP=false)->dK b1 b2 z ti to j1 j2 l1 l2 pO pP (i+1) h'->Inv X bz σ H' {s with heap:=h'}->RelV x (.ref s.heap.objs.size)->(QD b1 b2 X.K l1 l2).By i H x H' →
   (∀b o,s.heap.get? b=av o->H b=bh->H' b=bh)->(∀c o,c ∉ [z,ti,to,j1,j2]->s.heap.get? c=av o->h'.get? c=av o)->Q (av (.ref s.heap.objs.size)) {s with heap:=h'}) :
  wpAny (model X.prog X.w) A (callSpecial? (.ref z) (cN "__next__")) Q E s:=by
 obtain⟨xs,ys,x,y,QE,QF,hx,hy⟩:=hg;obtain⟨NJ,QG,p1,_⟩:=I.CG QE;obtain⟨Cy,QH,p2,_⟩:=I.CG QF;obtain⟨u1,hu1,UQ⟩:=QG.get hx;obtain⟨u2,hu2,UR⟩:=QH.get hy;have ty:s.TypeIs (.ref z) "zip":=⟨_,st.z,rfl⟩;refine oO ty oS (oQ oS ty wB
  (d1J D st p1 p2 (by simpa using hu1) (by simpa using hu2) λh' pO pP c0 c1 c2 c3 c4=>q h' pO pP (.ref s.heap.objs.size) (upd H s.heap.objs.size (.tup [x,y])) c0 c1 ?_ rfl ⟨_,x,y,I.fresh,rfl,rfl,λHo ys' q1 q2=>?_⟩ (λb o e n=>?_) c4) (wC _))
 ·exact I.rz hf c4 (λb hb=>let ⟨o,e,_⟩:=c1.obj b hb;⟨o,e⟩) (aT _) (by show 2<=sizeLine;decide) (show Vals [x,y] [u1,u2] from .cons UQ (.cons UR .nil)) ⟨_,c2,rfl,0,rfl⟩
 ·rw[I.BD q1 QE,I.BD q2 QF];exact⟨hx,hy⟩
 ·rw[j3 (dB (bN e))];exact n
theorem f0a{σ:St}(hh:A.in1.handled=bh)(D:jO z ti to j1 j2 l1 l2)(I:Inv X bz σ H s)(st:dK b1 b2 z ti to j1 j2 l1 l2 f0 f1 i s.heap)(hg:(QD b1 b2 X.K l1 l2).stop i H)
  (q:∀h' e,(∀c o,c ∉ [z,ti,to,j1,j2]->s.heap.get? c=av o->h'.get? c=av o)->(∃o,h'.get? e=av o/\o.cls=.type "StopIteration")->E (.ref e) {s with heap:=h'}) :
  wpAny (model X.prog X.w) A (callSpecial? (.ref z) (cN "__next__")) Q E s:=by
 obtain⟨xs,ys,QE,QF,NK⟩:=hg;obtain⟨NJ,QG,p1,_⟩:=I.CG QE;obtain⟨Cy,QH,p2,_⟩:=I.CG QF;have Aw:=QG.length;have j_:=QH.length;have ty:s.TypeIs (.ref z) "zip":=⟨_,st.z,rfl⟩;refine oO ty oS (oQ oS ty wB (d2o hh D st p1 p2 ?_ q) (wC _));rcases NK with q|q
 ·exact .inl (by simp;lia)
 ·exact .inr (by simp;lia)
theorem b5p{b1 b2:Bool}{P:aM}{w:aL}{K:aF}{elts:List aR}{x1:Nat}{pos:Pos}{z ti to j1 j2 l1 l2:aA}(D:jO z ti to j1 j2 l1 l2) :
  JF P w K (.Tuple elts x1 pos) (QD b1 b2 K l1 l2) [z,ti,to,j1,j2] z (dK b1 b2 z ti to j1 j2 l1 l2 .none false) where
 mem:=by simp
 obj:=λi h st=>st.obj
 keep:=λi h h' st k=>st.keep k
 item:=by
  intro X hP hw hK hc i bz s σ H E I hf st hg;subst hP hw hK;unfold pyNext;refine aN (wA (Px D I hf st hg λh' pO pP x H' c0 c1 I1 r y fr k=>bG ⟨_,rfl,?_⟩));obtain⟨rfl,rfl⟩:=c0 rfl rfl;refine wpAny_letOwnedTupleGo_zip c1.z λyg US qe=>?_;have hf':=λb hb=>let ⟨o,e,_⟩:=st.obj b hb;fr b o e (hf b hb).1;refine⟨x,H',I1.vi (λb hb=>⟨hf' b hb,(hf b hb).2⟩) λb o hb e=>qe.extBut b o (λc=>hb (by simp[c])) e,r,y,⟨US,.inl rfl,qe.extBut _ _ D.TIz c1.p1,let ⟨_,_,e⟩:=c1.p2;⟨_,_,qe.extBut _ _ D.TOz e⟩,c1.i1.extBut qe.extBut D.i1z,c1.i2.extBut qe.extBut D.i2z⟩,hf'⟩
 done:=by
  intro X hP hw hK hc i bz s σ H E I hf st hg;subst hP hw hK;unfold pyNext;exact aN (wA (f0a (I.ok.hd hc) D I st hg λh' e kp ⟨o,e1,e2⟩=>aN (wpAny_isInstance ⟨o,e1,e2⟩ isSubtype_stop (bG ⟨rfl,I.vi hf kp⟩))))
 self:=λ_ _ _ _ _ st h=>wE st.z h
def iZg(b1 b2:Bool)(K:aF)(ta:TA):TI:=λσ H R=>ta σ H λvs H1=>∃l1 l2,vs=[.ref l1,.ref l2]/\(∃xs,xt b1 K H1 l1 xs)/\(∃ys,xt b2 K H1 l2 ys)/\R (QD b1 b2 K l1 l2) H1
theorem QI b1 b2 K{p pos pos'}{elts}{x1}(hK:X.K=K)(hg:Gl X "zip")(hm:X.mg "zip"=bh)(ha:PA X [a,b] ta)(hs:starEach [a,b] X.env=[(false,eval a X.env),(false,eval b X.env)]:=by rfl)(II:starEach [b] X.env=[(false,eval b X.env)]:=by rfl) :
  PI X (.Tuple elts x1 pos') (.Call (.Name "zip" p) [a,b] [] pos) (iZg b1 b2 K ta):=by
 subst hK;intro bz s σ H R I h;refine Call_ (JD I hg hm boot_zip (nJ (D7 (ha pos bz s σ H _ I h) λus s1 ⟨vs,H1,I1,r1,q1⟩=>?_) (by rw[hs,II]) (by rw[II];rfl)));obtain⟨l1,l2,e,⟨xs,q1⟩,⟨ys,q2⟩,q⟩:=q1;subst e;obtain⟨u1,u2,rfl,UQ,UR⟩:=Lw r1;cases UQ;cases UR;obtain⟨NJ,QG,p1,_⟩:=I1.CG q1;obtain⟨Cy,QH,p2,_⟩:=I1.CG q2;refine b5o p1 p2 λh' z1 z2 z3 z4 z5 k=>(wE z1 ⟨s1.heap.objs.size+4,[s1.heap.objs.size+4,s1.heap.objs.size+2,s1.heap.objs.size+3,s1.heap.objs.size,s1.heap.objs.size+1],_,_,H1,rfl,I1.kept (t':=s1.toks) k,b5p (b7W _ _ _ p1.lt p2.lt),⟨z1,.inl rfl,z2,⟨_,_,z3⟩,z4,z5⟩,λb hb=>?_,q⟩);have ou:s1.heap.objs.size<=b:=by
  simp only[bH,dJ,or_false] at hb;rcases hb with rfl|rfl|rfl|rfl|rfl
  ·exact kW _ _
  ·exact kW _ _
  ·exact kW _ _
  ·exact aT _
  ·exact kW _ _
 exact I1.xy ou (I1.ck.fresh ou)
theorem QJ{K}(h1:xt b1 K H1 l1 xs)(h2:xt b2 K H1 l2 ys)(hp:H1 p=bh)(hz:bx xs<sizeLine)(R:Nat->V->Hp->Prop)(hR:∀i y H H',R i y H->(∀b o,b≠p->H b=av o->H' b=av o)->R i y H')
  (step:∀i x y H zs N,xs[i]?=av x->ys[i]?=av y->af H1 H->H p=av (.lst zs)->(∀v H3,af H H3->R i v H3->N v H3)->te (((c_ 2 fr σ).set 0 (av x)).set 1 (av y)) H N)
  (hd:∀zs H,af H1 H->H p=av (.lst zs)->bx zs=min (bx xs) (bx ys)->(∀i z,zs[i]?=av z->R i z H)->D H):IJ 2 fr (MW K 2 (JE (N7 0) (JE (N7 1) PQ))) te σ (QD b1 b2 K l1 l2) H1 p D:=by
 refine⟨λi m zs H=>m=min (bx xs) (bx ys)-i/\i<=min (bx xs) (bx ys)/\af H1 H/\H p=av (.lst zs)/\bx zs=i/\∀j y,zs[j]?=av y->R j y H,⟨_,rfl,dM _,af.new hp _,ae,rfl,λj y e=>by simp at e⟩,?_⟩;rintro i m zs H ⟨rfl,hi,e,hH,len,pr⟩;by_cases fk:i<min (bx xs) (bx ys)
 ·have hx:i<bx xs:=by lia
  have hy:i<bx ys:=by lia
  refine .inr ⟨⟨xs,ys,xs[i],ys[i],e.CG h1,e.CG h2,aS hx,aS hy⟩,λu H' y=>?_⟩;obtain⟨q,a,b,hq,rfl,rfl,yh⟩:=y;obtain⟨ha,hb⟩:=yh xs ys (e.CG h1) (e.CG h2);have s1:=af.new hq (.tup [a,b]);refine⟨q,_,rfl,cq.of ae,rfl,_,_,rfl,_,_,rfl,rfl,?_,?_⟩
  ·refine⟨by simp,λk w ek=>?_⟩;have:¬k<2:=λhk=>by
    unfold c_ at ek;rw[dH (by simpa using hk),gD] at ek;split at ek<;>cases ek
   rw[dP (by lia),dP (by lia)];exact ek
  ·refine step i a b _ zs _ ha hb (e.trans s1) (s1 _ _ hH) λv H3 s3 r3=>⟨s3 _ _ (s1 _ _ hH),by lia,min (bx xs) (bx ys)-(i+1),by lia,rfl,fk,λb' o q'=>?_,ae,by rw[aX,len];rfl,λj y ey=>?_⟩
   ·rw[j3 (i7 q' hp)];exact s3 _ _ (s1 _ _ (e _ _ q'))
   ·have up:∀b o,b≠p->H3 b=av o->upd H3 p (.lst (zs++[v])) b=av o:=λb o hb q=>by rw[j3 hb];exact q
    by_cases hj:j<bx zs
    ·rw[dH hj] at ey;exact hR j y _ _ (pr j y ey) λb o hb q=>up b o hb (s3 _ _ (s1 _ _ q))
    ·rw[dU (by lia)] at ey;have om:j-bx zs=0:=by
      cases q:j-bx zs with
      |zero=>rfl
      |succ k=>rw[q] at ey;simp at ey
     rw[om] at ey;have:j=i:=by lia
     subst this;simp at ey;subst ey;exact hR j v _ _ r3 up
 ·have:i=min (bx xs) (bx ys):=by lia
  subst this;exact .inl ⟨⟨xs,ys,e.CG h1,e.CG h2,by lia⟩,hd zs H e hH len pr⟩
theorem b9k{K}(h1:xt b1 K H1 l1 xs)(h2:xt b2 K H1 l2 ys)(hp:H1 p=bh)(hz:bx xs<sizeLine)F
  (step:∀(i:Nat)x y H N,xs[i]?=av x->ys[i]?=av y->af H1 H->N (F x y) H->te (((c_ 2 fr σ).set 0 (av x)).set 1 (av y)) H N)
  (hd:∀H,af H1 H->H p=av (.lst (cV F xs ys))->D H):IJ 2 fr (MW K 2 (JE (N7 0) (JE (N7 1) PQ))) te σ (QD b1 b2 K l1 l2) H1 p D:=by
 refine QJ h1 h2 hp hz (λi v _=>∀x y,xs[i]?=av x->ys[i]?=av y->v=F x y) (λ_ _ _ _ r _=>r) (λi x y H zs N hx hy e _ hN=>step i x y H N hx hy e (hN _ _ (af.refl _) λx' y' ex ey=>?_)) λzs H e hH hl hr=>hd H e ?_
 ·rw[hx] at ex;rw[hy] at ey;cases ex;cases ey;rfl
 ·rw[hH];congr 2;refine dR λi=>?_;by_cases hi:i<min (bx xs) (bx ys)
  ·have a1:i<bx zs:=by lia
   have a2:i<bx xs:=by lia
   have a3:i<bx ys:=by lia
   rw[aS a1,aS (jS▸hi),List.getElem_zipWith,hr i _ (aS a1) _ _ (aS a2) (aS a3)]
  ·rw[bW (by lia),bW (by simp_all)]
structure dT(P:aM)(w:aL)(K:aF)(J:It)(fp:List aA)(it:aA)(tn:Nat->aJ->Prop):Prop where
 obj:∀i h,tn i h->∀b∈fp,∃o,h.get? b=av o/\∀v,o.data≠.cell v
 keep:∀i h h',tn i h->(∀b∈fp,∀o,h.get? b=av o->h'.get? b=av o)->tn i h'
 item:∀(X:Cx),X.prog=P->X.w=w->X.K=K->∀(i:Nat)(bz:List (aA×Obj))(s:aG)(σ:St)(H:Hp)(A:aV)(Q E:aE->aG->Prop),Inv X bz σ H s->(∀b∈fp,xp X bz H b)->tn i s.heap->J.go i H →
  (∀v h' x H',Inv X bz σ H' {s with heap:=h'}->RelV x v->J.By i H x H'->tn (i+1) h'->(∀b o,s.heap.get? b=av o->H b=bh->H' b=bh)->(∀c o,c ∉ fp->s.heap.get? c=av o->h'.get? c=av o)->Q v {s with heap:=h'}) →
  wpAny (model P w) A (gH (.ref it)) Q E s
 done:∀(X:Cx),X.prog=P->X.w=w->X.K=K->∀(i:Nat)(bz:List (aA×Obj))(s:aG)(σ:St)(H:Hp)(A:aV)(Q E:aE->aG->Prop),A.handled=bh->Inv X bz σ H s->tn i s.heap->J.stop i H →
  (∀h' e,(∀c o,c ∉ fp->s.heap.get? c=av o->h'.get? c=av o)->(∃o,h'.get? e=av o/\o.cls=.type "StopIteration")->E (.ref e) {s with heap:=h'})->wpAny (model P w) A (gH (.ref it)) Q E s
def ie(J:It):It :=
 ⟨J.go,λi H y H2=>∃p a H1,J.By i H a H1/\H1 p=bh/\y=.ref p/\H2=upd H1 p (.tup [.int (i:Int),a]),J.stop⟩
theorem f0g{P:aM}{w:aL}{K:aF}{elts:List aR}{x1:Nat}{pos:Pos}{e it:aA}{J:It}{fp:List aA}{tn:Nat->aJ->Prop}(N:dT P w K J fp it tn)(xd:e ∉ fp) :
  JF P w K (.Tuple elts x1 pos) (ie J) (e::fp) e (λi h=>(∃old,IsEnum h e it (i:Int) old)/\tn i h) where
 mem:=by simp
 obj:=λi h st c hb=>by
  obtain⟨⟨old,he⟩,h1⟩:=st;rcases bH.mp hb with rfl|hb
  ·exact⟨_,he,nofun⟩
  ·exact N.obj i h h1 c hb
 keep:=λi h h' st k=>⟨let ⟨old,he⟩:=st.1;⟨old,k e (by simp) _ he⟩,N.keep i h h' st.2 λb hb=>k b (bZ _ hb)⟩
 item:=by
  intro X hP hw hK hc i bz s σ H E I hf st hg;obtain⟨⟨old,he⟩,h1⟩:=st;subst hP hw;refine d1M (G:=λv h'=>∃x H',Inv X bz σ H' {s with heap:=h'}/\RelV x v/\J.By i H x H'/\tn (i+1) h'/\IsEnum h' e it i old/\∀b∈e::fp,H' b=bh) he
   (λQ' E' k=>N.item X rfl rfl hK i bz s σ H X.A.in1 Q' E' I (λb hb=>hf b (bZ _ hb)) h1 hg λv h' x H' I' r y t f k'=>k _ h' (k' e _ xd he) ⟨x,H',I',r,y,t,k' e _ xd he,λb hb=>?_⟩) ?_
  ·obtain⟨o,ho⟩:∃o,s.heap.get? b=av o:=by
    rcases bH.mp hb with rfl|hb
    ·exact⟨_,he⟩
    ·exact let ⟨o,e,_⟩:=N.obj i _ h1 b hb;⟨o,e⟩
   exact f b o ho (hf b hb).1
  ·rintro v g1 h' tk ⟨x,H',I',r,y,t,Yz,f⟩ Pz PB kp;refine⟨_,rfl,wpAny_letOwnedTupleGo_enum Pz λyg NM qe=>?_⟩;have up:=λc o nc_ q=>qe.extBut c o nc_ (kp c o nc_ q);have t2:=N.keep _ _ _ t λb hb o q=>up b o (λz=>xd (z▸hb)) q;have el1:=bN Yz;refine⟨.ref g1.objs.size,upd H' g1.objs.size (.tup [.int (i:Int),x]),(I'.rz (λb hb=>⟨f b hb,(hf b hb).2⟩) (λc o hb q=>up c o (λz=>hb (by simp[z])) q) (λc hb=>?_) (aT _) (by show 2<=sizeLine;decide)
    (show Vals [.int (i:Int),x] [iM (i:Int) tk,v] from .cons ⟨_,rfl⟩ (.cons r .nil)) ⟨_,qe.extBut _ _ (gR el1) PB,rfl,0,rfl⟩).tok _,rfl,⟨_,x,H',y,I'.fresh,rfl,rfl⟩,⟨⟨_,NM⟩,t2⟩,λb hb=>?_⟩
   ·rcases bH.mp hb with rfl|hb
    ·exact⟨_,NM⟩
    ·exact let ⟨o,e,_⟩:=N.obj _ _ t2 c hb;⟨o,e⟩
   ·rw[j3 ?_];exact f b hb;rcases bH.mp hb with rfl|hb
    ·exact dB el1
    ·exact f0A (N.obj _ _ t) b hb
 done:=by
  intro X hP hw hK hc i bz s σ H E I hf st hg;obtain⟨⟨old,he⟩,h1⟩:=st;subst hP hw;exact d2f he λQ' E' k=>N.done X rfl rfl hK i bz s σ H _ Q' E' (I.ok.hd hc) I h1 hg λh' x kk r=>k h' x r ⟨rfl,I.vi hf λc o hb q=>kk c o (λz=>hb (bZ _ z)) q⟩
 self:=λ_ _ _ _ _ st h=>by
  obtain⟨⟨old,he⟩,_⟩:=st;exact wF he h
abbrev NL(K:aF)(l:aA):It:=ie (Lr K l)
theorem f0y{P:aM}{w:aL}{K:aF}{it l:aA}:dT P w K (Lr K l) [it] it (λi h=>h.IsListIter it l i) where
 obj:=λi h st b hb=>by
  obtain⟨o,e,c,d⟩:=st;cases cJ.mp hb;exact⟨o,e,λv z=>by rw[d] at z;cases z⟩
 keep:=λi h h' st k=>st.at λo e=>k it (by simp) o e
 item:=by
  intro X hP hw hK i bz s σ H A Q E I hf st hg q;subst hP hw hK;obtain⟨xs,x,hq,hx⟩:=hg;obtain⟨cx,rv,p,_⟩:=I.list hq;obtain⟨u,hu,ru⟩:=rv.get hx;have kk:∀{h':aJ},kH it s.heap h'->∀c o,c ∉ [it]->s.heap.get? c=av o->h'.get? c=av o:=λa c o hb e=>a.extBut c o (λz=>hb (by simp[z])) e;exact wpAny_nextOf_list_item st p.isList (by simp_all) λh' a1 a2=>q u h' x H (I.vi hf (kk a2)) ru ⟨rfl,λys hy=>by rw[I.rh hy hq];exact hx⟩ a1 (λ_ _ _ n=>n) (kk a2)
 done:=by
  intro X hP hw hK i bz s σ H A Q E hh I st hg q;subst hP hw hK;obtain⟨xs,hq,hx⟩:=hg;obtain⟨cx,rv,p,_⟩:=I.list hq;have hl:=rv.length;exact wpAny_nextOf_list_end hh st p.isList (by simp;lia) λh' e a r=>q h' e (λc o hb m=>a c o (λz=>hb (by simp[z])) m) r
def b9v(K:aF)(ta:TA):TI:=λσ H R=>ta σ H λvs H1=>∃l,vs=[.ref l]/\(∃xs,ah K H1 l xs)/\R (NL K l) H1
theorem zK K{p pos pos'}{elts}{x1}(hK:X.K=K)(hg:Gl X "enumerate")(hm:X.mg "enumerate"=bh)(ha:PA X [a] ta)(hs:starEach [a] X.env=[(false,eval a X.env)]:=by rfl)(II:starEach ([]:List aR) X.env=[]:=by rfl) :
  PI X (.Tuple elts x1 pos') (.Call (.Name "enumerate" p) [a] [] pos) (b9v K ta):=by
 subst hK;intro bz s σ H R I h;refine Call_ (JD I hg hm boot_enumerate (nJ (D7 (ha pos bz s σ H _ I h) λus s1 ⟨vs,H1,I1,r1,q1⟩=>?_) (by rw[hs,II]) rfl));obtain⟨l,e,⟨xs,q1⟩,q⟩:=q1;subst e;obtain⟨u,rfl,ru⟩:=U1 r1;cases ru;obtain⟨cx,rv,p,_⟩:=I1.list q1;refine call_enumerate_list p.isList λh' z1 z2 z3 k=>(wF z1 ⟨s1.heap.objs.size+1,[s1.heap.objs.size+1,s1.heap.objs.size],_,_,H1,rfl,I1.kept (t':=s1.toks) k,f0g (f0y) (by simp),⟨⟨_,z1⟩,z2⟩,λb hb=>?_,q⟩);have ou:s1.heap.objs.size<=b:=by
  simp only[bH,dJ,or_false] at hb;rcases hb with rfl|rfl
  ·exact lW _
  ·exact aT _
 exact I1.xy ou (I1.ck.fresh ou)
section
variable{xs ys:List V}{K:aF}{l1 l2:aA}{fr:List Nat}{te:TE}{σ:St}{H1:Hp}{p:aA}{D:Hp->Prop}
theorem a7e{tb:TS}{D:Ends}(Pv:Nat->St->Hp->Prop)(h0:Pv 0 σ H)(hl:∀i σ H,Pv i σ H->ah K H l1 xs)
  (hs:∀i x σ H q,xs[i]?=av x->Pv i σ H->H q=bh->tb {D with nx:=Pv (i+1),ct:=Pv (i+1),bk:=D.nx} ((σ.set i1 (av (.int (i:Int)))).set i2 (av x)) (upd H q (.tup [.int (i:Int),x]))) (hd:∀σ H,Pv (bx xs) σ H->D.nx σ H) :
  ∃W:Nat->Nat->St->Hp->Prop,(∃m,W 0 m σ H)/\∀i m σ H,W i m σ H →
   ((NL K l1).stop i H/\D.nx σ H)\/((NL K l1).go i H/\∃N,(∀au H',N au H'->∃m',m'<m/\W (i+1) m' au H')/\∀x H',(NL K l1).By i H x H'->MW K 2 (JE (N7 i1) (JE (N7 i2) PQ)) x σ H' λir H2=>tb {D with nx:=N,ct:=N,bk:=D.nx} ir H2):=by
 refine⟨λi m σ H=>m=bx xs-i/\i<=bx xs/\Pv i σ H,⟨_,rfl,dM _,h0⟩,?_⟩;rintro i m σ H ⟨rfl,hi,p⟩;have q1:=hl i σ H p;by_cases fk:i<bx xs
 ·refine .inr ⟨⟨xs,xs[i],q1,aS fk⟩,Pv (i+1),λau H' p'=>⟨bx xs-(i+1),by lia,rfl,fk,p'⟩,λu H' y=>?_⟩;obtain⟨q,a,_,⟨rfl,yh⟩,hq,rfl,rfl⟩:=y;exact⟨q,_,rfl,cq.of ae,rfl,_,_,rfl,_,_,rfl,rfl,hs i a σ _ q (yh xs q1) p hq⟩
 ·have:i=bx xs:=by lia
  subst this;exact .inl ⟨⟨xs,q1,by lia⟩,hd σ H p⟩
end
def e8z{w:Bool->TI}(h:∀b,PI X tg iter (w b)):PI X tg iter (λσ H R=>∃b,w b σ H R):=λbz s σ H R I ⟨b,q⟩=>h b bz s σ H R I q
end L2
namespace Fr
abbrev Q2:=Int×Int
def gI(a b:Int):Int:=(rT a b:Int)
def low(t b:Int):Q2:=(t/gI t b,b/gI t b)
def UU(f:Q2):Prop:=0<f.2/\rT f.1 f.2=1
def QK a b:0<=gI a b:=vS _
def T9 a b:gI a b∣a:=Int.gcd_dvd_left ..
def G7 a b:gI a b∣b:=Int.gcd_dvd_right ..
theorem QL(hb:0<b):0<gI a b:=by
 have h0:=QK a b;by_cases z:gI a b=0
 ·have:=G7 a b;rw[z,Int.zero_dvd] at this;lia
 ·lia
def b9G(hb:0<b):gI a b<=b:=wG hb (G7 a b)
def UW(h1:c∣a)(h2:c∣b):c∣gI a b:=Int.dvd_coe_gcd h1 h2
def UX{b:Int}(ha:0<=a)(hb:0<=b)(h1:a∣b)(h2:b∣a):a=b:=Int.dvd_antisymm ha hb h1 h2
theorem b4a a b:gI b (a%b)=gI a b:=by
 refine UX (QK _ _) (QK _ _) (UW ?_ (T9 _ _)) (UW (G7 _ _) ?_)
 ·have:=Int.dvd_add (wH (c:=a/b) (T9 b (a%b))) (G7 b (a%b));rw[Int.mul_ediv_add_emod] at this;exact this
 ·have:=Int.dvd_sub (T9 a b) (wH (c:=a/b) (G7 a b));rw[Int.emod_def];exact this
theorem b5L a:gI a 0=a.natAbs:=by unfold gI;rw[Int.gcd_zero_right]
theorem pQ(hb:0<b):0<(low t b).2:=by
 obtain⟨k,hk⟩:=G7 t b;show 0<b/gI t b;have e:b/gI t b=k:=by
  have:b/gI t b=(gI t b*k)/gI t b:=by rw[<-hk]
  rw[this,wI _ (by lia)]
 rw[e];by_cases z:0<k
 ·exact z
 ·have:=eO (cC (QL (a:=t) hb)) (show 0 <= -k by lia);rw[fT] at this;lia
def QM(hb:0<b):t=gI t b*(low t b).1/\b=gI t b*(low t b).2 :=
 ⟨(wJ (T9 t b)).symm,(wJ (G7 t b)).symm⟩
theorem zL(hb:0<b):(low t b).1*b=t*(low t b).2:=by
 obtain⟨h1,h2⟩:=QM hb;generalize gI t b=g at h1 h2;generalize low t b=f at h1 h2;rw[h1,h2]
 ac_rfl
theorem PK(hb:0<b):UU (low t b):=by
 refine⟨pQ hb,?_⟩;obtain⟨h1,h2⟩:=QM hb;have q:gI t b*gI (low t b).1 (low t b).2∣gI t b*1:=by
  rw[jF];refine UW ?_ ?_
  ·have:=wK (gI t b) (T9 (low t b).1 (low t b).2);rw[<-h1] at this;exact this
  ·have:=wK (gI t b) (G7 (low t b).1 (low t b).2);rw[<-h2] at this;exact this
 have q2:=Int.dvd_of_mul_dvd_mul_left (by lia) q;have q3:=UX (QK _ _) (by decide) q2 (Int.one_dvd _);unfold gI at q3;lia
theorem a3e(h:rT a b=1)(d:b∣a*c):b∣c:=by
 have h':Nat.Coprime b.natAbs a.natAbs:=by
  rw[Nat.coprime_comm];exact h
 have d':b.natAbs∣a.natAbs*c.natAbs:=by rw[<-rV];exact wL.mpr d
 exact wL.mp (h'.dvd_of_dvd_mul_left d')
theorem a6j(hf:UU f)(hg:UU g)(h:f.1*g.2=g.1*f.2):f=g:=by
 have d1:=a3e hf.2 ⟨g.1,by rw[h,bX]⟩;have d2:=a3e hg.2 ⟨f.1,by rw[<-h,bX]⟩;have e2:=UX (cC hf.1) (cC hg.1) d1 d2;have e1:f.1=g.1:=by
  rw[e2] at h;exact rW (by have:=hg.1;lia) h
 exact Prod.ext e1 e2
theorem Gg(hb:0<b)(ou:0<b')(h:t*b'=t'*b):low t b=low t' b':=by
 refine a6j (PK hb) (PK ou) ?_;have c1:=zL (t:=t) hb;have c2:=zL (t:=t') ou;generalize low t b=x at c1⊢;generalize low t' b'=y at c2⊢;refine rW (a:=b*b') (by have:=gJ hb ou;lia) ?_
 calc x.1*y.2*(b*b')=(x.1*b)*(y.2*b'):=by ac_rfl
  _=(t*b')*(x.2*y.2):=by rw[c1];ac_rfl
  _=(t'*y.2)*(b*x.2):=by rw[h];ac_rfl
  _=(y.1*b')*(b*x.2):=by rw[c2]
  _=y.1*x.2*(b*b'):=by ac_rfl
theorem F6{a m:Int}(ha:0<a)(hm:0<m)(h:m∣a):0<a/m/\m*(a/m)=a:=by
 have e:=wJ h;refine⟨?_,e⟩;by_cases z:0<a/m
 ·exact z
 ·have:=eO (cC hm) (show 0 <= -(a/m) by lia);rw[fT] at this;lia
end Fr
namespace L2
open PySem PySem.Spec PyProof.Rows
abbrev UY(X:Cx)(qual:aC)(scope:cQ)(f:aA)(cd:aE)(C:aA):Env:=W.envX qual scope C f cd (p_ X.env scope.names [])
def QN(X:Cx)(col:aC)(fr:List Nat)(qual:aC)(scope:cQ)(f:aA)(cd:aE)(A':aV)(s₀:aG)(H₀:Hp):Cx :=
  {X with N:=col::fr.map λj=>X.N.getD j "",s₀:=s₀,H₀:=H₀,A:=A'.deeper (UY X qual scope f cd s₀.heap.objs.size),env:=UY X qual scope f cd s₀.heap.objs.size,outer:=X.stack,
           stack:=UY X qual scope f cd s₀.heap.objs.size::X.stack,ex:=[],fn:=λ_=>false,pn:=[],xe:=λ_ _=>False}
section
variable{X:Cx}{bz:List (aA×Obj)}{σ:St}{H:Hp}{s:aG}{fr:List Nat}{scope:cQ}{col:aC}{qual:aC}{f:aA}{cd:aE}{A':aV}
theorem NP(e:(p_ env l []).lookup x=av c):env.cells.lookup x=av c:=Ni (λ_ _ z=>by simp at z) e
theorem Inv.lam{h₁:aJ}{t':Nat}{v:V}{u:aE}(I:Inv X bz σ H s)(hA:A'.frames=av X.stack)(hh:A'.handled=X.A.handled)(hk:scope.kind=.function)(h:BA X.env.scope scope X.N fr=true)
  (kf:∀x∈scope.names,x.2≠.cell) (CI:scope.names.lookup col=av .local) (EL:h₁.Ns s.heap.objs.size λx=>[(col,u)].reverse.lookup x) (gq:∀b o,s.heap.get? b=av o->h₁.get? b=av o) (r:RelV v u) :
  Inv (QN X col fr qual scope f cd A' s H) [] (av v::LB fr σ) H {s with heap:=h₁,toks:=t'} where
 ok:={
  mod:=I.ok.mod
  kind:=hk
  glob:=rfl
  blt:=rfl
  above:=aT _
  inj:=λx y c e1 e2=>I.ok.inj x y c (NP e1) (NP e2)
  has:=λx hx=>by
   rcases hx with e|e
   ·exact absurd rfl (kf _ (O8 e))
   ·exact LA (JO I h x (O8 e)) (O8 e)
  Gs:=λx c hx=>by cases (show false=true from hx)
  hd:=λz=>by
   show A'.handled=bh;rw[hh];exact I.ok.hd z
  frames:=qP hA
  GX:=.inr ⟨rfl,rfl⟩
  GY:=λb hb=>by cases (show b∈([]:List aA) from hb)
  bs:=I.bs
  xw:=bF I.ok.xw I.sz
  um:=λb o _ hb=>by cases (show b∈([]:List aA) from hb)
  uo:=λb hb=>by cases (show b∈([]:List aA) from hb)
  gx:=I.stack
  Cj:=I.qm}
 os:=rfl
 bare:=I.bare
 base:=Un.kept gq
 loc:=by
  refine⟨_,EL,λi x w e1 e2 _=>?_⟩;cases i with
  |zero =>
   have hx:=bD e1;have hv:=bD (bD e2);subst hx;subst hv;exact⟨u,r,.inl ⟨CI,by simp[iS]⟩⟩
  |succ i =>
   have EM:(fr.map λj=>X.N.getD j "")[i]?=av x:=e1;have JP:(fr.map λj=>(σ[j]?).join)[i]?=av (av w):=e2;rw[aP] at EM JP;cases q:fr[i]? with
   |none=>rw[q] at EM;cases EM
   |some j =>
    rw[q] at EM JP;obtain⟨EN,wj,JQ⟩:=b6l h j (bK q);have ex:X.N.getD j ""=x:=bD EM;have ev:(σ[j]?).join=av w:=bD JP;have hN:X.N[j]?=av x:=by
     rw[<-ex,bA,aS EN];rfl
    have Uh:σ[j]?=av (av w):=by
     cases r:σ[j]? with
     |none=>rw[r] at ev;cases ev
     |some y=>rw[r] at ev;exact congrArg av ev
    rw[ex] at wj JQ;obtain⟨m,_,hl⟩:=I.loc;obtain⟨u',r',lk⟩:=hl j x w hN Uh (.inr (.inl wj));refine⟨u',r',?_⟩;have kc:uW X.env x=av .cell:=wj;rcases lk with⟨k1,_⟩|⟨_,c,ec,o,mj,hd⟩
    ·rw[kc] at k1;cases k1
    ·obtain⟨c',Jz⟩:=LA ⟨c,ec⟩ (O8 JQ);have e3:=NP Jz;rw[ec] at e3;cases e3;exact .inr ⟨.inr JQ,c,Jz,o,gq _ _ mj,hd⟩
 cell:=λx c e=>by
  obtain⟨v,o,mj,hd⟩:=I.cell x c (NP e);exact⟨v,o,gq _ _ mj,hd⟩
 free:=I.ck.fresh (aT _)
 ee:=λx c e=>I.ee x c (NP e)
 pin:=λp hp=>by cases (show p∈([]:List (aA×Obj)) from hp)
 ck:=I.ck.kept gq
 len:=by simp[LB,QN]
def Quiet(X:Cx)(H:Hp)(s s':aG):Prop:=∀b o,s.heap.get? b=av o->H b=bh->b≠X.env.locals->b ∉ X.fs->s'.heap.get? b=av o
theorem b1z(I:Inv X bz σ H s)(hA:A'.frames=av X.stack)(hh:A'.handled=X.A.handled)
  (NQ:A'.depth<recursionLimit) (hk:scope.kind=.function) (h:BA X.env.scope scope X.N fr=true)
  (kf:∀x∈scope.names,x.2≠.cell) (CI:scope.names.lookup col=av .local) (UZ:scope.isCoroutine=false) (JX:scope.isGenerator=false)
  (hf:s.heap.get? f=av (oU "<lambda>" qual params body scope (p_ X.env scope.names []) pm c' BE)) (xo:s.heap.CodeRec (.ref c') qual)
  (hb:∀u,bindArgs (W.kla_fn "<lambda>" qual params body scope (p_ X.env scope.names []) pm (.ref c') BE) ⟨[u],[]⟩=pure [(col,u)])
  (fz:PE (QN X col fr qual scope f (.ref c') A' s H) body t) (r:RelV v u) (ht:t (av v::LB fr σ) H λy H'=>y=k/\H'=H)
  (q:∀y s',RelV k y->Inv X bz σ H s'->Quiet X H s s'->Q y s'):wpAny (model X.prog X.w) A' (call (.ref f) [u]) Q E s:=by
 refine lV (W.kla_callFunE NQ hf rfl UZ JX rfl xo ?_);rw[hb u];refine bG (wpAny_newFunctionEnv kf (λy hy=>?_) (λh₁ EL P0=>?_) hk)
 ·rw[cJ.mp hy];exact CI
 ·have IQ:=λb o e=>P0.extBut b o (dB (bN e)) (bL _ e);refine⟨I.nolimit.keeps IQ,W.kla_codeExpr (eY (fz [] _ _ _ _ (I.lam (qual:=qual) (f:=f) (cd:=.ref c') (t':=s.toks+[(col,u)].length) hA hh hk h kf CI EL IQ r) ht) (λy s' hy=>?_) λe s' z=>eD z)⟩;obtain⟨w,H',J',G',rfl,rfl⟩:=hy;have J2:=I.call' J'.os J'.base J'.ck J'.bare λb hb=>by cases hb
  refine q y s' G' J2 λb o e n n1 n2=>(J'.base.keep b o e n (λz=>?_) (by intro z;cases z));rcases bH.mp (I.rg b z) with w|w
  ·exact n1 w
  ·exact n2 w
end
def QO(mg:aC->Option aE)(base:aJ):Prop:=∃bm ob,mg "__builtins__"=av (.ref bm)/\bm≠builtinsNs/\base.get? bm=av ob/\ob.cls=.type "module"/\ob.dict=av builtinsNs/\ob.data=.plain
abbrev LK(c:aA)(qual:aC):HO:=.ext λh=>h.CodeRec (.ref c) qual
def cu(P:aA)(pos:Pos)(qual:aC)(H:Hp):Prop :=
 H P=av (.my #[])\/∃c',H P=av (.my #[rawInt pos.line,rawInt pos.col,.ref c'])/\H c'=av (LK c' qual)
def bj(P:aA)(H H':Hp):Prop:=∀b o,b≠P->H b=av o->H' b=av o
theorem cu.same(T:cu P pos qual H)(h:∀b o,H b=av o->H' b=av o):cu P pos qual H':=by
 rcases T with e|⟨c,e1,e2⟩
 ·exact .inl (h _ _ e)
 ·exact .inr ⟨c,h _ _ e1,h _ _ e2⟩
section
variable{X:Cx}{bz:List (aA×Obj)}{σ:St}{H:Hp}{s:aG}{fr:List Nat}{scope:cQ}{qual:aC}{c P:aA}{params:kO}{body:aR}{pos:Pos}
theorem b1h(e:h.get? c=av o)(r:h.CodeRec (.ref c) qual):dh H h c (LK c qual) :=
 ⟨r,⟨o,e⟩,λh1 h2 ⟨c',o',vs,t,z,g,q⟩ k=>by
  have z':=rG z;subst z';exact⟨c,o',vs,t,rfl,k _ g,q⟩⟩
theorem Inv.grown{c':aA}(I:Inv X bz σ H s)(hP:H P=av (.my ps))(hx:mU P s.heap h')(Hq:s.heap.objs.size<=c')(hcr:h'.CodeRec (.ref c') qual)
  (QP:h'.get? P=av {cls:=.none,data:=.fields (ps++more)}):Inv X bz σ (upd (upd H P (.my (ps++more))) c' (LK c' qual)) {s with heap:=h',toks:=t'}:=by
 have hcn:=I.ck.fresh Hq;have atP:upd (upd H P (.my (ps++more))) c' (LK c' qual) P=av (.my (ps++more)):=by rw[j3 (dB (bS (I.ck.lt hP) Hq)),ae]
 have nP:∀b o,H b=av o->(∀qs,o≠.my qs)->upd (upd H P (.my (ps++more))) c' (LK c' qual) b=av o:=λb o e n=>by
  rw[j3 (i7 e hcn),j3 λz=>by subst z;rw[e] at hP;exact n _ (bD hP)];exact e
 have Va:∀b,H b=bh->b≠P:=λb n z=>by subst z;rw[hP] at n;cases n
 obtain⟨cc,oc,vs,tt,z,gc,gr⟩:=id hcr;have z':=rG z;subst z';refine I.un ⟨λb o e n _ _=>hx b o (Va b n) e,λb o e n _ _=>⟨o.slots,hx b o (Va b n) e⟩,λb o e n _=>?_,λb o e _=>?_,λb xs e=>nP b _ e λ_=>nofun,λb o u e=>nP b _ e λ_=>nofun,λb qs e=>?_⟩ λb u e=>?_
 ·rw[j3 (dB (bS (bN e) Hq)),j3 (Va b n)];exact n
 ·by_cases hb:b=P
  ·subst hb;exact⟨_,QP⟩
  ·exact⟨o,hx b o hb e⟩
 ·by_cases hb:b=P
  ·subst hb;rw[e] at hP;cases hP;exact⟨more,atP⟩
  ·refine⟨#[],?_⟩;rw[j3 (i7 e hcn),j3 hb,e];simp
 ·by_cases hb:b=c'
  ·subst hb;rw[ae] at e;cases e;exact b1h gc hcr
  ·rw[j3 hb] at e;by_cases IU:b=P
   ·subst IU;rw[ae] at e;cases e;exact QP
   ·rw[j3 IU] at e;refine(I.ck b u e).rf (λd v hd g=>hx d v (λz=>?_) g) (λd g=>nP d _ g λ_=>nofun) λd xs g=>nP d _ g λ_=>nofun;subst z;rcases hd with w|w
    ·exact IU w.symm
    ·rw[hP] at w;cases w
theorem b3C(I:Inv X bz σ H s)(vm:X.env.code=.ref c)(C:oV X.base c P)(B:QO X.mg X.base)(T:cu P pos (X.env.qual++"<lambda>") H)
  (h:BA X.env.scope scope X.N fr=true) (JY:defaultsOf params X.env=([],[]))
  (q:∀f c' BE pm H' s',Inv X ((f,oU "<lambda>" (X.env.qual++"<lambda>") params body scope (p_ X.env scope.names []) pm c' BE)::bz) σ H' s'->cu P pos (X.env.qual++"<lambda>") H'->bj P H H' →
   H' c'=av (LK c' (X.env.qual++"<lambda>"))->(∀b,b<s.heap.objs.size->H b=bh->H' b=bh)->Q (.ref f) s') :
  wpAny (model X.prog X.w) X.A (eval (.Lambda params body scope pos) X.env) Q E s:=by
 have xr:=M5 (JO I h);have hg:=I.mod.glob.keeps I.bk;obtain⟨bm,ob,b1,b2,b3,b4,b5,b6⟩:=B;have Pg:∀ps,s.heap.get? P=av (oW ps)->mainGlobals≠P:=λps e z=>by
  obtain⟨o,es,ep,e1,hd,_⟩:=hg;rw[z,e] at e1;cases e1;cases hd
 have Pb:∀ps,s.heap.get? P=av (oW ps)->bm≠P:=λps e z=>by
  have e1:=I.bk _ _ b3;rw[z,e] at e1;cases e1;cases b4
 have bg:bm≠mainGlobals:=λz=>by
  obtain⟨o,es,ep,e1,hd,_⟩:=I.mod.glob;rw[z,e1] at b3;cases b3;rw[hd] at b6;cases b6
 refine W.kla_eval JY ?_;rcases T with T|⟨c',T,Tc⟩
 ·have hP:=I.ck P _ T;refine W.kla_makeFunction xr I.ok.glob hg vm (C.keeps I.bk) hP trivial rfl (Pg _ hP) ⟨bm,ob,b1,b2,bg,Pb _ hP,I.bk _ _ b3,b4,b5,b6⟩ λc' BE h' tk hx Hq fk Vb QP=>?_;have J:=I.grown (t':=tk) T hx Hq Vb QP;have xq:=bF Hq (gQ fk);have J2:=J.kept (h':=h'.push (oU "<lambda>" (X.env.qual++"<lambda>") params body scope (p_ X.env scope.names []) ((X.mg "__name__").getD .none) c' BE)) (t':=tk) λb u e=>bL _ e;refine q _ c' BE ((X.mg "__name__").getD .none) _ _ (J2.ke λp hp=>?_) (.inr ⟨c',?_,ae⟩) (λb o hb e=>?_) ae λb hb e=>?_
  ·rcases bH.mp hp with rfl|hp
   ·refine⟨Heap.get?_push_size _ rfl,J.ck.fresh (aT _),gR (bS I.lt xq),I.Jx xq,λv=>nofun⟩
   ·exact J2.pin p (eL _ hp)
  ·rw[j3 (dB (bS (I.ck.lt T) Hq)),ae];rfl
  ·rw[j3 (i7 e (I.ck.fresh Hq)),j3 hb];exact e
  ·rw[j3 (dB (bS hb Hq)),j3 λz=>by rw[z,T] at e;cases e];exact e
 ·have hP:=I.ck P _ T;have hf:codeAmong pos (#[rawInt pos.line,rawInt pos.col,cZ c']).toList=av (.ref c'):=by
   exact codeAmong_snoc [] trivial rfl
  refine W.kla_makeFunctionHit xr I.ok.glob hg vm (C.keeps I.bk) hP trivial hf ⟨bm,ob,b1,b2,bg,Pb _ hP,I.bk _ _ b3,b4,b5,b6⟩ λBE h' tk hk xq=>?_;have J:=I.kept (t':=tk) hk;have J2:=J.kept (h':=h'.push (oU "<lambda>" (X.env.qual++"<lambda>") params body scope (p_ X.env scope.names []) ((X.mg "__name__").getD .none) c' BE)) (t':=tk) λb u e=>bL _ e;refine q _ c' BE ((X.mg "__name__").getD .none) _ _ (J2.ke λp hp=>?_) (.inr ⟨c',T,Tc⟩) (λb o hb e=>e) Tc λb hb e=>e;rcases bH.mp hp with rfl|hp
  ·exact⟨Heap.get?_push_size _ rfl,J.ck.fresh (aT _),gR (bS I.lt xq),I.Jx xq,λv=>nofun⟩
  ·exact J2.pin p (eL _ hp)
end
section
variable{X:Cx}{bz:List (aA×Obj)}{σ:St}{H:Hp}{l It S fq:aA}{ns:List Int}{g:Int->Int}{R:jH->aG->Prop}
def Quiet.fp(k:Quiet X H s s')(f:xp X bz H b)(e:s.heap.get? b=av o):s'.heap.get? b=av o:=k b o e f.1 f.2.1 f.2.2.1
def Inv.m_(I:Inv X bz σ H s)(f:xp X bz H b)(k:∀c o,c≠b->s.heap.get? c=av o->h'.get? c=av o):Inv X bz σ H {s with heap:=h',toks:=t'} :=
 I.turned k f.1 f.2.1 f.2.2.2.1 f.2.2.2.2.1 f.2.2.2.2.2
def b7X(ns:List Int)(g:Int->Int)(j:Nat)(cont:List aE):Prop :=
 (cont=[]/\j=0)\/∃M vb kb,cont=[vb,kb]/\M∈ns/\RelV (.int M) vb/\RelV (.int (g M)) kb/\∀a∈ns.take j,g M<=g a
abbrev b3O(X:Cx)(bz:List (aA×Obj))(σ:St)(H:Hp)(fq:aA)(ns:List Int)(g:Int->Int):Prop :=
 ∀n∈ns,∀u s Q E,Inv X bz σ H s->RelV (.int n) u →
  (∀y s',RelV (.int (g n)) y->Inv X bz σ H s'->Quiet X H s s'->Q y s')->wpAny (model X.prog X.w) X.A.in1 (call (.ref fq) [u]) Q E s
theorem b5n(hc:X.calm=true)(hl:ah X.K H l (ns.map V.int))(turn:b3O X bz σ H fq ns g)(fI:xp X bz H It)(fS:xp X bz H S)(QQ:It≠S)(hIl:l≠It)
  (hN:ns=[]->∀s',Inv X bz σ H s'->R (.ok (.ret .none)) s') (hR:∀M∈ns,(∀a∈ns,g M<=g a)->∀y s',RelV (.int M) y->Inv X bz σ H s'->R (.ok (.ret y)) s') :
  ∀r j s cont cn,ns.length-j=r->j<=ns.length->Inv X bz σ H s->s.heap.IsListIter It l j->s.heap.get? S=av (seqObj "list" cont.toArray cn)->b7X ns g j cont →
   codeAny (model X.prog X.w) X.A (.builtin "min.loop" ⟨[.ref It,.ref fq,.ref S],[("default",.none)]⟩) R s:=by
 have nm:(toString "min"++toString ".loop":String)="min.loop":=by decide
 have hh:∀{s:aG},Inv X bz σ H s->X.A.in1.handled=bh:=λI=>I.ok.hd hc;intro r;induction r with
 |zero =>
  intro j s cont cn hr hj I hit hS hb;have QR:j=ns.length:=by lia
  obtain⟨cx,rv,pl,hz⟩:=I.list hl;have W:=rA (prog:=X.prog) (w:=X.w) (A:=X.A.in1) (hh I) It l hIl cx.toArray;have xq:cx.toArray.size=ns.length:=by rw[bY,<-rv.length,aH]
  refine rE wM ?_;rw[wN kX _];refine aN (gX hS rfl ?_);rcases hb with⟨rfl,rfl⟩|⟨M,vb,kb,rfl,hM,rM,rK,best⟩
  ·show wpAny _ X.A.in1 (tryCatch (pyNext (.ref It)) _ >>= _) _ _ _;refine aN (kY (W.done _ _ _ ⟨by rw[xq,<-QR];exact hit,pl.isList⟩ λh' GF i_=>?_));have J:=I.m_ (h':=h') (t':=GF) fI λc o n e=>i_ c o (by simpa using n) e;show wpAny _ X.A.in1 (rule _ >>= _) _ _ _;exact aN (lR (bG (hN (List.length_eq_zero_iff.mp QR.symm) _ J)))
  ·show wpAny _ X.A.in1 (tryCatch (pyNext (.ref It)) _ >>= _) _ _ _;refine aN (kY (W.done _ _ _ ⟨by rw[xq,<-QR];exact hit,pl.isList⟩ λh' GF i_=>?_));have J:=I.m_ (h':=h') (t':=GF) fI λc o n e=>i_ c o (by simpa using n) e;have BG:=i_ S _ (by simpa using QQ.symm) hS;have s1:=mS h' S (gT λ_=>(#[]:Array aE));show wpAny _ X.A.in1 (updateSeq S (λ_=>#[]) >>= _) _ _ _;exact aN (rX BG rfl (aN (jR (bG (hR M hM (λa ha=>best a (by rw[QR,wO];exact ha)) vb _ rM (J.m_ fS λc o n e=>(s1.2 c n).trans e))))))
 |succ r ih =>
  intro j s cont cn hr hj I hit hS hb;have fk:j<ns.length:=by lia
  obtain⟨cx,rv,pl,hz⟩:=I.list hl;have xq:cx.toArray.size=ns.length:=by rw[bY,<-rv.length,aH]
  refine rE wM ?_;rw[wN kX _];refine aN (gX hS rfl ?_);have go:∀(old:List aE)(kx:aE->Sem (Option aE))(B:Option aE->Sem oF)(Q:oF->aG->Prop)(E:aE->aG->Prop),
    (∀v h' GF,RelV (.int ns[j]) v->Inv X bz σ H {s with heap:=h',toks:=GF}->h'.IsListIter It l (j+1)->h'.get? S=av (seqObj "list" cont.toArray cn)->wpAny (model X.prog X.w) X.A.in1 (B (av v)) Q E {s with heap:=h',toks:=GF}) →
    wpAny (model X.prog X.w) X.A.in1 (tryCatch (pyNext (.ref It)) kx >>= B) Q E s:=by
   intro old kx B Q E hB;refine aN (kY ((rA (prog:=X.prog) (w:=X.w) (A:=X.A.in1) (hh I) It l hIl cx.toArray).item j _ _ _ (by rw[xq];exact fk) ⟨hit,pl.isList⟩ λv h' GF hP Vc i_=>?_));have hv:(ns.map V.int)[j]?=av (V.int ns[j]):=by rw[aP,aS fk];rfl
   obtain⟨u,hu,ru⟩:=rv.get hv;have hP':cx[j]?=av v:=by simpa using hP
   rw[hu] at hP';cases hP';exact hB _ h' GF ru (I.m_ fI λc o n e=>i_ c o (by simpa using n) e) Vc.1 (i_ S _ (by simpa using QQ.symm) hS)
  have hn:ns[j]∈ns:=eF fk;have Vd:∀a∈ns.take (j+1),a∈ns.take j\/a=ns[j]:=λa ha=>by
   rw[vA fk] at ha;rcases bJ.mp ha with z|z
   ·exact .inl z
   ·exact .inr (cJ.mp z)
  rcases hb with⟨rfl,rfl⟩|⟨M,vb,kb,rfl,hM,rM,rK,best⟩
  ·show wpAny _ X.A.in1 (tryCatch (pyNext (.ref It)) _ >>= _) _ _ _;refine go [] _ _ _ _ λv h' GF NR J JZ BG=>?_;show wpAny _ X.A.in1 (tryCatch (holding [v] (call (.ref fq) [v])) _ >>= _) _ _ _;refine aN (kY (iP (turn _ hn v _ _ _ J NR λy s2 ry J2 qu=>?_)));have LL:=qu.fp fS BG;obtain⟨oI,Ve,JA,QS⟩:=JZ;have QT:=qu.fp fI Ve;have s1:=mS s2.heap S (gT λ_=>#[v,y]);obtain⟨c2,Aq⟩:∃c2,(s2.heap.update S (gT λ_=>#[v,y])).get? S=av (seqObj "list" #[v,y] c2):=⟨_,wP LL λ_=>#[v,y]⟩;show wpAny _ X.A.in1 (updateSeq S (λ_=>#[v,y]) >>= _) _ _ _;refine aN (rX LL rfl ?_);rw[nm];refine bG ⟨plainId_quiet kX _,ih (0+1) _ [v,y] c2 (by lia) fk (J2.m_ fS λc o n e=>(s1.2 c n).trans e) ⟨oI,(s1.2 It QQ).trans QT,JA,QS⟩ Aq (.inr ⟨ns[0],v,y,rfl,hn,NR,ry,λa ha=>?_⟩)⟩;rcases Vd a ha with z|z
   ·simp at z
   ·rw[z];exact dL _
  ·show wpAny _ X.A.in1 (tryCatch (pyNext (.ref It)) _ >>= _) _ _ _;refine go [] _ _ _ _ λv h' GF NR J JZ BG=>?_;show wpAny _ X.A.in1 (tryCatch (holding [v] (call (.ref fq) [v])) _ >>= _) _ _ _;refine aN (kY (iP (turn _ hn v _ _ _ J NR λy s2 ry J2 qu=>?_)));have LL:=qu.fp fS BG;obtain⟨oI,Ve,JA,QS⟩:=JZ;have QT:=qu.fp fI Ve;obtain⟨t2,rfl⟩:=ry;obtain⟨tb,rfl⟩:=rK;show wpAny _ X.A.in1 (tryCatch (holding [v,.int (g ns[j]) t2] (richCompare .Lt (.int (g ns[j]) t2) (.int (g M) tb) >>= _)) _ >>= _) _ _ _;refine aN (kY (iP (aN (vD (prog:=X.prog) (w:=X.w) (A:=X.A.in1) (P:=λi v=>∃t,v=.int ([g ns[j],g M].getD i 0) t) (λi=>[g ns[j],g M].getD i 0) (λi v h=>h) 0 1 _ _ _ _ _ ⟨t2,rfl⟩ ⟨tb,rfl⟩ (aN (iP (gC (aN (jR (bG ?_))))))))));have Hr:(λi j_1=>decide ([g ns[j],g M].getD i 0<[g ns[j],g M].getD j_1 0)) 0 1=decide (g ns[j]<g M):=rfl;rw[Hr];by_cases ou:g ns[j]<g M
   ·have s1:=mS s2.heap S (gT λ_=>#[v,.int (g ns[j]) t2]);obtain⟨c2,Aq⟩:∃c2,(s2.heap.update S (gT λ_=>#[v,.int (g ns[j]) t2])).get? S=av (seqObj "list" #[v,.int (g ns[j]) t2] c2):=⟨_,wP LL λ_=>#[v,.int (g ns[j]) t2]⟩;simp only[ou,decide_true,if_true];refine aN (rX LL rfl (aN (jR ?_)));rw[nm];refine bG ⟨plainId_quiet kX _,ih (j+1) _ [v,.int (g ns[j]) t2] c2 (by lia) fk (J2.m_ fS λc o n e=>(s1.2 c n).trans e) ⟨oI,(s1.2 It QQ).trans QT,JA,QS⟩ Aq (.inr ⟨ns[j],v,_,rfl,hn,NR,⟨t2,rfl⟩,λa ha=>?_⟩)⟩;rcases Vd a ha with z|z
    ·have:=best a z;lia
    ·rw[z];exact dL _
   ·simp only[ou,decide_false,uT,if_false];refine aN (jR ?_);rw[nm];refine bG ⟨plainId_quiet kX _,ih (j+1) _ [vb,.int (g M) tb] cn (by lia) fk J2 ⟨oI,QT,JA,QS⟩ LL (.inr ⟨M,vb,_,rfl,hM,rM,⟨tb,rfl⟩,λa ha=>?_⟩)⟩;rcases Vd a ha with z|z
    ·exact best a z
    ·rw[z];lia
theorem b4i(hc:X.calm=true)(I:Inv X bz σ H s)(hl:ah X.K H l (ns.map V.int))(turn:b3O X bz σ H fq ns g)
  (hN:ns=[]->∀s',Inv X bz σ H s'->Q .none s') (hR:∀M∈ns,(∀a∈ns,g M<=g a)->∀y s',RelV (.int M) y->Inv X bz σ H s'->Q y s') :
  wpAny (model X.prog X.w) X.A (call (.builtin "min") [.ref l] [("key",.ref fq),("default",.none)]) Q E s:=by
 have nm:(toString "min"++toString ".loop":String)="min.loop":=by decide
 have ha:argsOk "min" ⟨[.ref l],[("key",.ref fq),("default",.none)]⟩:=by unfold argsOk;rfl
 obtain⟨cx,rv,pl,hz⟩:=I.list hl;have fk:l<s.heap.objs.size:=by obtain⟨_,e,_⟩:=pl.isList;exact bN e
 refine kmk_tree F.kind_min F.plain_min F.entry_min ha (aN (wpAny_of_eq (show wQ "min" ["key","default"] 0 ⟨[],[("key",.ref fq),("default",.none)]⟩=pure [av (.ref fq),av .none] from rfl) (aN (bG (aN (nF pl.isList (aN (wpAny_newList ?_ (dM _)))))))));rw[nm];have hS:(s.heap.push {cls:=.type "list_iterator",data:=.fields #[.ref l,.int 0 0]}).objs.size=s.heap.objs.size+1:=size_push' ..;have fS:xp X bz H (s.heap.push {cls:=.type "list_iterator",data:=.fields #[.ref l,.int 0 0]}).objs.size:=I.xy (by simp) (I.ck.fresh (by simp));refine bG ⟨plainId_quiet kX _,b5n hc hl turn (I.xy (aT _) (I.ck.fresh (aT _))) fS (dB (hS▸jJ _)) (dB fk) hN hR _ 0 _ [] 0 rfl (dM _) ((I.kept (h':=s.heap.push {cls:=.type "list_iterator",data:=.fields #[.ref l,.int 0 0]}) (t':=s.toks) λb u e=>bL _ e).kept (h':=(s.heap.push {cls:=.type "list_iterator",data:=.fields #[.ref l,.int 0 0]}).push (seqObj "list" #[] 0)) (t':=s.toks) λb u e=>bL _ e) ⟨_,bL _ (dG _ rfl),rfl,rfl⟩ (dG _ rfl) (.inl ⟨rfl,rfl⟩)⟩
end
theorem ah.fg{K}(T:cu P pos qual H)(e:bj P H H')(h:ah K H a xs):ah K H' a xs:=by
 have ne:∀o,H a=av o->(∀ps,o≠.my ps)->a≠P:=λo q n z=>by
  subst z;rcases T with t|⟨c,t,_⟩
  ·rw[q] at t;exact n _ (bD t)
  ·rw[q] at t;exact n _ (bD t)
 rcases h with(h|⟨o,h⟩)|h
 ·exact .inl (.inl (e _ _ (ne _ h λ_=>nofun) h))
 ·exact .inl (.inr ⟨o,e _ _ (ne _ h λ_=>nofun) h⟩)
 ·exact .inr h
def b5F(K:aF)(P:aA)(CJ:Pos)(qual:aC)(fr:List Nat)(t:TA)(tb:TE):TE:=λσ H Q=>t σ H λvs H1=>∃(l:aA)(ns:List Int)(g:Int->Int),vs=[.ref l]/\ah K H1 l (ns.map V.int)/\cu P CJ qual H1/\
 ∀H2,bj P H1 H2->cu P CJ qual H2->(∀n∈ns,tb (av (.int n)::LB fr σ) H2 λy H'=>y=.int (g n)/\H'=H2)/\(ns=[]->Q .non H2)/\∀M∈ns,(∀a∈ns,g M<=g a)->Q (.int M) H2
section
variable{X:Cx}{e body:aR}{es:List aR}{t:TA}{tb:TE}{fr:List Nat}{scope:cQ}{col:aC}{c P:aA}{params:kO}{p pos CJ Qs kp2 cp:Pos}{cj:Nat}
theorem b0V(hc:X.calm=true)(hr:b_ 2 X.A)(hg:Gl X "min")(hm:X.mg "min"=bh)(vm:X.env.code=.ref c)(C:oV X.base c P)(B:QO X.mg X.base)(zM:BA X.env.scope scope X.N fr=true)(hk:scope.kind=.function)
  (kf:∀x∈scope.names,x.2≠.cell) (CI:scope.names.lookup col=av .local) (UZ:scope.isCoroutine=false) (JX:scope.isGenerator=false)
  (hb:∀pm BE c' u,bindArgs (W.kla_fn "<lambda>" (X.env.qual++"<lambda>") params body scope (p_ X.env scope.names []) pm (.ref c') BE) ⟨[u],[]⟩=pure [(col,u)])
  (ha:PA X [e] t) (fz:∀f cd s H,PE (QN X col fr (X.env.qual++"<lambda>") scope f cd X.A.in1 s H) body tb) (JY:defaultsOf params X.env=([],[]):=by rfl)
  (he:backTo pos (starEach [e] X.env)=(false,eval e X.env)::backTo pos (starEach [] X.env):=by rfl) (wb:(backTo pos (starEach [e] X.env)).any (·.1)=false:=by rfl) :
  PE X (.Call (.Name "min" p) [e] [⟨av "key",.Lambda params body scope CJ,Qs⟩,⟨av "default",.Constant .none cj cp,kp2⟩] pos) (b5F X.K P CJ (X.env.qual++"<lambda>") fr t tb):=by
 intro bz s σ H Q I h;refine jK (JD I hg hm rfl (Ak (D7 (ha pos bz s σ H _ I h) λus s1 ⟨vs,H1,I1,r,l,ns,g,ev,hl,T,q⟩=>?_) he wb));subst ev;obtain⟨u,rfl,ru⟩:=U1 r;cases ru;show wpAny _ _ (evalAll [(do let v <- eval (.Lambda params body scope CJ) X.env;standAt pos;pure v),(do let v <- eval (.Constant .none cj cp) X.env;standAt pos;pure v)]) _ _ s1;refine wR (aN (b3C I1 vm C B T zM JY λf c' BE pm H2 s2 I2 T2 e2 Qt _=>aN (iQ (bG (wR (aN (sN (aN (iQ (bG (wpAny_evalAll_nil ?_)))))))))));obtain⟨q1,q2,q3⟩:=q H2 e2 T2;have drop:∀{po:aA×Obj}{s'},Inv X (po::bz) σ H2 s'->Inv X bz σ H2 s':=λJ=>J.ke λp hp=>J.pin p (eL _ (bZ _ hp));have zw:X.A.in1.depth<recursionLimit:=by
  have z:X.A.in1.depth+3*1+5<recursionLimit:=hr.in1.dp;lia
 refine b4i hc I2 (hl.fg T e2) (λn hn u s3 Q3 E3 I3 ru k3=>?_) (λen s3 I3=>⟨.non,H2,drop I3,rfl,q2 en⟩) λM hM Ax y s3 ry I3=>⟨.int M,H2,drop I3,ry,q3 M hM Ax⟩;obtain⟨cr,_,_⟩:=I3.ck c' _ Qt;exact b1z I3 I3.ok.frames rfl zw hk zM kf CI UZ JX (I3.pin _ (eL _ cY)).1 cr (hb pm BE c') (fz f (.ref c') s3 H2) ru (q1 n hn) k3
end
theorem b2o{ER}os fr(hN:X.N.Nodup)(Ek:X.N[i]?=av x)(hx:X.env.scope.names.lookup x=av .local)
  (hc:X.calm=true) (hi:PI X tg iter wi) (hg:∀C fp s₀ H₀,PG (rq X os fr scope C fp s₀ H₀) tg g) (ht:∀C fp s₀ H₀,PT (rq X os fr scope C fp s₀ H₀) c tc) (he:∀C fp s₀ H₀,PE (rq X os fr scope C fp s₀ H₀) elt te)
  (Uu:swapsWith (.ListComp elt [⟨tg,iter,[c],0⟩] scope pos) (av (.Name x pos')) ER.line X.env=pure true:=by rfl)
  (hk:scope.kind=.function:=by rfl) (ck:BA X.env.scope scope X.N fr=true:=by rfl) (hs:∀x,foldedSetIterable iter X.env x=pure x:=by intro _;rfl) :
  PS X (.Assign [.Name x pos'] (.ListComp elt [⟨tg,iter,[c],0⟩] scope pos) ER) (EE (b8W (bx os) fr wi g tc te) (N7 i)):=by
 intro bz s σ H D I h;unfold EE at h;rw[uZ _ _ _ _ Uu];refine aN (iQ (aN ?_));refine aN (eY (oC rfl hs (M5 (JO I ck)) hk (λx hx hl=>by have:=(X0 ck x hx).1;rw[hl] at this;exact this)
  (D7 (hi bz s σ H _ I h) λv s1 h1=>D7 h1 λHc s2 h2=>?_)) (λ_ s' hq=>bG (bG hq)) λ_ _ e=>e)
 refine Qo hc hg (λ_ _ _ _=>a7v (ht _ _ _ _)) he hk ck h2 ?_;intro p C s3 H3 s' H' I3 eC hn I' ⟨m,hm⟩ q;refine qC (Tp (v:=.ref p) I' hN Ek (.inl hx) rfl (λNb Uv ⟨a,Uw,ha⟩=>?_) (.inr hx));have Ux:C≠a:=by
  rcases ha with e|e
  ·rw[e];exact gR (eC▸I3.lt)
  ·obtain⟨v,z⟩:=I3.cell x a e;exact gR (eC▸z.lt)
 exact⟨m,hm.sameBut Uw Ux,λh' dt=>⟨_,H',I3.BB Uv hn (by lia) dt,q⟩⟩
theorem Vf K(h:X.K=K)(he:PE X e ta)(hb:attributeBase e f X.env (eval e X.env)=eval e X.env):PE X (.Attribute e f pos) (b9t K ta f):=by subst h;exact y4 he hb
theorem Vg(hJ:IL J H1 xs)(hp:H1 p=bh)(hz:bx xs<sizeLine)F
  (step:∀(i:Nat)x H N,xs[i]?=av x->af H1 H->N (F x) H->tc ((c_ 1 fr σ).set 0 (av x)) H N)
  (hd:D (upd H1 p (.lst (xs.filter F)))):LF 1 fr (N7 0) tc (JB 0) σ J H1 p D:=by
 refine⟨λi m ys H=>m=bx xs-i/\i<=bx xs/\ys=(xs.take i).filter F/\H=upd H1 p (.lst ys),⟨bx xs,by simp,dM _,by simp,rfl⟩,?_⟩;rintro i m ys H ⟨rfl,hi,rfl,rfl⟩;have e:=af.new (o:=.lst ((xs.take i).filter F)) hp;by_cases fk:i<bx xs
 ·refine .inr ⟨hJ.go i _ e fk,λx H' y=>?_⟩;obtain⟨rfl,hx⟩:=hJ.By i _ x H' e fk y;have tk:(xs.take (i+1)).filter F=(xs.take i).filter F++[x].filter F:=by rw[rC,hx,wS];rfl
  refine⟨Wk.set (by decide),step i x _ _ hx e ?_⟩;cases hq:F x with
  |false =>
   rw[if_neg cX];refine⟨bx xs-(i+1),by lia,rfl,fk,?_,rfl⟩;rw[tk];simp[hq]
  |true =>
   rw[if_pos rfl];refine⟨x,?_,ae,?_,bx xs-(i+1),by lia,rfl,fk,?_,Ju⟩
   ·show((c_ 1 fr σ).set 0 (av x))[0]?=av (av x);rw[eK (by simp[c_])]
   ·have h1:=oX F (xs.take i);rw[cI] at h1;lia
   ·rw[tk];simp[hq]
 ·have:i=bx xs:=by lia
  subst this;refine .inl ⟨hJ.stop _ e,?_⟩;rw[fZ (aT _)];exact hd
theorem df.okC{K}{st}(F:df K x qual st f fd)(hc:fd.code=.ref c)(S:p7 N ps (i9 st))(len:∀vs H Q E,sp vs H Q E->bx vs=bx ps)
  (fz:∀A outer s H vs Q E,b_ k (A.deeper (dQ qual (i9 st) s.heap.objs.size f (.ref c)))->sp vs H Q E →
   ∃t,fu (N8 J8 P w K mg base N qual (i9 st) f (.ref c) A outer s H E).oi (x9 st) t/\t {nx:=λ_ H'=>Q .non H',rt:=Q} (V6 N vs) H):bf P w K mg base J8 (k+1) f fd ps sp:=by
 obtain⟨oc,od,kV,doc,pm,an,ay,ct,yc,rfl,lk,xo⟩:=F.ex;have e:=hc;subst e;refine TU lk xo S len λA outer s H vs Q E hr iu=>?_;obtain⟨t,h,q⟩:=fz A outer s H vs Q E hr iu;exact⟨t,h.oi,q⟩
end L2
namespace L2
open PySem
def E8(h:∀G:St->Hp->Prop,G=G0->G σ H):G0 σ H:=h G0 rfl
inductive D9(t u:TS)(D:Ends)(σ:St)(H:Hp):Prop|mk:∀M,t {D with nx:=M} σ H->(∀au H',M au H'->u D au H')->D9 t u D σ H
theorem t8{rest}(h1:PS X st t)(h2:fu X rest u):fu X (st::rest) (D9 t u):=by
 intro bz s σ H D I ⟨M,h,hM⟩;refine qA (D7 (h1 bz s σ H {D with nx:=M} I h) λf s1 q=>?_);cases f with
 |next =>
  obtain⟨au,H',I',q⟩:=q;exact h2 bz s1 au H' D I' (hM _ _ q)
 |ret v=>exact q
 |brk=>exact q
 |cont=>exact q
end L2
namespace de
open PySem L2
theorem NS xs(k:Nat)(h:k<=bx xs):P5 xs bh (av (k:Int))=xs.take k:=by
 unfold P5;rw[HT.rp,HT.gy,oY];congr 1;lia
theorem NT xs(k:Nat)(h:k<=bx xs):P5 xs (av (k:Int)) bh=xs.drop k:=by
 unfold P5;rw[HT.rp,HT.gy,jT h];exact fZ (eJ▸aT _)
end de
namespace L2
open PySem PySem.Spec PyProof.Rows
theorem Qu:K6 X (.type "range") (λvs H Q=>∃j,vs=[.int j]/\∀p,H p=bh->Q (.ref p) (upd H p (.zt 0 j))):=by
 intro bz s σ H vs us Q I r h;obtain⟨j,rfl,q⟩:=h;obtain⟨u,rfl,t,rfl⟩:=U1 r;refine sW ⟨.ref s.heap.objs.size,_,I.laid (o:=.zt 0 j) (λb u e=>bL _ e) (aT _) ⟨_,_,_,dG _ rfl⟩,rfl,q _ (I.ck.fresh (aT _))⟩
theorem b0n:K6 X (.type "range") (λvs H Q=>∃i j,vs=[.int i,.int j]/\∀p,H p=bh->Q (.ref p) (upd H p (.zt i j))):=by
 intro bz s σ H vs us Q I r h;obtain⟨i,j,rfl,q⟩:=h;obtain⟨u,v,rfl,⟨t,rfl⟩,t',rfl⟩:=Lw r;refine call_range_2 ⟨.ref s.heap.objs.size,_,I.laid (o:=.zt i j) (λb u e=>bL _ e) (aT _) ⟨_,_,_,dG _ rfl⟩,rfl,q _ (I.ck.fresh (aT _))⟩
theorem Rv:∀n acc(F:Nat->Int),bx acc=n->(∀j v,acc[j]?=av v->∃t,v=iM (F j) t)->Vals ((aW n).map λi=>V.int (F i)) acc
 |0,[],_,_,_=>.nil
 |n+1,a::acc,F,hl,h=>by
  rw[wT,cS,bC];exact .cons (h 0 a rfl) (Rv n acc (λi=>F (i+1)) (by simp_all) λj v e=>h (j+1) v (by simp_all))
theorem Ry(hc:X.calm=true):K6 X (.type "list") (λvs H Q=>∃(p:aA)(lo:Int)(n:Nat),vs=[.ref p]/\H p=av (.zt lo (lo+n))/\-(2^60)<=lo/\lo<2^60/\n<=1000/\∀l,H l=bh->Q (.ref l) (upd H l (.lst ((aW n).map λ(i:Nat)=>V.int (lo+(i:Int)))))):=by
 intro bz s σ H vs us Q I r h;obtain⟨p,lo,n,rfl,hp,h1,h2,hn,q⟩:=h;obtain⟨u,rfl,ru⟩:=U1 r;cases ru;obtain⟨t,u,v,e⟩:=I.ck p _ hp;have xq:sU lo (lo+n) 1=n:=by rw[sV];split<;>lia
 refine call_list_range (I.ok.hd hc) e (small_one (by lia) (by lia) (by lia) (by lia)) xq (by lia) λh' tk J_ c' hk hS NU=>?_;have hv:=Rv n J_.toList (λi=>lo+(i:Int)) (by simpa using NU.1) λj v e=>by
  obtain⟨t,et⟩:=NU.2 j v (by simp_all);exact⟨t,by rw[et,jF]⟩
 have h9:n<=sizeLine:=bF hn (by decide);refine⟨.ref s.heap.objs.size,_,I.laid (o:=.lst ((aW n).map λ(i:Nat)=>V.int (lo+(i:Int)))) hk (aT _) ⟨by simpa using h9,J_.toList,c',hv,by simpa using hS⟩,rfl,q _ (I.ck.fresh (aT _))⟩
end L2
namespace Lp
abbrev J4:=Nat->Int
def tl(v:J4):J4:=λi=>v (i+1)
def wm(a:Int)(u:J4)(b:Int)(v:J4):J4:=λi=>a*u i+b*v i
def U2(D:List J4->Int):List J4->List J4->Int
 |_,[]=>0
 |pre,c::rest=>c 0*D ((pre++rest).map tl)-U2 D (pre++[c]) rest
def G2:Nat->List J4->Int
 |0,_=>1
 |n+1,cols=>U2 (G2 n) [] cols
def Vh(n:Nat)(D:List J4->Int):Prop:=∀a u b v xs ys,bx xs+bx ys+1=n->D (xs++wm a u b v::ys)=a*D (xs++u::ys)+b*D (xs++v::ys)
def b0d a u b v:tl (wm a u b v)=wm a (tl u) b (tl v):=rfl
theorem b8K a b x y p q(c:Int):c*(a*x+b*y)-(a*p+b*q)=a*(c*x-p)+b*(c*y-q):=by lia
theorem a9E(h:Vh n D)(a:Int)(u:J4)(b:Int)(v:J4):∀rest p1 p2,bx p1+bx p2+bx rest=n →
  U2 D (p1++wm a u b v::p2) rest=a*U2 D (p1++u::p2) rest+b*U2 D (p1++v::p2) rest
 |[],p1,p2,_=>by simp[U2]
 |c::rest,p1,p2,hl=>by
  have jl:bx p1+bx p2+(bx rest+1)=n:=hl;have ih:=a9E h a u b v rest p1 (p2++[c]) (by rw[aX,fR];lia);have h0:=h a (tl u) b (tl v) (p1.map tl) ((p2++rest).map tl) (by rw[aH,aH,aX];lia);unfold U2;simp only[dC,fD,bQ,cS,b0d] at h0 ih⊢;rw[h0,ih];exact b8K ..
theorem c0y(a b x y p q D:Int):(a*x+b*y)*D-(a*p+b*q)=a*(x*D-p)+b*(y*D-q):=by lia
theorem a6M(h:Vh n D)(a:Int)(u:J4)(b:Int)(v:J4):∀r1 pre r2,bx pre+bx r1+bx r2=n →
  U2 D pre (r1++wm a u b v::r2)=a*U2 D pre (r1++u::r2)+b*U2 D pre (r1++v::r2)
 |[],pre,r2,hl=>by
  have hp:=a9E h a u b v r2 pre [] (by lia);simp only[gG];unfold U2;rw[hp];exact c0y ..
 |c::r1,pre,r2,hl=>by
  have jl:bx pre+(bx r1+1)+bx r2=n:=hl;have ih:=a6M h a u b v r1 (pre++[c]) r2 (by rw[aX,fR];lia);have h0:=h a (tl u) b (tl v) ((pre++r1).map tl) (r2.map tl) (by rw[aH,aH,aX];lia);unfold U2;simp only[dC,fD,bQ,cS,b0d] at h0 ih⊢;rw[h0,ih];exact b8K ..
theorem Vi:∀n,Vh n (G2 n)
 |0=>λa u b v xs ys h=>by lia
 |n+1=>λa u b v xs ys h=>a6M (Vi n) a u b v xs [] ys (by simp_all)
def Vj(n:Nat)(D:List J4->Int):Prop:=∀u xs ys,bx xs+bx ys+2=n->D (xs++u::u::ys)=0
theorem b0e(h:Vj n D)(u:J4):∀rest p1 p2,bx p1+bx p2+bx rest+1=n->U2 D (p1++u::u::p2) rest=0
 |[],_,_,_=>rfl
 |c::rest,p1,p2,hl=>by
  have jl:bx p1+bx p2+(bx rest+1)+1=n:=hl;have ih:=b0e h u rest p1 (p2++[c]) (by rw[aX,fR];lia);have h0:=h (tl u) (p1.map tl) ((p2++rest).map tl) (by rw[aH,aH,aX];lia);unfold U2;simp only[dC,fD,bQ,cS] at h0 ih⊢;rw[h0,ih];lia
theorem a6I(h:Vj n D)(u:J4):∀r1 pre r2,bx pre+bx r1+bx r2+1=n->U2 D pre (r1++u::u::r2)=0
 |[],pre,r2,hl=>by
  have hp:=b0e h u r2 pre [] (by simp_all);unfold U2;unfold U2;simp only[dC,fD,gG] at hp⊢;rw[hp];lia
 |c::r1,pre,r2,hl=>by
  have jl:bx pre+(bx r1+1)+bx r2+1=n:=hl;have ih:=a6I h u r1 (pre++[c]) r2 (by rw[aX,fR];lia);have h0:=h (tl u) ((pre++r1).map tl) (r2.map tl) (by grind);unfold U2;simp only[dC,fD,bQ,cS] at h0 ih⊢;rw[h0,ih];lia
theorem Vk:∀n,Vj n (G2 n)
 |0=>λu xs ys h=>by lia
 |n+1=>λu xs ys h=>a6I (Vk n) u xs [] ys (by simp_all)
def uu(k:Nat):J4:=λi=>if i=k then 1 else 0
theorem b2k:∀rest pre,(∀c∈rest,c 0=0)->U2 D pre rest=0
 |[],_,_=>rfl
 |c::rest,pre,h=>by
  unfold U2;rw[h c cY,b2k rest (pre++[c]) λx hx=>h x (bZ _ hx)];lia
theorem QU:∀n,G2 n ((aW n).map uu)=1
 |0=>rfl
 |n+1=>by
  show U2 (G2 n) [] ((aW (n+1)).map uu)=1;rw[wT,cS,bC];unfold U2;rw[b2k _ _ λc hc=>by
   obtain⟨k,_,rfl⟩:=aY.mp hc;rfl]
  have e:([]++(aW n).map (uu∘Nat.succ)).map tl=(aW n).map uu:=by
   rw[gG,bC];refine fM λk _=>?_;funext i;show(if i+1=k+1 then (1:Int) else 0)=if i=k then 1 else 0
   by_cases c:i=k
   ·rw[if_pos (by lia),if_pos c]
   ·rw[if_neg (by lia),if_neg c]
  rw[e,QU n];rfl
def ow(M:Nat):Nat->Nat
 |0=>1
 |n+1=>(n+1)*(M*ow M n)
def Fits(M n:Nat)(v:J4):Prop:=∀i,i<n->(v i).natAbs<=M
theorem a9a(hD:∀cols,bx cols=n->(∀c∈cols,Fits M n c)->(D cols).natAbs<=B):∀rest pre,bx pre+bx rest=n+1->(∀c∈pre,Fits M (n+1) c)->(∀c∈rest,Fits M (n+1) c)->(U2 D pre rest).natAbs<=bx rest*(M*B)
 |[],_,_,_,_=>by simp[U2]
 |c::rest,pre,hl,hp,hr=>by
  have jl:bx pre+(bx rest+1)=n+1:=hl;have h1:=a9a hD rest (pre++[c]) (by rw[aX,fR];lia) (λx hx=>(bJ.mp hx).elim (hp x) λz=>by rw[cJ.mp z];exact hr c cY) λx hx=>hr x (bZ _ hx);have h2:=hD ((pre++rest).map tl) (by rw[aH,aX];lia) λx hx=>by
   obtain⟨y,hy,rfl⟩:=aY.mp hx;intro i hi;rcases bJ.mp hy with z|z
   ·exact hp y z (i+1) (by lia)
   ·exact hr y (bZ _ z) (i+1) (by lia)
  have h3:=hr c cY 0 (by lia);unfold U2;rw[eM,mI];have h4:(c 0*D ((pre++rest).map tl)).natAbs<=M*B:=by rw[rV];exact rY h3 h2
  lia
theorem Vl:∀n cols,bx cols=n->(∀c∈cols,Fits M n c)->(G2 n cols).natAbs<=ow M n
 |0,_,_,_=>aT 1
 |n+1,cols,hl,hf=>by
  have:=a9a (Vl n) cols [] (by simp_all) (λc hc=>by cases hc) hf;rw[hl] at this;exact this
theorem a7K{α:Type}{C}{u:α}(h:C[i]?=av u):C=C.take i++u::C.drop (i+1):=by
 obtain⟨hi,rfl⟩:=cA.mp h;rw[<-wU hi,wV]
theorem b2z n u v xs ys(hl:bx xs+bx ys+2=n):G2 n (xs++u::v::ys) =-G2 n (xs++v::u::ys):=by
 have L:=Vi n;have A:=Vk n;have h0:=A (wm 1 u 1 v) xs ys hl;have h1:=L 1 u 1 v xs (wm 1 u 1 v::ys) (by simp only[eM];lia);have h2:=L 1 u 1 v (xs++[u]) ys (by simp only[aX,fR];lia);have h3:=L 1 u 1 v (xs++[v]) ys (by simp only[aX,fR];lia);have h4:=A u xs ys hl;have h5:=A v xs ys hl;simp only[dC,fD,gG] at h2 h3;lia
theorem a9d(n:Nat)(u:J4):∀zs xs ys,bx xs+bx zs+bx ys+2=n->G2 n (xs++u::(zs++u::ys))=0
 |[],xs,ys,hl=>Vk n u xs ys (by simp_all)
 |z::zs,xs,ys,hl=>by
  have jl:bx xs+(bx zs+1)+bx ys+2=n:=hl;rw[fD,b2z n u z xs (zs++u::ys) (by grind)];have:=a9d n u zs (xs++[z]) ys (by rw[aX,fR];lia);simp only[dC,fD,gG] at this;lia
theorem a9y{k:Nat}(hl:bx C=n)(BH:i<k)(h1:C[i]?=av u)(h2:C[k]?=av u):G2 n C=0:=by
 have hk:k<bx C:=(cA.mp h2).1;have h3:(C.drop (i+1))[k-(i+1)]?=av u:=by rw[wW,show i+1+(k-(i+1))=k by lia];exact h2
 rw[a7K h1,a7K h3];refine a9d n u _ _ _ ?_;simp only[cI,eJ];lia
theorem NV{k:Nat}(hl:bx C=n)(BH:i≠k)(h1:C[i]?=av u)(h2:C[k]?=av u):G2 n C=0:=by
 rcases Nat.lt_or_gt_of_ne BH with h|h
 ·exact a9y hl h h1 h2
 ·exact a9y hl h h2 h1
theorem Vm{α:Type}{C:List α}(h:k<bx C)u:C.set k u=C.take k++u::C.drop (k+1):=by
 rw[List.set_eq_take_append_cons_drop,if_pos h]
theorem Ka{C:List J4}(hl:bx C=n)(hk:k<n)a u b v:G2 n (C.set k (wm a u b v))=a*G2 n (C.set k u)+b*G2 n (C.set k v):=by
 have i_:k<bx C:=by lia
 rw[Vm i_,Vm i_,Vm i_];refine Vi n a u b v _ _ ?_;simp only[cI,eJ];lia
theorem Vn{C:List J4}(hl:bx C=n)(hi:i<n)(hk:k<n)(BH:i≠k)u:G2 n ((C.set i u).set k u)=0:=by
 refine NV (u:=u) (by simp_all) BH ?_ ?_
 ·rw[dP (bV BH),eK (by lia)]
 ·rw[eK (by simp_all)]
theorem a6Q{C:List J4}(hl:bx C=n)(hi:i<n)(hk:k<n)(BH:i≠k)u v:G2 n ((C.set i u).set k v) =-G2 n ((C.set i v).set k u):=by
 have h0:=Vn hl hi hk BH (wm 1 u 1 v);have h1:=Ka (C:=C.set i (wm 1 u 1 v)) (by simp_all) hk 1 u 1 v;have h2:=Ka (C:=C.set k u) (by simp_all) hi 1 u 1 v;have h3:=Ka (C:=C.set k v) (by simp_all) hi 1 u 1 v;have h4:=Vn hl hi hk BH u;have h5:=Vn hl hi hk BH v;rw[kJ _ _ (bV BH),kJ _ _ (bV BH),kJ _ _ (bV BH)] at h2 h3;lia
def sumTo(g:Nat->Int):Nat->Int
 |0=>0
 |n+1=>sumTo g n+g n
theorem aj:∀{n},(∀k,k<n->g k=h k)->sumTo g n=sumTo h n
 |0,_=>rfl
 |n+1,e=>by
  show sumTo g n+g n=sumTo h n+h n;rw[aj λk hk=>e k (by lia),e n (by lia)]
theorem dm(h:∀k,k<n->g k=0):sumTo g n=0:=by
 induction n with
 |zero=>rfl
 |succ n ih =>
  show sumTo g n+g n=0;rw[ih λk hk=>h k (by lia),h n (by lia)];rfl
theorem cz(hr:r<n)(h:∀k,k<n->k≠r->g k=0):sumTo g n=g r:=by
 induction n with
 |zero=>lia
 |succ n ih =>
  show sumTo g n+g n=g r;by_cases c:r=n
  ·subst c;rw[dm λk hk=>h k (by lia) (by lia)];lia
  ·rw[ih (by lia) λk hk hn=>h k (by lia) hn,h n (by lia) (by lia)];lia
theorem Z0:∀n,sumTo (λk=>g k+h k) n=sumTo g n+sumTo h n
 |0=>rfl
 |n+1=>by
  show sumTo (λk=>g k+h k) n+(g n+h n)=sumTo g n+g n+(sumTo h n+h n);rw[Z0 n];lia
theorem D8(a:Int):∀n,sumTo (λk=>a*g k) n=a*sumTo g n
 |0=>(cW a).symm
 |n+1=>by
  show sumTo (λk=>a*g k) n+a*g n=a*(sumTo g n+g n);rw[D8 a n,kZ]
theorem b5R(hr:r<n)(hi:i<n)(mm:r≠i)(h:∀k,k<n->k≠r->k≠i->g k=0):sumTo g n=g r+g i:=by
 have e:sumTo g n=sumTo (λk=>(if k=r then g k else 0)+(if k=i then g k else 0)) n:=aj λk hk=>by
  by_cases c1:k=r
  ·rw[if_pos c1,if_neg (by lia)];lia
  ·by_cases c2:k=i
   ·rw[if_neg c1,if_pos c2];lia
   ·rw[if_neg c1,if_neg c2,h k hk c1 c2];lia
 rw[e,Z0,cz hr λk _ hn=>if_neg hn,cz hi λk _ hn=>if_neg hn,if_pos rfl,if_pos rfl]
theorem QV{C:List J4}(hl:bx C=n)(hk:k<n)(t:Nat->Int)(W:Nat->J4):∀m,G2 n (C.set k (λx=>sumTo (λj=>t j*W j x) m))=sumTo (λj=>t j*G2 n (C.set k (W j))) m
 |0=>by
  have h:=Ka hl hk 0 (λ_=>0) 0 λ_=>0;have e:wm 0 (λ_=>0) 0 (λ_=>0)=(λx:Nat=>sumTo (λj=>t j*W j x) 0):=by funext x;simp[wm,sumTo]
  rw[e] at h;rw[h];simp[sumTo]
 |m+1=>by
  have h:=Ka hl hk 1 (λx=>sumTo (λj=>t j*W j x) m) (t m) (W m);have e:wm 1 (λx=>sumTo (λj=>t j*W j x) m) (t m) (W m)=(λx:Nat=>sumTo (λj=>t j*W j x) (m+1)):=by funext x;simp[wm,sumTo]
  rw[e,QV hl hk t W m] at h;rw[h];show 1*sumTo _ m+_=sumTo _ m+_;rw[lE]
def zv:J4:=λ_=>0
def IV(n:Nat)(B:List J4)(u:J4):Prop:=∀x,G2 n B*u x=sumTo (λk=>G2 n (B.set k u)*(B.getD k zv) x) n
theorem Vo{B:List J4}(h:k<bx B):B[k]?=av (B.getD k zv):=by simp_all
theorem W7{B:List J4}(h:k<bx B):B.set k (B.getD k zv)=B:=by simp_all
theorem plu(hl:bx B=n)(hr:r<n)(hi:i<n)(mm:i≠r)v(hc:IV n B u) :
  G2 n B*G2 n ((B.set r u).set i v)=G2 n (B.set r u)*G2 n (B.set i v)-G2 n (B.set i u)*G2 n (B.set r v):=by
 have jl:bx (B.set i v)=n:=by rw[eE];exact hl
 have e1:G2 n ((B.set i v).set r (wm (G2 n B) u 0 u))=G2 n B*G2 n ((B.set i v).set r u):=by
  rw[Ka jl hr];lia
 have e2:wm (G2 n B) u 0 u=(λx:Nat=>sumTo (λk=>G2 n (B.set k u)*(B.getD k zv) x) n):=by
  funext x;rw[<-hc x];unfold wm;lia
 rw[e2,QV jl hr (λk=>G2 n (B.set k u)) (λk=>B.getD k zv) n] at e1;rw[kJ _ _ (bV mm),<-e1];rw[b5R hr hi (bV mm) λk hk n1 n2=>?_]
 ·have a1:(B.set i v).set r (B.getD r zv)=B.set i v:=by rw[kJ _ _ mm,W7 (by lia)]
  have a2:G2 n ((B.set i v).set r (B.getD i zv)) =-G2 n (B.set r v):=by
   rw[a6Q hl hi hr mm,W7 (by lia)]
  rw[a1,a2,fT];lia
 ·have:G2 n ((B.set i v).set r (B.getD k zv))=0:=by
   refine NV (u:=B.getD k zv) (by simp_all) n1 ?_ ?_
   ·rw[dP (bV n1),dP (bV n2)];exact Vo (by lia)
   ·rw[eK (by simp_all)]
  rw[this,cW]
def b8d{b:Int}(hd:d≠0)(h:d*a=d*b):a=b:=Int.eq_of_mul_eq_mul_left hd h
theorem a5t(hl:bx B=n)(hr:r<n)(hd:G2 n B≠0)(hu:IV n B u)(hv:IV n B v):IV n (B.set r u) v:=by
 intro x;refine b8d hd ?_;have e:∀k,k<n->G2 n B*(G2 n ((B.set r u).set k v)*((B.set r u).getD k zv) x) =
   G2 n (B.set r u)*(G2 n (B.set k v)*(B.getD k zv) x)+(if k=r then G2 n B*(G2 n (B.set r v)*u x) else 0)-G2 n (B.set r v)*(G2 n (B.set k u)*(B.getD k zv) x):=λk hk=>by
  by_cases c:k=r
  ·subst c;rw[if_pos rfl,wX];have g:(B.set k u).getD k zv=u:=by rw[bA,eK (by lia)];rfl
   rw[g];have:G2 n (B.set k u)*(G2 n (B.set k v)*B.getD k zv x)=G2 n (B.set k v)*(G2 n (B.set k u)*B.getD k zv x):=by rw[<-cG,<-cG,bX (G2 n (B.set k u))]
   lia
  ·rw[if_neg c];have g:(B.set r u).getD k zv=B.getD k zv:=by rw[bA,dP (bV c),<-bA]
   rw[g,<-cG,plu hl hr hk c v hu,pA,cG,cG];have:G2 n (B.set k u)*(G2 n (B.set r v)*B.getD k zv x)=G2 n (B.set r v)*(G2 n (B.set k u)*B.getD k zv x):=by rw[<-cG,<-cG,bX (G2 n (B.set k u))]
   lia
 have s1:G2 n B*sumTo (λk=>G2 n ((B.set r u).set k v)*((B.set r u).getD k zv) x) n =
   sumTo (λk=>G2 n (B.set r u)*(G2 n (B.set k v)*(B.getD k zv) x)+(if k=r then G2 n B*(G2 n (B.set r v)*u x) else 0)+(- G2 n (B.set r v))*(G2 n (B.set k u)*(B.getD k zv) x)) n:=by
  rw[<-D8];refine aj λk hk=>?_;rw[e k hk,iJ];lia
 rw[s1,Z0,Z0,D8,D8,<-hv x,<-hu x,cz hr λk _ hn=>if_neg hn,if_pos rfl,iJ];have a1:G2 n B*(G2 n (B.set r u)*v x)=G2 n (B.set r u)*(G2 n B*v x):=by grind
 lia
theorem b0o(hl:bx B=n)(hr:r<n):IV n B (B.getD r zv):=by
 intro x;rw[cz hr λk hk hn=>?_]
 ·rw[W7 (by lia)]
 ·have:G2 n (B.set k (B.getD r zv))=0:=by
   refine NV (u:=B.getD r zv) (by simp_all) (bV hn) ?_ ?_
   ·rw[dP hn];exact Vo (by lia)
   ·rw[eK (by lia)]
  rw[this,gY]
theorem b8Q(hl:bx B=n)(hd:G2 n B≠0){t:Nat->Int}(h:∀x,sumTo (λk=>t k*(B.getD k zv) x) n=0)(hi:i<n):t i=0:=by
 have h1:=QV hl hi t (λk=>B.getD k zv) n;have e:(λx:Nat=>sumTo (λk=>t k*(B.getD k zv) x) n)=zv:=by funext x;rw[h x];rfl
 rw[e] at h1;have h0:G2 n (B.set i zv)=0:=by
  have:=Ka hl hi 0 zv 0 zv;have e:wm 0 zv 0 zv=zv:=by funext x;simp[wm,zv]
  rw[e] at this;lia
 rw[h0,cz hi λk hk hn=>?_,W7 (by lia)] at h1
 ·exact(pB.mp h1.symm).resolve_right hd
 ·have:G2 n (B.set i (B.getD k zv))=0:=by
   refine NV (u:=B.getD k zv) (by rw[eE];exact hl) hn ?_ ?_
   ·rw[dP (bV hn)];exact Vo (by lia)
   ·rw[eK (by lia)]
  rw[this,cW]
structure Bo where
 d:Int
 T:Nat->Nat->Int
 ins:Nat->Nat
 outs:Nat->Nat
def jm(g:Nat->Nat)(k v:Nat):Nat->Nat:=λi=>if i=k then v else g i
def C3:jm g k v k=v:=if_pos rfl
def C7(h:i≠k):jm g k v i=g i:=if_neg h
def fe(S:Bo)(r c:Nat):Bo where
 d:=S.T r c
 T:=λi j=>if i=r then (if j=c then S.d else S.T r j) else (if j=c then-S.T i c else (S.T i j*S.T r c-S.T i c*S.T r j)/S.d)
 ins:=jm S.ins r (S.outs c)
 outs:=jm S.outs c (S.ins r)
def Bs(m:Nat)(V:Nat->J4)(ins:Nat->Nat):List J4:=(aW (m+1)).map λi=>V (ins i)
theorem LM m V ins:bx (Bs m V ins)=m+1:=by unfold Bs;rw[aH,gZ]
theorem QW(h:i<m+1):(Bs m V ins).getD i zv=V (ins i):=by
 unfold Bs;rw[bA,aP,cU h];rfl
theorem Vp(h:r<m+1):Bs m V (jm ins r v)=(Bs m V ins).set r (V v):=by
 refine dR λi=>?_;unfold Bs;by_cases c:i=r
 ·subst c;rw[eK (by simp_all),aP,cU h];show av (V (jm ins i v i))=_;rw[C3]
 ·rw[dP (bV c),aP,aP];by_cases hi:i<m+1
  ·rw[cU hi];show av (V (jm ins r v i))=av (V (ins i));rw[C7 c]
  ·rw[bW (by simp_all)];rfl
structure Wf(m q:Nat)(V:Nat->J4)(S:Bo):Prop where
 hd:S.d=G2 (m+1) (Bs m V S.ins)
 hT:∀i j,i<m+1->j<q+1->S.T i j=G2 (m+1) ((Bs m V S.ins).set i (V (S.outs j)))
 cr:∀j,j<q+1->IV (m+1) (Bs m V S.ins) (V (S.outs j))
 pos:0<S.d
 CK:∀i,i<m->0<=S.T i q
 im:S.ins m=q+m
 oq:S.outs q=q+m+1
 ib:∀i,i<m->S.ins i<q+m
 ob:∀j,j<q->S.outs j<q+m
 ii:∀i k,i<m->k<m->S.ins i=S.ins k->i=k
 oo:∀j k,j<q->k<q->S.outs j=S.outs k->j=k
 io:∀i j,i<m->j<q->S.ins i≠S.outs j
 all:∀v,v<q+m->(∃i,i<m/\S.ins i=v)\/(∃j,j<q/\S.outs j=v)
theorem Wf.exact(W:Wf m q V S)(hr:r<m)(hc:c<q)(hi:i<m+1)(hj:j<q+1)(mm:i≠r) :
  S.T i j*S.T r c-S.T i c*S.T r j=S.d*G2 (m+1) (((Bs m V S.ins).set r (V (S.outs c))).set i (V (S.outs j))):=by
 have h:=plu (LM m V S.ins) (show r<m+1 by lia) hi mm (V (S.outs j)) (W.cr c (by lia));rw[W.hd,h,W.hT i j hi hj,W.hT r c (by lia) (by lia),W.hT i c hi (by lia),W.hT r j (by lia) hj];rw[bX (G2 (m+1) ((Bs m V S.ins).set i (V (S.outs j))))]
theorem Wf.NW(W:Wf m q V S)(hr:r<m)(hc:c<q)(hi:i<m+1)(hj:j<q+1):(fe S r c).T i j=G2 (m+1) ((Bs m V (fe S r c).ins).set i (V ((fe S r c).outs j))):=by
 have hl:=LM m V S.ins;show(if i=r then (if j=c then S.d else S.T r j) else (if j=c then-S.T i c else (S.T i j*S.T r c-S.T i c*S.T r j)/S.d))=G2 (m+1) ((Bs m V (jm S.ins r (S.outs c))).set i (V (jm S.outs c (S.ins r) j)));rw[Vp (by lia)];by_cases c1:i=r
 ·subst c1;rw[if_pos rfl,wX];by_cases c2:j=c
  ·subst c2;rw[if_pos rfl,C3,W.hd,<-QW (V:=V) hi,W7 (by lia)]
  ·rw[if_neg c2,C7 c2];exact W.hT i j hi hj
 ·rw[if_neg c1];by_cases c2:j=c
  ·subst c2;rw[if_pos rfl,C3,a6Q hl (by lia) hi (bV c1),<-QW (V:=V) (show r<m+1 by lia),W7 (by lia),W.hT i j hi hj]
  ·rw[if_neg c2,C7 c2,W.exact hr hc hi hj c1];exact wI _ (by have:=W.pos;lia)
theorem Wf.Kb(W:Wf m q V S)(hr:r<m)(hc:c<q)(hi:i<m+1)(hj:j<q+1)(mm:i≠r)(wj:j≠c):S.d*(fe S r c).T i j=S.T i j*S.T r c-S.T i c*S.T r j:=by
 have e:=W.NW hr hc hi hj;have e2:Bs m V (fe S r c).ins=(Bs m V S.ins).set r (V (S.outs c)):=Vp (by lia);have e3:(fe S r c).outs j=S.outs j:=C7 wj;rw[e2,e3] at e;rw[W.exact hr hc hi hj mm,e]
theorem Wf.EU(W:Wf m q V S)(hr:r<m)(hc:c<q)(hp:0<S.T r c)(hq:∀i,i<m->0<S.T i c->S.T r q*S.T i c<=S.T i q*S.T r c):Wf m q V (fe S r c):=by
 have hl:=LM m V S.ins;have NX:G2 (m+1) (Bs m V S.ins)≠0:=by have:=W.pos;rw[W.hd] at this;lia
 have hB:Bs m V (fe S r c).ins=(Bs m V S.ins).set r (V (S.outs c)):=Vp (by lia);refine⟨?_,λi j hi hj=>W.NW hr hc hi hj,λj hj=>?_,hp,λi hi=>?_,?_,?_,λi hi=>?_,λj hj=>?_,λi k hi hk e=>?_,λj k hj hk e=>?_,λi j hi hj e=>?_,λv hv=>?_⟩
 ·rw[hB];exact W.hT r c (by lia) (by lia)
 ·rw[hB];by_cases c2:j=c
  ·subst c2;show IV _ _ (V (jm S.outs j (S.ins r) j));rw[C3];have h:=b0o hl (show r<m+1 by lia);rw[QW (by lia)] at h;exact a5t hl (by lia) NX (W.cr j hj) h
  ·show IV _ _ (V (jm S.outs c (S.ins r) j));rw[C7 c2];exact a5t hl (by lia) NX (W.cr c (by lia)) (W.cr j hj)
 ·by_cases c1:i=r
  ·subst c1;show 0<=(if i=i then (if q=c then S.d else S.T i q) else _);rw[if_pos rfl,if_neg (by lia)];exact W.CK i hi
  ·have e:=W.Kb hr hc (show i<m+1 by lia) (show q<q+1 by lia) c1 (show q≠c by lia);have nn:0<=S.T i q*S.T r c-S.T i c*S.T r q:=by
    have a1:0<=S.T i q*S.T r c:=eO (W.CK i hi) (cC hp);by_cases z:0<S.T i c
    ·have:=hq i hi z;rw[bX (S.T i c)];lia
    ·have a2:0 <=-(S.T i c)*S.T r q:=eO (by lia) (W.CK r hr);rw[iJ] at a2;lia
   rw[<-e] at nn;by_cases z:0<=(fe S r c).T i q
   ·exact z
   ·have:=gJ W.pos (show 0 < - (fe S r c).T i q by lia);rw[fT] at this;lia
 ·show jm S.ins r (S.outs c) m=q+m;rw[C7 (by lia)];exact W.im
 ·show jm S.outs c (S.ins r) q=q+m+1;rw[C7 (by lia)];exact W.oq
 ·show jm S.ins r (S.outs c) i<q+m;by_cases c1:i=r
  ·rw[c1,C3];exact W.ob c hc
  ·rw[C7 c1];exact W.ib i hi
 ·show jm S.outs c (S.ins r) j<q+m;by_cases c1:j=c
  ·rw[c1,C3];exact W.ib r hr
  ·rw[C7 c1];exact W.ob j hj
 ·replace e:jm S.ins r (S.outs c) i=jm S.ins r (S.outs c) k:=e;by_cases c1:i=r
  ·by_cases c2:k=r
   ·lia
   ·rw[c1,C3,C7 c2] at e;exact absurd e.symm (W.io k c hk hc)
  ·by_cases c2:k=r
   ·rw[c2,C3,C7 c1] at e;exact absurd e (W.io i c hi hc)
   ·rw[C7 c1,C7 c2] at e;exact W.ii i k hi hk e
 ·replace e:jm S.outs c (S.ins r) j=jm S.outs c (S.ins r) k:=e;by_cases c1:j=c
  ·by_cases c2:k=c
   ·lia
   ·rw[c1,C3,C7 c2] at e;exact absurd e (W.io r k hr hk)
  ·by_cases c2:k=c
   ·rw[c2,C3,C7 c1] at e;exact absurd e.symm (W.io r j hr hj)
   ·rw[C7 c1,C7 c2] at e;exact W.oo j k hj hk e
 ·replace e:jm S.ins r (S.outs c) i=jm S.outs c (S.ins r) j:=e;by_cases c1:i=r
  ·by_cases c2:j=c
   ·rw[c1,c2,C3,C3] at e;exact absurd e.symm (W.io r c hr hc)
   ·rw[c1,C3,C7 c2] at e;exact c2 (W.oo c j hc hj e).symm
  ·by_cases c2:j=c
   ·rw[c2,C3,C7 c1] at e;exact c1 (W.ii i r hi hr e)
   ·rw[C7 c1,C7 c2] at e;exact W.io i j hi hj e
 ·show(∃i,i<m/\jm S.ins r (S.outs c) i=v)\/(∃j,j<q/\jm S.outs c (S.ins r) j=v);rcases W.all v hv with⟨i,hi,e⟩|⟨j,hj,e⟩
  ·by_cases c1:i=r
   ·exact .inr ⟨c,hc,by rw[C3,<-c1];exact e⟩
   ·exact .inl ⟨i,hi,by rw[C7 c1];exact e⟩
  ·by_cases c1:j=c
   ·exact .inl ⟨r,hr,by rw[C3,<-c1];exact e⟩
   ·exact .inr ⟨j,hj,by rw[C7 c1];exact e⟩
def uv(m q:Nat)(V:Nat->J4)(S:Bo)(z:Nat->Int):Prop:=∀x,sumTo (λk=>z (S.ins k)*V (S.ins k) x) (m+1)+sumTo (λj=>z (S.outs j)*V (S.outs j) x) (q+1)=0
theorem a8V(hr:r<n)(e:∀k,k<n->k≠r->g k=h k):sumTo g n=sumTo h n+(g r-h r):=by
 have e1:sumTo g n=sumTo (λk=>h k+(if k=r then g k-h k else 0)) n:=aj λk hk=>by
  by_cases c:k=r
  ·rw[if_pos c];lia
  ·rw[if_neg c,e k hk c];lia
 rw[e1,Z0,cz hr λk _ hn=>if_neg hn,if_pos rfl]
theorem uv.fe(hr:r<m)(hc:c<q):uv m q V (fe S r c) z ↔ uv m q V S z:=by
  have e:∀x,sumTo (λk=>z ((Lp.fe S r c).ins k)*V ((Lp.fe S r c).ins k) x) (m+1)+sumTo (λj=>z ((Lp.fe S r c).outs j)*V ((Lp.fe S r c).outs j) x) (q+1)
     =sumTo (λk=>z (S.ins k)*V (S.ins k) x) (m+1)+sumTo (λj=>z (S.outs j)*V (S.outs j) x) (q+1):=λx=>by
    have h1:=a8V (g:=λk=>z ((Lp.fe S r c).ins k)*V ((Lp.fe S r c).ins k) x) (n:=m+1) (r:=r) (by lia) λk hk hn=>by
      show z (jm S.ins r (S.outs c) k)*V (jm S.ins r (S.outs c) k) x=_;rw[C7 hn]
    have h2:=a8V (g:=λj=>z ((Lp.fe S r c).outs j)*V ((Lp.fe S r c).outs j) x) (n:=q+1) (r:=c) (by lia) λk hk hn=>by
      show z (jm S.outs c (S.ins r) k)*V (jm S.outs c (S.ins r) k) x=_;rw[C7 hn]
    rw[h1,h2];show _+(z (jm S.ins r (S.outs c) r)*V (jm S.ins r (S.outs c) r) x-_)+(_+(z (jm S.outs c (S.ins r) c)*V (jm S.outs c (S.ins r) c) x-_))=_;rw[C3,C3];lia
  exact⟨λh x=>(e x).symm.trans (h x),λh x=>(e x).trans (h x)⟩
def Kc(q:Nat)(S:Bo)(z:Nat->Int)(i:Nat):Int:=S.d*z (S.ins i)+sumTo (λj=>S.T i j*z (S.outs j)) (q+1)
theorem NY{g:Nat->Nat->Int}(n:Nat):∀k,sumTo (λi=>sumTo (λj=>g i j) k) n=sumTo (λj=>sumTo (λi=>g i j) n) k
 |0=>dm λ_ _=>rfl
 |k+1=>by
  show sumTo (λi=>sumTo (λj=>g i j) k+g i k) n=sumTo (λj=>sumTo (λi=>g i j) n) k+sumTo (λi=>g i k) n;rw[Z0,NY n k]
theorem Wf.rows(W:Wf m q V S)z x:S.d*(sumTo (λk=>z (S.ins k)*V (S.ins k) x) (m+1)+sumTo (λj=>z (S.outs j)*V (S.outs j) x) (q+1))=sumTo (λk=>Kc q S z k*((Bs m V S.ins).getD k zv) x) (m+1):=by
 have e1:S.d*sumTo (λj=>z (S.outs j)*V (S.outs j) x) (q+1)=sumTo (λk=>sumTo (λj=>S.T k j*z (S.outs j)) (q+1)*((Bs m V S.ins).getD k zv) x) (m+1):=by
  rw[<-D8];have h1:∀j,j<q+1->S.d*(z (S.outs j)*V (S.outs j) x)=sumTo (λk=>S.T k j*z (S.outs j)*((Bs m V S.ins).getD k zv) x) (m+1):=λj hj=>by
   have h:=W.cr j hj x;rw[<-W.hd] at h;rw[bX (z (S.outs j)),<-cG,h,bX,<-D8];refine aj λk hk=>?_;rw[W.hT k j hk hj,<-cG,bX (z (S.outs j))]
  rw[aj h1,<-NY];refine aj λk hk=>?_;rw[bX (sumTo _ _),<-D8];exact aj λj _=>bX _ _
 rw[kZ,e1,<-D8,<-Z0];refine aj λk hk=>?_;show _=(S.d*z (S.ins k)+_)*_;rw[fG,QW hk,cG]
theorem Wf.EV(W:Wf m q V S)(h:uv m q V S z)(hi:i<m+1):Kc q S z i=0:=by
 refine b8Q (LM m V S.ins) (by have:=W.pos;rw[W.hd] at this;lia) (λx=>?_) hi;rw[<-W.rows z x,h x,cW]
theorem Wf.Kd(W:Wf m q V S)(h:∀i,i<m+1->Kc q S z i=0):uv m q V S z:=λx=>by
 have e:=W.rows z x;have e0:sumTo (λk=>Kc q S z k*((Bs m V S.ins).getD k zv) x) (m+1)=0:=dm λk hk=>by rw[h k hk,gY]
 rw[e0] at e;exact(pB.mp e).resolve_left (by have:=W.pos;lia)
structure Choice(m q:Nat)(S:Bo)(r c:Nat):Prop where
 hc:c<q
 neg:S.T m c<0
 Hs:∀j,j<q->S.T m j<0->S.outs c<=S.outs j
 hr:r<m
 pos:0<S.T r c
 ratio:∀i,i<m->0<S.T i c->S.T r q*S.T i c<=S.T i q*S.T r c
 Vq:∀i,i<m->0<S.T i c->S.T r q*S.T i c=S.T i q*S.T r c->S.ins r<=S.ins i
theorem a9c:∀{n},sumTo g n<0->∃k,k<n/\g k<0
 |0,h=>absurd h (by show ¬(0:Int)<0;lia)
 |n+1,h=>by
  have h':sumTo g n+g n<0:=h;by_cases c:g n<0
  ·exact⟨n,by lia,c⟩
  ·obtain⟨k,hk,hg⟩:=a9c (g:=g) (n:=n) (by lia);exact⟨k,by lia,hg⟩
theorem Wf.inj(W:Wf m q V S)(hi:i<m+1)(hk:k<m+1)(e:S.ins i=S.ins k):i=k:=by
 by_cases c1:i=m
 ·by_cases c2:k=m
  ·lia
  ·have:=W.ib k (by lia);rw[c1,W.im] at e;lia
 ·by_cases c2:k=m
  ·have:=W.ib i (by lia);rw[c2,W.im] at e;lia
  ·exact W.ii i k (by lia) (by lia) e
theorem Wf.apart(W:Wf m q V S)(hi:i<m+1)(hj:j<q+1):S.ins i≠S.outs j:=by
 intro e;have hI:S.ins i<=q+m:=by
  by_cases c1:i=m
  ·rw[c1,W.im];exact aT _
  ·have:=W.ib i (by lia);lia
 by_cases c2:j=q
 ·rw[c2,W.oq] at e;lia
 ·have:=W.ob j (by lia);by_cases c1:i=m
  ·rw[c1,W.im] at e;lia
  ·exact W.io i j (by lia) (by lia) e
theorem Wf.Vr(W:Wf m q V S)(hj:j<q+1)(hk:k<q+1)(e:S.outs j=S.outs k):j=k:=by
 by_cases c1:j=q
 ·by_cases c2:k=q
  ·lia
  ·have:=W.ob k (by lia);rw[c1,W.oq] at e;lia
 ·by_cases c2:k=q
  ·have:=W.ob j (by lia);rw[c2,W.oq] at e;lia
  ·exact W.oo j k (by lia) (by lia) e
def nc(m:Nat)(S:Bo)(c:Nat)(v:Nat):Int:=if v=S.outs c then S.d else sumTo (λi=>if S.ins i=v then-S.T i c else 0) (m+1)
theorem Wf.jd(W:Wf m q V S)(hc:c<q+1)(hk:k<m+1):nc m S c (S.ins k) =-S.T k c:=by
 unfold nc;rw[if_neg (W.apart hk hc),cz hk λi hi hn=>if_neg λe=>hn (W.inj hi hk e),if_pos rfl]
theorem Wf.h_(W:Wf m q V S)(hc:c<q+1)(hj:j<q+1)(hn:j≠c):nc m S c (S.outs j)=0:=by
 unfold nc;rw[if_neg λe=>hn (W.Vr hj hc e)];exact dm λi hi=>if_neg (W.apart hi hj)
def Wf.yi:nc m S c (S.outs c)=S.d:=if_pos rfl
theorem Wf.qp(W:Wf m q V S)(hc:c<q+1):uv m q V S (nc m S c):=W.Kd λi hi=>by
 unfold Kc;rw[W.jd hc hi,cz hc λj hj hn=>by rw[W.h_ hc hj hn,cW],Wf.yi,fT,bX];lia
theorem b6f(W:Wf m q V S)(W':Wf m q V S')(hk:∀z,uv m q V S z->uv m q V S' z)(C:Choice m q S r c)(C':Choice m q S' r' c')(ht:S.ins r=S'.outs c')(gj:S.outs c<S.ins r)
  (stat:∀v,S.ins r<v->(∃i,i<m/\S.ins i=v)->∃i,i<m/\S'.ins i=v) (zero:∀k j,k<m->j<q->S.ins k=S'.outs j->S.T k q=0):False:=by
 have GG:c<q+1:=by have:=C.hc;lia
 have R:=W'.EV (hk _ (W.qp GG)) (show m<m+1 by lia);have Vs:nc m S c (S'.ins m) =-S.T m c:=by rw[W'.im,<-W.im];exact W.jd GG (by lia)
 have Vt:nc m S c (S'.outs q)=0:=by rw[W'.oq,<-W.oq];exact W.h_ GG (by lia) (by have:=C.hc;lia)
 unfold Kc at R;replace R:S'.d*nc m S c (S'.ins m)+(sumTo (λj=>S'.T m j*nc m S c (S'.outs j)) q+S'.T m q*nc m S c (S'.outs q))=0:=R;rw[Vs,Vt,cW,fT] at R;have gs:0<S'.d*(- S.T m c):=gJ W'.pos (by have:=C.neg;lia);rw[fT] at gs;obtain⟨j,hj,hg⟩:=a9c (g:=λj=>S'.T m j*nc m S c (S'.outs j)) (n:=q) (by lia);replace hg:S'.T m j*nc m S c (S'.outs j)<0:=hg;rcases W.all (S'.outs j) (W'.ob j hj) with⟨k,CO,e⟩|⟨j2,hj2,e⟩
 ·rw[<-e,W.jd GG (by lia)] at hg;rcases Nat.lt_trichotomy (S'.outs j) (S.ins r) with h|h|h
  ·have h1:0<=S'.T m j:=by
    by_cases z:S'.T m j<0
    ·have:=C'.Hs j hj z;lia
    ·lia
   have h2:0<S.T k c:=by
    by_cases z:0<S.T k c
    ·exact z
    ·have:=eO h1 (show 0 <=-S.T k c by lia);lia
   have h3:=zero k j CO hj e;have h4:=C.ratio k CO h2;rw[h3,gY] at h4;have h5:0<=S.T r q*S.T k c:=eO (W.CK r C.hr) (cC h2);have h6:=C.Vq k CO h2 (by rw[h3,gY];omega);lia
  ·have e1:=W'.oo j c' hj C'.hc (by rw[h,ht]);have e2:=W.ii k r CO C.hr (by rw[e,h]);rw[e1,e2] at hg;have:=gJ (show 0 < - S'.T m c' by have:=C'.neg;lia) C.pos;rw[iJ] at this;rw[fT] at hg;lia
  ·obtain⟨i,hi,e3⟩:=stat _ h ⟨k,CO,e⟩;exact W'.io i j hi hj e3
 ·by_cases c2:j2=c
  ·rw[<-e,c2,Wf.yi] at hg;have h1:S'.T m j<0:=by
    by_cases z:S'.T m j<0
    ·exact z
    ·have:=eO (show 0<=S'.T m j by lia) (cC W.pos);lia
   have:=C'.Hs j hj h1;rw[c2] at e;lia
  ·rw[<-e,W.h_ GG (by lia) c2,cW] at hg;lia
def Zr(m q:Nat)(S:Bo)(v:Nat):Prop:=∀i,i<m->S.ins i=v->S.T i q=0
def CP(m:Nat)(S:Bo)(v:Nat):Prop:=∃i,i<m/\S.ins i=v
theorem CP.fe(W:Wf m q V S)(hr:r<m)(hc:c<q)(h1:v≠S.ins r)(h2:v≠S.outs c):CP m (Lp.fe S r c) v ↔ CP m S v:=by
 constructor
 ·rintro⟨i,hi,e⟩;replace e:jm S.ins r (S.outs c) i=v:=e;by_cases z:i=r
  ·rw[z,C3] at e;exact absurd e.symm h2
  ·rw[C7 z] at e;exact⟨i,hi,e⟩
 ·rintro⟨i,hi,e⟩;have z:i≠r:=λz=>h1 (by simp_all);exact⟨i,hi,(C7 z).trans e⟩
theorem Zr.fe(W:Wf m q V S)(C:Choice m q S r c)(h0:S.T r q=0)v:Zr m q (Lp.fe S r c) v ↔ Zr m q S v:=by
 have key:∀i,i<m->i≠r->((Lp.fe S r c).T i q=0 ↔ S.T i q=0):=λi hi hn=>by
  have e:=W.Kb C.hr C.hc (show i<m+1 by lia) (show q<q+1 by lia) hn (show q≠c by have:=C.hc;lia);rw[h0,cW,Int.sub_zero] at e;constructor
  ·intro z;rw[z,cW] at e;exact(pB.mp e.symm).resolve_right (by have:=C.pos;lia)
  ·intro z;rw[z,gY] at e;exact(pB.mp e).resolve_left (by have:=W.pos;lia)
 have kr:(Lp.fe S r c).T r q=0:=by
  show(if r=r then (if q=c then S.d else S.T r q) else _)=0;rw[if_pos rfl,if_neg (by have:=C.hc;lia)];exact h0
 constructor
 ·intro h i hi e;by_cases z:i=r
  ·rw[z];exact h0
  ·exact(key i hi z).mp (h i hi ((C7 z).trans e))
 ·intro h i hi e;by_cases z:i=r
  ·rw[z];exact kr
  ·exact(key i hi z).mpr (h i hi ((C7 z).symm.trans e))
structure Seq(m q:Nat)(V:Nat->J4)(S:Nat->Bo)(R C:Nat->Nat):Prop where
 w:Wf m q V (S 0)
 ch:∀k,Choice m q (S k) (R k) (C k)
 st:∀k,S (k+1)=fe (S k) (R k) (C k)
theorem Seq.wf(Q:Seq m q V S R C):∀k,Wf m q V (S k)
 |0=>Q.w
 |k+1=>by rw[Q.st k];exact(Q.wf k).EU (Q.ch k).hr (Q.ch k).hc (Q.ch k).pos (Q.ch k).ratio
theorem Seq.NZ(Q:Seq m q V S R C)(z:Nat->Int)(a:Nat):∀n,uv m q V (S (a+n)) z ↔ uv m q V (S a) z
 |0=>pC
 |n+1=>by
  show uv m q V (S (a+n+1)) z ↔ _;rw[Q.st,uv.fe (Q.ch _).hr (Q.ch _).hc];exact Q.NZ z a n
def Dg(q:Nat)(S:Nat->Bo)(R:Nat->Nat)(k:Nat):Prop:=(S k).T (R k) q=0
theorem Seq.zr(Q:Seq m q V S R C)(v a:Nat):∀n,(∀k,a<=k->k<a+n->Dg q S R k)->(Zr m q (S (a+n)) v ↔ Zr m q (S a) v)
 |0,_=>pC
 |n+1,h=>by
  show Zr m q (S (a+n+1)) v ↔ _;rw[Q.st,Zr.fe (Q.wf _) (Q.ch _) (h (a+n) (by lia) (by lia))];exact Q.zr v a n λk h1 h2=>h k h1 (by lia)
def ES(S:Nat->Bo)(R C:Nat->Nat)(k v:Nat):Prop:=v=(S k).ins (R k)\/v=(S k).outs (C k)
theorem Seq.Vu(Q:Seq m q V S R C)(v a:Nat):∀n,(∀k,a<=k->k<a+n->¬ES S R C k v)->(CP m (S (a+n)) v ↔ CP m (S a) v)
 |0,_=>pC
 |n+1,h=>by
  have hp:=h (a+n) (by lia) (by lia);show CP m (S (a+n+1)) v ↔ _;rw[Q.st,CP.fe (Q.wf _) (Q.ch _).hr (Q.ch _).hc (λz=>hp (.inl z)) λz=>hp (.inr z)];exact Q.Vu v a n λk h1 h2=>h k h1 (by lia)
theorem Seq.once(Q:Seq m q V S R C)(hd:∀k,a<=k->k<b->Dg q S R k)(ht:∀k,a<=k->k<b->∀v,ES S R C k v->v<=t):∀g k0 k1,k1=k0+1+g->a<=k0->k1<b->ES S R C k0 t->ES S R C k1 t->False:=by
 intro g;induction g using vP with
 |_ g ih =>
  intro k0 k1 hk ha hb p0 p1;by_cases hm:∃k,k0<k/\k<k1/\ES S R C k t
  ·obtain⟨k,h1,h2,h3⟩:=hm;exact ih (k-k0-1) (by lia) k0 k (by lia) ha (by lia) p0 h3
  have W0:=Q.wf k0;have W1:=Q.wf k1;have C0:=Q.ch k0;have C1:=Q.ch k1;have N_:CP m (S k1) t ↔ CP m (S (k0+1)) t:=by
   have:=Q.Vu t (k0+1) g λk h1 h2=>λz=>hm ⟨k,by lia,by lia,z⟩;rw[show k0+1+g=k1 by lia] at this;exact this
  have stat:∀v,t<v->(CP m (S k1) v ↔ CP m (S k0) v):=λv hv=>by
   have:=Q.Vu v k0 (g+1) λk h1 h2=>λz=>by have:=ht k (by lia) (by lia) v z;lia
   rw[show k0+(g+1)=k1 by lia] at this;exact this
  have NZ:=λz=>by
   have:=Q.NZ z k0 (g+1);rw[show k0+(g+1)=k1 by lia] at this;exact this
  have zrr:=λv=>by
   have:=Q.zr v k0 (g+1) λk h1 h2=>hd k (by lia) (by lia);rw[show k0+(g+1)=k1 by lia] at this;exact this
  rcases p0 with e0|e0
  ·-- it goes out at k0,so it comes in at k1
   have nb:¬CP m (S (k0+1)) t:=by
    rintro⟨i,hi,e⟩;rw[Q.st k0] at e;replace e:jm (S k0).ins (R k0) ((S k0).outs (C k0)) i=t:=e;by_cases z:i=R k0
    ·rw[z,C3,e0] at e;exact W0.io _ _ C0.hr C0.hc e.symm
    ·rw[C7 z,e0] at e;exact z (W0.ii i (R k0) hi C0.hr e)
   rcases p1 with e1|e1
   ·exact nb (N_.mp ⟨_,C1.hr,e1.symm⟩)
   ·have gj:(S k0).outs (C k0)<(S k0).ins (R k0):=by
     have h1:=ht k0 ha (by lia) _ (.inr rfl);rw[e0] at h1;have:=W0.io (R k0) (C k0) C0.hr C0.hc;lia
    refine b6f W0 W1 (λz h=>(NZ z).mpr h) C0 C1 (by simp_all) gj (λv hv ou=>(stat v (e0▸hv)).mpr ou) λk j CO hj e=>(((zrr ((S k0).ins k)).mp λi hi e2=>?_) k CO rfl);rw[e] at e2;exact absurd e2 (W1.io i j hi hj)
  ·-- it comes in at k0,so it goes out at k1
   have ba:CP m (S (k0+1)) t:=⟨R k0,C0.hr,by rw[Q.st k0];show jm (S k0).ins (R k0) ((S k0).outs (C k0)) (R k0)=t;rw[C3];exact e0.symm⟩;rcases p1 with e1|e1
   ·have gj:(S k1).outs (C k1)<(S k1).ins (R k1):=by
     have h1:=ht k1 (by lia) hb _ (.inr rfl);rw[e1] at h1;have:=W1.io (R k1) (C k1) C1.hr C1.hc;lia
    refine b6f W1 W0 (λz h=>(NZ z).mp h) C1 C0 (by rw[<-e0,<-e1]) gj (λv hv ou=>(stat v (e1▸hv)).mp ou) λk j CO hj e=>(((zrr ((S k1).ins k)).mpr λi hi e2=>?_) k CO rfl);rw[e] at e2;exact absurd e2 (W0.io i j hi hj)
   ·obtain⟨i,hi,e⟩:=N_.mpr ba;rw[e1] at e;exact W1.io i (C k1) hi C1.hc e
theorem Seq.short(Q:Seq m q V S R C):∀t a b,a<=b->(∀k,a<=k->k<b->Dg q S R k)->(∀k,a<=k->k<b->∀v,ES S R C k v->v<t)->b+1<=a+2^t
 |0,a,b,yh,hd,hp=>by
  by_cases c:a<b
  ·have:=hp a (aT _) c _ (.inl rfl);lia
  ·rw[Nat.pow_zero];lia
 |t+1,a,b,yh,hd,hp=>by
  rw[wY];by_cases h:∃k,a<=k/\k<b/\ES S R C k t
  ·obtain⟨k,h1,h2,h3⟩:=h;have once:=Q.once hd (t:=t) λk h1 h2 v hv=>by have:=hp k h1 h2 v hv;lia
   have i1:=Q.short t a k h1 (λj j1 j2=>hd j j1 (by lia)) λj j1 j2 v hv=>by
    have:=hp j j1 (by lia) v hv;by_cases z:v=t
    ·subst z;exact(once (k-j-1) j k (by lia) j1 h2 hv h3).elim
    ·lia
   have i2:=Q.short t (k+1) b (by lia) (λj j1 j2=>hd j (by lia) j2) λj j1 j2 v hv=>by
    have:=hp j (by lia) j2 v hv;by_cases z:v=t
    ·subst z;exact(once (j-k-1) k j (by lia) h1 j2 h3 hv).elim
    ·lia
   lia
  ·have:=Q.short t a b yh hd λj j1 j2 v hv=>by
    have h4:=hp j j1 j2 v hv;by_cases z:v=t
    ·subst z;exact absurd ⟨j,j1,j2,hv⟩ h
    ·lia
   have:0<2^t:=Nat.two_pow_pos t;lia
section
variable{m q:Nat}{V:Nat->J4}{S:Bo}
theorem Wf.Oa(hM:∀v,Fits M (m+1) (V v)):∀c∈Bs m V S.ins,Fits M (m+1) c:=λc hc=>by
 obtain⟨i,_,rfl⟩:=aY.mp hc;exact hM _
theorem Wf.Ht(W:Wf m q V S)(hM:∀v,Fits M (m+1) (V v)):S.d.natAbs<=ow M (m+1):=by
 rw[W.hd];exact Vl (m+1) _ (LM m V S.ins) (Wf.Oa hM)
theorem Wf.Hu(W:Wf m q V S)(hM:∀v,Fits M (m+1) (V v))(hi:i<m+1)(hj:j<q+1):(S.T i j).natAbs<=ow M (m+1):=by
 rw[W.hT i j hi hj];refine Vl (m+1) _ (by rw[eE];exact LM m V S.ins) λc hc=>?_;rcases pD hc with h|h
 ·exact Wf.Oa hM c h
 ·rw[h];exact hM _
def BI(m q:Nat)(M:Int)(S:Bo):Int:=M*M*S.T m q/S.d
theorem Wf.Vw(W:Wf m q V S)(C:Choice m q S r c)(h1:S.d<=M)(h2:S.T r c<=M):BI m q M S+(if S.T r q=0 then 0 else 1)<=BI m q M (fe S r c):=by
 have hcq:=C.hc;have IW:=C.hr;have e:=W.Kb IW hcq (show m<m+1 by lia) (show q<q+1 by lia) (show m≠r by lia) (show q≠c by lia);have hp:=C.pos;have hd:=W.pos;have hn:=C.neg;have hf:=W.CK r IW;unfold BI;show _<=M*M*(fe S r c).T m q/S.T r c;generalize (fe S r c).T m q=N' at *;generalize S.T m q=N at *;generalize S.T r c=p at *;generalize S.d=d at *;generalize S.T m c=g at *;generalize S.T r q=b at *;rw[Int.le_ediv_iff_mul_le hp];have LN:M*M*N/d*d<=M*M*N:=Int.ediv_mul_le _ (by lia);generalize M*M*N/d=f at *;have hM:0<M:=by lia
 have hMM:=wZ h1 h2 (cC hp) (cC hM);have key:(f+(if b=0 then 0 else 1))*p*d<=M*M*N'*d:=by
  have a1:M*M*N'*d=M*M*N*p+M*M*(-(g*b)):=by
   have:N'*d=N*p-g*b:=by rw[bX N' d];exact e
   rw[cG (M*M),this,lC,cG (M*M),fT];lia
  have a2:=fH LN (cC hp);have a3:f*p*d=f*d*p:=by rw[cG,bX p d,<-cG]
  by_cases c0:b=0
  ·rw[if_pos c0,gK,a1,a3,c0];simp only[cW,Int.neg_zero,gK];exact a2
  ·rw[if_neg c0];have a4:1 <= -(g*b):=by
    have:=gJ (show 0 < -g by lia) (show 0<b by lia);rw[iJ] at this;lia
   have a5:M*M*1<=M*M*(-(g*b)):=jU a4 (eO (cC hM) (cC hM));rw[fG,fG,lE,a3,a1];rw[bX d p] at hMM;lia
 exact mW key hd
theorem Wf.Ke(W:Wf m q V S)(h1:S.T m q<=M)(h0:0<M):BI m q M S<=M*M*M:=by
 unfold BI;refine Int.ediv_le_of_le_mul W.pos ?_;have a1:M*M*S.T m q<=M*M*M:=jU h1 (eO (cC h0) (cC h0));have a2:M*M*M*1<=M*M*M*S.d:=jU (by have:=W.pos;lia) (eO (eO (cC h0) (cC h0)) (cC h0));lia
end
theorem Seq.BJ(Q:Seq m q V S R C)k v(h:ES S R C k v):v<q+m:=by
 rcases h with h|h
 ·rw[h];exact(Q.wf k).ib _ (Q.ch k).hr
 ·rw[h];exact(Q.wf k).ob _ (Q.ch k).hc
theorem Seq.never(Q:Seq m q V S R C)(hM:∀v,Fits M (m+1) (V v)):False:=by
 obtain⟨B,hB⟩:∃B,B=(ow M (m+1):Int):=⟨_,rfl⟩;have bT:∀k i j,i<m+1->j<q+1->(S k).T i j<=B:=λk i j hi hj=>by
  have:=(Q.wf k).Hu hM hi hj;lia
 have bd:∀k,(S k).d<=B:=λk=>by
  have:=(Q.wf k).Ht hM;lia
 have B0:0<B:=by have:=bd 0;have:=(Q.wf 0).pos;lia
 have up:∀k,BI m q B (S k)+(if (S k).T (R k) q=0 then 0 else 1)<=BI m q B (S (k+1)):=λk=>by
  rw[Q.st k];exact(Q.wf k).Vw (Q.ch k) (bd k) (bT k _ _ (by have:=(Q.ch k).hr;lia) (by have:=(Q.ch k).hc;lia))
 have mono:∀n k,BI m q B (S k)<=BI m q B (S (k+n)):=λn=>by
  induction n with
  |zero=>intro k;exact dL _
  |succ n ih =>
   intro k;have h1:=ih k;have h2:=up (k+n);have h3:BI m q B (S (k+n))<=BI m q B (S (k+n+1)):=by
    split at h2<;>lia
   exact xA h1 h3
 have P8:=λk=>(Q.wf k).Ke (bT k m q (by lia) (by lia)) B0;have gap:∀(g:Nat)k,B*B*B-BI m q B (S k)<=(g:Int)->False:=by
  intro g;induction g with
  |zero =>
   intro k hk;have:∃j,k<=j/\j<k+2^(q+m)/\¬Dg q S R j:=by
    refine lF λhn=>?_;have:=Q.short (q+m) k (k+2^(q+m)) (kW _ _) (λj h1 h2=>lF λz=>hn ⟨j,h1,h2,z⟩) λj _ _ v hv=>Q.BJ j v hv;lia
   obtain⟨j,h1,h2,h3⟩:=this;have u:=up j;rw[if_neg (show ¬(S j).T (R j) q=0 from h3)] at u;have m1:=mono (j-k) k;rw[show k+(j-k)=j by lia] at m1;have:=P8 (j+1);lia
  |succ g ih =>
   intro k hk;have:∃j,k<=j/\j<k+2^(q+m)/\¬Dg q S R j:=by
    refine lF λhn=>?_;have:=Q.short (q+m) k (k+2^(q+m)) (kW _ _) (λj h1 h2=>lF λz=>hn ⟨j,h1,h2,z⟩) λj _ _ v hv=>Q.BJ j v hv;lia
   obtain⟨j,h1,h2,h3⟩:=this;have u:=up j;rw[if_neg (show ¬(S j).T (R j) q=0 from h3)] at u;have m1:=mono (j-k) k;rw[show k+(j-k)=j by lia] at m1;exact ih (j+1) (by lia)
 exact gap (B*B*B-BI m q B (S 0)).toNat 0 (by lia)
inductive Ends(m q:Nat):Bo->Nat->Prop
 |stop {S:Bo}:(¬∃r c,Choice m q S r c)->Ends m q S 0
 |go {S:Bo} {r c k:Nat}:Choice m q S r c->Ends m q (fe S r c) k->Ends m q S (k+1)
theorem Choice.uniq(W:Wf m q V S)(h:Choice m q S r c)(h':Choice m q S r' c'):r=r'/\c=c':=by
 have ec:=W.oo c c' h.hc h'.hc (xB (h.Hs c' h'.hc h'.neg) (h'.Hs c h.hc h.neg));subst ec;have e1:=h.ratio r' h'.hr h'.pos;have e2:=h'.ratio r h.hr h.pos;have e:S.T r q*S.T r' c=S.T r' q*S.T r c:=by lia
 exact⟨W.ii r r' h.hr h'.hr (xB (h.Vq r' h'.hr h'.pos e) (h'.Vq r h.hr h.pos e.symm)),rfl⟩
theorem Ends.next(W:Wf m q V S)(h:Ends m q S k)(C:Choice m q S r c):∃j,j<k/\Ends m q (fe S r c) j:=by
 cases h with
 |stop hn=>exact absurd ⟨r,c,C⟩ hn
 |go C' h' =>
  obtain⟨rfl,rfl⟩:=C.uniq W C';exact⟨_,jJ _,h'⟩
theorem Wf.ends(hM:∀v,Fits M (m+1) (V v))(W:Wf m q V S):∃k,Ends m q S k:=by
 refine lF λhn=>?_;have ch:∀S',Wf m q V S'->(¬∃k,Ends m q S' k)->∃p:Nat×Nat,Choice m q S' p.1 p.2:=λS' _ h'=>by
  refine lF λz=>h' ⟨0,.stop λ⟨r,c,C⟩=>z ⟨(r,c),C⟩⟩
 let St:={S':Bo//Wf m q V S'/\¬∃k,Ends m q S' k};let pk:(X:St)->Nat×Nat:=λX=>(ch X.1 X.2.1 X.2.2).choose;have pc:∀X:St,Choice m q X.1 (pk X).1 (pk X).2:=λX=>(ch X.1 X.2.1 X.2.2).choose_spec;let nx:St->St:=λX=>⟨fe X.1 (pk X).1 (pk X).2,X.2.1.EU (pc X).hr (pc X).hc (pc X).pos (pc X).ratio,λ⟨k,e⟩=>X.2.2 ⟨k+1,.go (pc X) e⟩⟩;let sq:Nat->St:=λk=>Nat.rec ⟨S,W,hn⟩ (λ_ X=>nx X) k;exact Seq.never ⟨W,λk=>pc (sq k),λk=>rfl⟩ hM
def Vv(m q:Nat)(A:Nat->Nat->Int)(b c:Nat->Int):Nat->J4:=λv x =>
 if v<q then (if x<m then A x v else if x=m then-c v else 0) else if v<q+m+1 then (if x=v-q then 1 else 0) else (if x<m then b x else 0)
def S0(m q:Nat)(A:Nat->Nat->Int)(b c:Nat->Int):Bo where
 d:=1
 T:=λi j=>if j<q then (if i<m then A i j else-c j) else (if i<m then b i else 0)
 ins:=λi=>q+i
 outs:=λj=>if j<q then j else q+m+1
theorem Vx(h:v<q):Vv m q A b c v x=if x<m then A x v else if x=m then-c v else 0:=by unfold Vv;rw[if_pos h]
theorem b8T(h:i<m+1):Vv m q A b c (q+i)=uu i:=by
 funext x;unfold Vv uu;rw[if_neg (by lia),if_pos (by lia),show q+i-q=i by lia]
theorem b8H:Vv m q A b c (q+m+1) x=if x<m then b x else 0:=by unfold Vv;rw[if_neg (by lia),if_neg (by lia)]
theorem b5Z(h:m<x):Vv m q A b c v x=0:=by
 unfold Vv;by_cases h1:v<q
 ·rw[if_pos h1,if_neg (by lia),if_neg (by lia)]
 ·rw[if_neg h1];by_cases h2:v<q+m+1
  ·rw[if_pos h2,if_neg (by lia)]
  ·rw[if_neg h2,if_neg (by lia)]
theorem Vy:Bs m (Vv m q A b c) (S0 m q A b c).ins=(aW (m+1)).map uu:=by
 unfold Bs;exact fM λi hi=>b8T (fF.mp hi)
theorem a7u(h:k<n):((aW n).map uu).getD k zv=uu k:=by rw[bA,aP,cU h];rfl
theorem a5f{u:J4}(hu:∀x,n<=x->u x=0)x:sumTo (λk=>u k*uu k x) n=u x:=by
 by_cases h:x<n
 ·rw[cz h λk _ hn=>by show u k*(if x=k then 1 else 0)=0;rw[if_neg (bV hn),cW]];show u x*(if x=x then 1 else 0)=u x;rw[if_pos rfl,jF]
 ·rw[hu x (by lia)];refine dm λk hk=>?_;show u k*(if x=k then 1 else 0)=0;rw[if_neg (by lia),cW]
theorem a2u(hi:i<n)(hu:∀x,n<=x->u x=0):G2 n (((aW n).map uu).set i u)=u i:=by
 have hl:bx ((aW n).map uu)=n:=by simp
 have h:=QV hl hi u uu n;have e:(λx:Nat=>sumTo (λk=>u k*uu k x) n)=u:=by funext x;exact a5f hu x
 rw[e,cz hi λk hk hn=>?_] at h
 ·rw[h,<-a7u hi,W7 (by lia),QU,jF]
 ·have:G2 n (((aW n).map uu).set i (uu k))=0:=by
   refine NV (u:=uu k) (by simp) hn ?_ ?_
   ·rw[dP (bV hn),aP,cU hk];rfl
   ·rw[eK (by lia)]
  rw[this,cW]
theorem wf0(hb:∀i,i<m->0<=b i):Wf m q (Vv m q A b c) (S0 m q A b c):=by
 have br:∀v x,m+1<=x->Vv m q A b c v x=0:=λv x h=>b5Z (by lia);refine⟨?_,λi j hi hj=>?_,λj hj x=>?_,Int.one_pos,λi hi=>?_,rfl,?_,λi hi=>?_,λj hj=>?_,λi k hi hk e=>?_,λj k hj hk e=>?_,λi j hi hj e=>?_,λv hv=>?_⟩
 ·rw[Vy,QU];rfl
 ·rw[Vy,a2u hi (br _)];show(if j<q then (if i<m then A i j else-c j) else (if i<m then b i else 0))=Vv m q A b c (if j<q then j else q+m+1) i;by_cases h:j<q
  ·rw[if_pos h,if_pos h,Vx h];by_cases h2:i<m
   ·rw[if_pos h2,if_pos h2]
   ·rw[if_neg h2,if_neg h2,if_pos (by lia)]
  ·rw[if_neg h,if_neg h,b8H]
 ·rw[Vy,QU,lE];have e:sumTo (λk=>G2 (m+1) (((aW (m+1)).map uu).set k (Vv m q A b c ((S0 m q A b c).outs j)))*(((aW (m+1)).map uu).getD k zv) x) (m+1)=sumTo (λk=>Vv m q A b c ((S0 m q A b c).outs j) k*uu k x) (m+1) :=
   aj λk hk=>by rw[a2u hk (br _),a7u hk]
  rw[e,a5f (br _)]
 ·show 0<=(if q<q then _ else (if i<m then b i else 0));rw[if_neg (dO _),if_pos hi];exact hb i hi
 ·show(if q<q then q else q+m+1)=q+m+1;rw[if_neg (dO _)]
 ·show q+i<q+m;lia
 ·show(if j<q then j else q+m+1)<q+m;rw[if_pos hj];lia
 ·replace e:q+i=q+k:=e;lia
 ·replace e:(if j<q then j else q+m+1)=(if k<q then k else q+m+1):=e;rw[if_pos hj,if_pos hk] at e;exact e
 ·replace e:q+i=(if j<q then j else q+m+1):=e;rw[if_pos hj] at e;lia
 ·by_cases h:v<q
  ·exact .inr ⟨v,h,if_pos h⟩
  ·exact .inl ⟨v-q,by lia,by show q+(v-q)=v;lia⟩
theorem EW:uv m q (Vv m q A b c) (S0 m q A b c) z ↔ (∀i,i<m->z (q+i)+sumTo (λj=>A i j*z j) q+b i*z (q+m+1)=0)/\z (q+m)=sumTo (λj=>c j*z j) q:=by
  have e:∀x,sumTo (λk=>z ((S0 m q A b c).ins k)*Vv m q A b c ((S0 m q A b c).ins k) x) (m+1)+sumTo (λj=>z ((S0 m q A b c).outs j)*Vv m q A b c ((S0 m q A b c).outs j) x) (q+1)
     =(if x<m+1 then z (q+x) else 0)+(sumTo (λj=>z j*Vv m q A b c j x) q+z (q+m+1)*(if x<m then b x else 0)):=λx=>by
    have e1:sumTo (λk=>z ((S0 m q A b c).ins k)*Vv m q A b c ((S0 m q A b c).ins k) x) (m+1)=if x<m+1 then z (q+x) else 0:=by
      have:sumTo (λk=>z ((S0 m q A b c).ins k)*Vv m q A b c ((S0 m q A b c).ins k) x) (m+1)=sumTo (λk=>z (q+k)*uu k x) (m+1):=aj λk hk=>by
        show z (q+k)*Vv m q A b c (q+k) x=_;rw[b8T hk]
      rw[this];by_cases h:x<m+1
      . rw[if_pos h,cz h λk _ hn=>by show z (q+k)*(if x=k then 1 else 0)=0;rw[if_neg (bV hn),cW]]
        show z (q+x)*(if x=x then 1 else 0)=_;rw[if_pos rfl,jF]
      . rw[if_neg h]
        refine dm λk hk=>?_;show z (q+k)*(if x=k then 1 else 0)=0;rw[if_neg (by lia),cW]
    have e2:sumTo (λj=>z ((S0 m q A b c).outs j)*Vv m q A b c ((S0 m q A b c).outs j) x) (q+1)=sumTo (λj=>z j*Vv m q A b c j x) q+z (q+m+1)*(if x<m then b x else 0):=by
      show sumTo (λj=>z (if j<q then j else q+m+1)*Vv m q A b c (if j<q then j else q+m+1) x) q+z (if q<q then q else q+m+1)*Vv m q A b c (if q<q then q else q+m+1) x=_;rw[if_neg (dO _),b8H];have:sumTo (λj=>z (if j<q then j else q+m+1)*Vv m q A b c (if j<q then j else q+m+1) x) q=sumTo (λj=>z j*Vv m q A b c j x) q:=aj λj hj=>by rw[if_pos hj]
      rw[this]
    rw[e1,e2]
  have am:∀i,i<m->sumTo (λj=>z j*Vv m q A b c j i) q=sumTo (λj=>A i j*z j) q:=λi hi=>aj λj hj=>by rw[Vx hj,if_pos hi,bX]
  have ob:sumTo (λj=>z j*Vv m q A b c j m) q =-sumTo (λj=>c j*z j) q:=by
    rw[show-sumTo (λj=>c j*z j) q=(-1)*sumTo (λj=>c j*z j) q by lia,<-D8];refine aj λj hj=>?_;rw[Vx hj,if_neg (dO _),if_pos rfl,fT,bX];lia
  constructor
  . intro h
    refine⟨λi hi=>?_,?_⟩
    . have:=h i
      rw[e i,if_pos (by lia),if_pos hi,am i hi,bX (z (q+m+1))] at this;lia
    . have:=h m
      rw[e m,if_pos (by lia),if_neg (dO _),ob,cW] at this;lia
  . rintro⟨h1,h2⟩ x
    rw[e x];by_cases c1:x<m
    . have:=h1 x c1
      rw[if_pos (by lia),if_pos c1,am x c1,bX (z (q+m+1))];lia
    . by_cases c2:x=m
      . subst c2
        rw[if_pos (by lia),if_neg (dO _),ob,cW];lia
      . rw[if_neg (by lia),if_neg c1,cW,dm λj hj=>by rw[b5Z (by lia),cW]]
        rfl
def cg(m:Nat)(S:Bo)(q v:Nat):Int:=sumTo (λi=>if S.ins i=v then S.T i q else 0) m
def aq(m q:Nat)(S:Bo)(v:Nat):Int:=sumTo (λj=>if S.outs j=v then S.T m j else 0) q
theorem Vz:∀{n},(∀k,k<n->0<=g k)->0<=sumTo g n
 |0,_=>dL 0
 |n+1,h=>by
  have h1:=Vz (g:=g) (n:=n) λk hk=>h k (by lia);have h2:=h n (by lia);show 0<=sumTo g n+g n;lia
inductive k9(m q:Nat)(V:Nat->J4)(R:Bo):Nat->Bo->Prop
 |nil:k9 m q V R 0 R
 |go {n:Nat} {S:Bo} {r cc:Nat}:k9 m q V R n S->Wf m q V S->Choice m q S r cc->k9 m q V R (n+1) (Lp.fe S r cc)
theorem e6U(W:Wf m q V S)(C:Choice m q S r cc)(D:Choice m q S r' cc'):r=r'/\cc=cc':=by
 have e:=W.oo _ _ C.hc D.hc (xB (C.Hs _ D.hc D.neg) (D.Hs _ C.hc C.neg));subst e;have e:=Int.le_antisymm (C.ratio _ D.hr D.pos) (D.ratio _ C.hr C.pos);exact⟨W.ii _ _ C.hr D.hr (xB (C.Vq _ D.hr D.pos e) (D.Vq _ C.hr C.pos e.symm)),rfl⟩
theorem k9.uniq:∀{n}{S S'},k9 m q V R n S->k9 m q V R n S'->S=S'
 |0,_,_,.nil,.nil=>rfl
 |n+1,_,_,.go a w c,.go a' _ c'=>by
  have e:=a.uniq a';subst e;obtain⟨rfl,rfl⟩:=e6U w c c';rfl
theorem k9.less:∀{k n}{S S'},k9 m q V R n S->k9 m q V R (n+k+1) S'->∃r cc,Choice m q S r cc
 |0,_,_,_,a,.go a' _ c=>by
  have e:=a.uniq a';subst e;exact⟨_,_,c⟩
 |k+1,n,_,_,a,.go a' _ _=>k9.less a a'
structure Of(m q:Nat)(A:Nat->Nat->Int)(b c:Nat->Int)(S:Bo):Prop where
 w:Wf m q (Vv m q A b c) S
 k:∀z,uv m q (Vv m q A b c) S z ↔ uv m q (Vv m q A b c) (S0 m q A b c) z
 u:∃n,k9 m q (Vv m q A b c) (S0 m q A b c) n S
def of0(hb:∀i,i<m->0<=b i):Of m q A b c (S0 m q A b c):=⟨wf0 hb,λ_=>pC,_,.nil⟩
def Of.fe(O:Of m q A b c S)(C:Choice m q S r cc):Of m q A b c (Lp.fe S r cc) :=
 ⟨O.w.EU C.hr C.hc C.pos C.ratio,λz=>(uv.fe C.hr C.hc).trans (O.k z),O.u.elim λ_ h=>⟨_,h.go O.w C⟩⟩
theorem Of.one(O:Of m q A b c S)(O':Of m q A b c S')(h:∀j,j<q->¬S.T m j<0)(h':∀j,j<q->¬S'.T m j<0):S=S':=by
 obtain⟨n,a⟩:=O.u;obtain⟨k,b⟩:=O'.u;rcases Nat.lt_trichotomy n k with e|e|e
 ·obtain⟨d,rfl⟩:∃d,k=n+d+1:=⟨k-n-1,by lia⟩;obtain⟨r,cc,C⟩:=a.less b;exact absurd C.neg (h _ C.hc)
 ·subst e;exact a.uniq b
 ·obtain⟨d,rfl⟩:∃d,n=k+d+1:=⟨n-k-1,by lia⟩;obtain⟨r,cc,C⟩:=b.less a;exact absurd C.neg (h' _ C.hc)
def cM(m q:Nat)(S:Bo):Prop:=∃c,c<q/\S.T m c<0/\(∀j,j<q->S.T m j<0->S.outs c<=S.outs j)/\∀i,i<m->¬0<S.T i c
theorem Of.two(O:Of m q A b c S)(O':Of m q A b c S')(h:cM m q S)(h':∀j,j<q->¬S'.T m j<0):False:=by
 obtain⟨n,a⟩:=O.u;obtain⟨k,b⟩:=O'.u;obtain⟨x,hx,Gh,mn,no⟩:=h;rcases Nat.lt_trichotomy n k with e|e|e
 ·obtain⟨d,rfl⟩:∃d,k=n+d+1:=⟨k-n-1,by lia⟩;obtain⟨r,cc,C⟩:=a.less b;have e:=O.w.oo _ _ C.hc hx (xB (C.Hs _ hx Gh) (mn _ C.hc C.neg));subst e;exact no r C.hr C.pos
 ·subst e;have:=a.uniq b;subst this;exact h' _ hx Gh
 ·obtain⟨d,rfl⟩:∃d,n=k+d+1:=⟨n-k-1,by lia⟩;obtain⟨r,cc,C⟩:=b.less a;exact h' _ C.hc C.neg
theorem Of.jn(h:∀j,j<q->0<=S.T m j)v:0<=aq m q S v:=Vz λj hj=>by
 split
 ·exact h j hj
 ·exact dL 0
theorem b2P(O:Of m q A b c S)(z:Nat->Int):sumTo (λj=>S.T m j*z (S.outs j)) q=sumTo (λv=>aq m q S v*z v) (q+m):=by
 have e:∀v,v<q+m->aq m q S v*z v=sumTo (λj=>(if S.outs j=v then S.T m j else 0)*z v) q:=λv _=>by
  unfold aq;rw[bX,<-D8];exact aj λj _=>bX _ _
 rw[aj e,NY];refine aj λj hj=>?_;rw[cz (O.w.ob j hj) λv _ hn=>by rw[if_neg (bV hn),gY],if_pos rfl]
theorem Of.yj(O:Of m q A b c S)(h:uv m q (Vv m q A b c) (S0 m q A b c) z):S.d*z (q+m)+sumTo (λv=>aq m q S v*z v) (q+m)+S.T m q*z (q+m+1)=0:=by
 have R:=O.w.EV ((O.k z).mpr h) (show m<m+1 by lia);unfold Kc at R;replace R:S.d*z (S.ins m)+(sumTo (λj=>S.T m j*z (S.outs j)) q+S.T m q*z (S.outs q))=0:=R;rw[O.w.im,O.w.oq,b2P O] at R;lia
theorem VA(n:Nat):∀k,sumTo g (n+k)=sumTo g n+sumTo (λi=>g (n+i)) k
 |0=>(gK _).symm
 |k+1=>by
  show sumTo g (n+k)+g (n+k)=sumTo g n+(sumTo (λi=>g (n+i)) k+g (n+k));rw[VA n k];lia
theorem Of.Hv(O:Of m q A b c S):(∀j,j<q->sumTo (λi=>A i j*aq m q S (q+i)) m=c j*S.d+aq m q S j)/\sumTo (λi=>b i*aq m q S (q+i)) m=S.T m q:=by
 constructor
 ·intro j hj;have hk:uv m q (Vv m q A b c) (S0 m q A b c) (λv=>if v<q then (if v=j then 1 else 0) else if v<q+m then-A (v-q) j else if v=q+m then c j else 0):=by
   refine EW.mpr ⟨λi hi=>?_,?_⟩
   ·rw[if_neg (by lia),if_pos (by lia),show q+i-q=i by lia,if_neg (by lia),if_neg (by lia),if_neg (by lia),cW,cz hj λk hk hn=>by rw[if_pos hk,if_neg hn,cW],if_pos hj,if_pos rfl];lia
   ·rw[if_neg (by lia),if_neg (by lia),if_pos rfl,cz hj λk hk hn=>by rw[if_pos hk,if_neg hn,cW],if_pos hj,if_pos rfl];lia
  have R:=O.yj hk;rw[if_neg (by lia),if_neg (by lia),if_pos rfl,if_neg (by lia),if_neg (by lia),if_neg (by lia),cW,VA,cz hj λk hk hn=>by rw[if_pos hk,if_neg hn,cW],if_pos hj,if_pos rfl] at R;have e:sumTo (λi=>aq m q S (q+i)*(if q+i<q then (if q+i=j then 1 else 0) else if q+i<q+m then-A (q+i-q) j else if q+i=q+m then c j else 0)) m =-sumTo (λi=>A i j*aq m q S (q+i)) m:=by
   rw[show-sumTo (λi=>A i j*aq m q S (q+i)) m=(-1)*sumTo (λi=>A i j*aq m q S (q+i)) m by lia,<-D8];refine aj λi hi=>?_;rw[if_neg (by lia),if_pos (by lia),show q+i-q=i by lia,fT,bX];lia
  rw[e,bX S.d] at R;lia
 ·have hk:uv m q (Vv m q A b c) (S0 m q A b c) (λv=>if v<q then 0 else if v<q+m then b (v-q) else if v=q+m then 0 else -1):=by
   refine EW.mpr ⟨λi hi=>?_,?_⟩
   ·rw[if_neg (by lia),if_pos (by lia),show q+i-q=i by lia,if_neg (by lia),if_neg (by lia),if_neg (by lia),dm λk hk=>by rw[if_pos hk,cW]];lia
   ·rw[if_neg (by lia),if_neg (by lia),if_pos rfl,dm λk hk=>by rw[if_pos hk,cW]]
  have R:=O.yj hk;rw[if_neg (by lia),if_neg (by lia),if_pos rfl,if_neg (by lia),if_neg (by lia),if_neg (by lia),cW,VA,dm λk hk=>by rw[if_pos hk,cW]] at R;have e:sumTo (λi=>aq m q S (q+i)*(if q+i<q then 0 else if q+i<q+m then b (q+i-q) else if q+i=q+m then 0 else -1)) m=sumTo (λi=>b i*aq m q S (q+i)) m :=
   aj λi hi=>by rw[if_neg (by lia),if_pos (by lia),show q+i-q=i by lia,bX]
  rw[e] at R;lia
end Lp
namespace de
open PySem L2
def P8(i:Nat):aO:=PySem.Challenge.pw_rimhouse_k38_lists_of_ones_own.main.body.getD i (.Pass ⟨0,0,0,0⟩)
abbrev VB:aO:=P8 10
abbrev VC:aO:=P8 11
abbrev VD:aO:=P8 23
abbrev VE:aO:=P8 31
abbrev S2:aO:=P8 33
abbrev RM:aO:=P8 36
abbrev X2:aO:=P8 38
abbrev LO:aO:=P8 39
abbrev uz:aO:=P8 42
abbrev VF:aO:=P8 47
abbrev VG:aO:=P8 48
abbrev VH:aO:=P8 29
abbrev VI:aO:=P8 63
abbrev RN:aO:=P8 49
abbrev LP:aO:=P8 40
abbrev RW:aO:=P8 50
abbrev LQ:aO:=P8 41
abbrev VL:aO:=P8 45
abbrev yf:aO:=P8 58
abbrev VM:aO:=P8 77
abbrev VN:aO:=P8 78
abbrev VO:aO:=P8 80
abbrev LR:aO:=P8 81
abbrev M1:aO:=P8 83
abbrev RX:aO:=P8 12
abbrev l0:aO:=P8 13
abbrev VP:aO:=P8 18
abbrev Z9:aO:=P8 19
abbrev VQ:aO:=P8 20
abbrev W9:aO:=P8 21
abbrev VR:aO:=P8 22
abbrev yo:aO:=P8 24
abbrev yr:aO:=P8 25
abbrev X7:aO:=P8 27
abbrev V0:aO:=P8 28
abbrev yt:aO:=P8 37
abbrev yu:aO:=P8 44
abbrev RZ:aO:=P8 52
abbrev Y2:aO:=P8 53
abbrev yv:aO:=P8 55
abbrev yw:aO:=P8 56
abbrev Sd:aO:=P8 60
abbrev yx:aO:=P8 61
abbrev t7:aO:=P8 65
abbrev Y1:aO:=P8 69
abbrev VS:aO:=P8 70
abbrev VT:aO:=P8 71
abbrev Z4:aO:=P8 72
abbrev Y7:aO:=P8 73
abbrev VU:aO:=P8 74
abbrev VV:aO:=P8 75
abbrev yy:aO:=P8 82
abbrev D0:aO:=T5 Y2 0
abbrev b8:aO:=T5 Y2 1
abbrev Se:aO:=T5 Y2 2
abbrev R0:aO:=T5 Y2 6
abbrev Q1:aO:=T5 Y2 7
abbrev Sf:aO:=T5 Y2 8
abbrev Kf:aO:=P8 32
abbrev Ob:aO:=T5 Kf 0
abbrev Wh:aO:=T5 Kf 1
abbrev Wi:aO:=T5 Kf 2
abbrev Wj:aO:=T5 Kf 3
abbrev W6:aO:=T5 Kf 4
abbrev Wl:aO:=T5 Kf 5
abbrev Wm:aO:=T5 Kf 6
abbrev b6I:Pos:=⟨113,32,113,64⟩
structure v8(mg:aC->Option aE):Prop where
 len:mg "len"=bh
 all:mg "all"=bh
 any:mg "any"=bh
 max:mg "max"=bh
 min:mg "min"=bh
 sum:mg "sum"=bh
 tuple:mg "tuple"=bh
 list:mg "list"=bh
 int:mg "int"=bh
 bool:mg "bool"=bh
 range:mg "range"=bh
 En:mg "isinstance"=bh
 abs:mg "abs"=bh
 zip:mg "zip"=bh
 enum:mg "enumerate"=bh
 ve:mg "ValueError"=bh
 so:mg "sorted"=bh
def c0f(K:aF):List V->Hp->VK->Prop:=λxs H Q=>∃p ys,xs=[.ref p]/\(ah K H p ys\/cq K H p ys)/\Q (.int (bx ys:Int)) H
theorem b2T K(h:X.K=K):K6 X (.builtin "len") (c0f K):=by subst h;exact j6
theorem Wn K(h:X.K=K):JJ X (Om K):=by subst h;exact j5
theorem IX K{k}{pos}(h:X.K=K)(hc:X.calm=true)(hp:Lq X es t)(hn:bx (assignEach es X.env)=n:=by rfl)(gj:(assignEach es X.env).findIdx? (·.1)=bh:=by rfl):PG X (.Tuple es k pos) (MW K n t):=by subst h;exact K4 hc hp hn gj
def b8L(K:aF):List V->Hp->VK->Prop:=λxs H Q=>∃p ys,xs=[.ref p]/\(ah K H p ys\/cq K H p ys)/\∀l,H l=bh->Q (.ref l) (upd H l (.lst ys))
theorem Wo K(h:X.K=K):K6 X (.type "list") (b8L K):=by subst h;exact C5
def vI:V->Int
 |.int i=>i
 |_=>0
theorem T0{ns:List Int}{i:Nat}(h:(ns.map V.int)[i]?=av x):∃k,x=.int k:=by
 rw[aP] at h;cases hn:ns[i]? with
 |none=>rw[hn] at h;cases h
 |some k=>rw[hn] at h;cases h;exact⟨k,rfl⟩
theorem b8P{N:VK}(h:N (.bl b) H)(e:b'=b):N (.bl b') H:=by simp_all
abbrev i8:=List Int×List Int
def HS(K:aF)(H:Hp)(v:V)(h:i8):Prop:=∃a t g,v=.ref a/\cq K H a [.ref t,.ref g]/\cq K H t (h.1.map V.int)/\cq K H g (h.2.map V.int)
abbrev Bk(K:aF)(H:Hp):List V->List i8->Prop:=bR (HS K H)
theorem HS.same(e:af H H')(x:HS K H v h):HS K H' v h:=by
 obtain⟨a,t,g,h0,h1,h2,h3⟩:=x;exact⟨a,t,g,h0,e.cm h1,e.cm h2,e.cm h3⟩
def Bk.same(e:af H H')(x:Bk K H vs hs):Bk K H' vs hs:=aZ.imp' (λ_ _ r=>HS.same e r) x
theorem aZ.at:∀{eX:List α}{gi:List β},bR F eX gi->∀{i:Nat}{x},eX[i]?=av x->∃y,gi[i]?=av y/\F x y
 |_,_,.nil,_,_,e=>by simp at e
 |_,_,.cons r _,0,_,e=>by simp at e;subst e;exact⟨_,rfl,r⟩
 |_,_,.cons _ t,i+1,x,e=>by
  obtain⟨y,h1,h2⟩:=aZ.at t (by simpa using e);exact⟨y,by simpa using h1,h2⟩
def C8(q:Nat)(S:Lp.Bo)(i:Nat):List Int:=(aW (q+1)).map (S.T i)
def R4(q:Nat)(S:Lp.Bo):List Int:=(aW q).map λj=>(S.outs j:Int)
def Y9(m:Nat)(S:Lp.Bo):List Int:=(aW m).map λi=>(S.ins i:Int)
abbrev bdF(q:Nat)(d:Int)(ca oa ia:aA):List (aC×V):=[("many",.int q),("scale",.int d),("cells",.ref ca),("outs",.ref oa),("ins",.ref ia)]
structure Bd(C:aA)(H:Hp)(p dx ca oa ia:aA)(rs:List aA)(m q:Nat)(S:Lp.Bo):Prop where
 obj:H p=av (.ins C dx (bdF q S.d ca oa ia))
 CQ:H ca=av (.lst (rs.map V.ref))
 len:bx rs=m+1
 row:∀i r,rs[i]?=av r->H r=av (.lst ((C8 q S i).map V.int))
 out:H oa=av (.lst ((R4 q S).map V.int))
 CS:H ia=av (.lst ((Y9 m S).map V.int))
 ne:oa≠ia
structure TB(K:aF)(C:aA):Prop where
 cl:z_ K C
 nM:dg K C "many"
 nS:dg K C "scale"
 nC:dg K C "cells"
 nO:dg K C "outs"
 nI:dg K C "ins"
theorem Bd.yk(B:Bd C H p dx ca oa ia rs m q S)(h:i<m+1):∃r,rs[i]?=av r/\U7 (rs.map V.ref) (i:Int)=av (.ref r):=by
 have h':i<bx rs:=by rw[B.len];exact h
 refine⟨rs[i],aS h',A2 ?_⟩;rw[aP,aS h'];rfl
theorem LS{j:Nat}(h:j<q+1):U7 ((C8 q S i).map V.int) (j:Int)=av (.int (S.T i j)):=A2 (by
 unfold C8;rw[aP,aP,cU h];rfl)
theorem b0h(hl:bx xs=n+1)(h:xs[n]?=av v):U7 xs (-1)=av v:=by
 have e:Bz (bx xs) (-1)=av n:=by
  unfold Bz;rw[hl,if_neg (by decide),if_pos (by lia)];congr 1;lia
 unfold U7;rw[e];exact h
theorem QX:U7 ((C8 q S i).map V.int) (-1)=av (.int (S.T i q)):=b0h (n:=q) (by unfold C8;simp) (by
 unfold C8;rw[aP,aP,cU (jJ _)];rfl)
theorem Bd.wo(B:Bd C H p dx ca oa ia rs m q S):∃r,rs[m]?=av r/\U7 (rs.map V.ref) (-1)=av (.ref r):=by
 have h':m<bx rs:=by rw[B.len];exact jJ _
 refine⟨rs[m],aS h',b0h (by simpa using B.len) ?_⟩;rw[aP,aS h'];rfl
theorem QY(h:i<m):U7 ((Y9 m S).map V.int) (i:Int)=av (.int (S.ins i)):=A2 (by
 unfold Y9;rw[aP,aP,cU h];rfl)
theorem Wq(h:j<q):U7 ((R4 q S).map V.int) (j:Int)=av (.int (S.outs j)):=A2 (by
 unfold R4;rw[aP,aP,cU h];rfl)
def Bd.fg{P:aA}(B:Bd C H p dx ca oa ia rs m q S)(e:∀b o,H b=av o->(∀ps,o≠.my ps)->H' b=av o):Bd C H' p dx ca oa ia rs m q S :=
 ⟨e _ _ B.obj λ_=>nofun,e _ _ B.CQ λ_=>nofun,B.len,λi r h=>e _ _ (B.row i r h) λ_=>nofun,e _ _ B.out λ_=>nofun,e _ _ B.CS λ_=>nofun,B.ne⟩
def Sz(n m q:Nat)(S:Lp.Bo):Prop:=(∀i j,i<m+1->j<q+1->fh n (S.T i j))/\fh n S.d
theorem b2C(h:fh a x)(yh:a<=b):fh b x:=bS h (lG (by decide) yh)
def LU(q:Nat)(S:Lp.Bo)(i o c:Nat):Bool:=if S.T i q*S.T o c=S.T o q*S.T i c then decide (S.ins i<S.ins o) else decide (S.T i q*S.T o c<S.T o q*S.T i c)
inductive Sh(C:aA)(vs:List V)(H:Hp)(Q:VK)(dj:XK):Prop|mk:∀(p dx ca oa ia:aA)(rs:List aA)(m q:Nat)(S:Lp.Bo)(i o c:Nat),vs=[.ref p,.int i,.int o,.int c]->Bd C H p dx ca oa ia rs m q S->Sz 4000 m q S->i<m->o<m->c<q+1->Q (.bl (LU q S i o c)) H->Sh C vs H Q dj
def wq:p7 ["self","row","other","column","left","right"] ["self","row","other","column"] (i9 Wj):={}
theorem b2r(F:df K "is_ahead" "Board.is_ahead" Wj f fd)(T:TB K C):bf P w K mg base J8 (n+1) f fd ["self","row","other","column"] (Sh C):=by
 refine F.oa wq λay A outer s H vs Q E hr h=>?_;obtain⟨p,dx,ca,oa,ia,rs,m,q,S,i,o,c,rfl,B,hz,hi,ho,hc,k⟩:=h;refine⟨_,j0 (r6 (i:=4) wq.nd rfl (aI rfl) (j8 Qr (l8 j5 (l8 j5 (y4 (pv 0) rfl) (pv 1) (λ_ _=>rfl)) (Eh V2 d0) (λ_ _=>rfl)) (l8 j5 (l8 j5 (y4 (pv 0) rfl) (pv 2) (λ_ _=>rfl)) (pv 3) (λ_ _=>rfl))))
  (j0 (r6 (i:=5) wq.nd rfl (aI rfl) (j8 Qr (l8 j5 (l8 j5 (y4 (pv 0) rfl) (pv 2) (λ_ _=>rfl)) (Eh V2 d0) (λ_ _=>rfl)) (l8 j5 (l8 j5 (y4 (pv 0) rfl) (pv 1) (λ_ _=>rfl)) (pv 3) (λ_ _=>rfl))))
  (j0 (w6 (l5 E6 (pv 4) (pv 5) (r9 _)) (j4 (o4 (Z3 EI (l8 j5 (y4 (pv 0) rfl) (pv 1) (λ_ _=>rfl)) (l8 j5 (y4 (pv 0) rfl) (pv 2) (λ_ _=>rfl)) (r9 _)))) r8)
  (j4 (o4 (Z3 EI (pv 4) (pv 5) (r9 _)))))),?_⟩
 obtain⟨ri,ei,ai⟩:=B.yk (i:=i) (by lia);obtain⟨ro,eo,ao⟩:=B.yk (i:=o) (by lia);have bi:=ah.of (K:=K) (B.row i ri ei);have bo:=ah.of (K:=K) (B.row o ro eo);have z:∀i j,i<m+1->j<q+1->fh 1000000 (S.T i j):=λi j h1 h2=>b2C (hz.1 i j h1 h2) (by decide);refine⟨_,rfl,p,C,dx,_,_,rfl,B.obj,T.cl,T.nC,rfl,_,rfl,ca,_,_,_,rfl,rfl,ah.of B.CQ,ai,_,rfl,ri,_,_,_,rfl,rfl,bi,QX,_,rfl,p,C,dx,_,_,rfl,B.obj,T.cl,T.nC,rfl,_,rfl,ca,_,_,_,rfl,rfl,ah.of B.CQ,ao,_,rfl,ro,_,_,_,rfl,rfl,bo,LS hc,_,_,rfl,rfl,⟨z _ _ (by lia) (by lia),z _ _ (by lia) (by lia)⟩,_,rfl,p,C,dx,_,_,rfl,B.obj,T.cl,T.nC,rfl,_,rfl,ca,_,_,_,rfl,rfl,ah.of B.CQ,ao,_,rfl,ro,_,_,_,rfl,rfl,bo,QX,_,rfl,p,C,dx,_,_,rfl,B.obj,T.cl,T.nC,rfl,_,rfl,ca,_,_,_,rfl,rfl,ah.of B.CQ,ai,_,rfl,ri,_,_,_,rfl,rfl,bi,LS hc,_,_,rfl,rfl,⟨z _ _ (by lia) (by lia),z _ _ (by lia) (by lia)⟩,_,rfl,_,rfl,rfl,_,rfl,?_⟩;unfold LU at k;refine y6 (λe=>?_) (λe=>?_)
 ·have e':S.T i q*S.T o c=S.T o q*S.T i c:=by simpa using e
  rw[if_pos e'] at k;refine⟨_,rfl,p,C,dx,_,_,rfl,B.obj,T.cl,T.nI,rfl,_,rfl,ia,_,_,_,rfl,rfl,ah.of B.CS,QY hi,_,rfl,p,C,dx,_,_,rfl,B.obj,T.cl,T.nI,rfl,_,rfl,ia,_,_,_,rfl,rfl,ah.of B.CS,QY ho,_,_,rfl,rfl,b8P k ?_⟩;simp
 ·have e':¬S.T i q*S.T o c=S.T o q*S.T i c:=by simpa using e
  rw[if_neg e'] at k;exact⟨_,rfl,_,rfl,_,_,rfl,rfl,k⟩
structure LV(P:aM)(w:aL)(K:aF)(mg:aC->Option aE)(base:aJ)(n:Nat)(C:aA)(m:aC)(ps:List aC)(sp:Sp)(f:aA)(fd:aK):Prop where
 ok:bf P w K mg base J8 n f fd ps sp
 bd:Binds K fd ps []
 me:Ly K C m f
def Hw(q:Nat)(S:Lp.Bo)(c r i:Nat):Prop:=S.T r q*S.T i c<=S.T i q*S.T r c/\(S.T r q*S.T i c=S.T i q*S.T r c->S.ins r<=S.ins i)
theorem b0E{ci:Int}(h1:ar*cb<=ab*cr)(h2:ab*ci<=ai*cb)(pr:0<cr)(pb:0<cb)(pi:0<ci):ar*ci<=ai*cr/\(ar*ci=ai*cr->ar*cb=ab*cr/\ab*ci=ai*cb):=by
 have e1:=fH h1 (cC pi);have e2:=fH h2 (cC pr);have x1:ar*cb*ci=ar*ci*cb:=by grind
 have x2:ab*cr*ci=ab*ci*cr:=by grind
 have x3:ai*cb*cr=ai*cr*cb:=by grind
 rw[x1] at e1;rw[x3] at e2;refine⟨Int.le_of_mul_le_mul_right (by lia) pb,λe=>?_⟩;rw[e] at e1;refine⟨Int.eq_of_mul_eq_mul_right (a:=ci) (by lia) (by rw[x1,e];omega),rW (a:=cr) (by lia) (by rw[x3];omega)⟩
theorem Hw.trans(h1:Hw q S c r b)(h2:Hw q S c b i)(pr:0<S.T r c)(pb:0<S.T b c)(pi:0<S.T i c):Hw q S c r i:=by
 obtain⟨a,t⟩:=b0E h1.1 h2.1 pr pb pi;exact⟨a,λe=>bF (h1.2 (t e).1) (h2.2 (t e).2)⟩
theorem b0G(h:LU q S r b c=true):Hw q S c r b:=by
 unfold LU at h;by_cases e:S.T r q*S.T b c=S.T b q*S.T r c
 ·rw[if_pos e] at h;exact⟨Int.le_of_eq e,λ_=>gQ (of_decide_eq_true h)⟩
 ·rw[if_neg e] at h;have:=of_decide_eq_true h;exact⟨Int.le_of_lt this,λz=>absurd z e⟩
theorem b4T(h:LU q S r b c=false):Hw q S c b r:=by
 unfold LU at h;by_cases e:S.T r q*S.T b c=S.T b q*S.T r c
 ·rw[if_pos e] at h;exact⟨Int.le_of_eq e.symm,λ_=>uV (of_decide_eq_false h)⟩
 ·rw[if_neg e] at h;have:=of_decide_eq_false h;exact⟨by lia,λz=>absurd z.symm e⟩
inductive Si(C:aA)(vs:List V)(H:Hp)(Q:VK)(dj:XK):Prop|mk:∀(p dx ca oa ia:aA)(rs:List aA)(m q:Nat)(S:Lp.Bo)(c:Nat),vs=[.ref p,.int c]->Bd C H p dx ca oa ia rs m q S->Sz 4000 m q S->m<1000->c<q+1->((∀i,i<m->¬0<S.T i c)->Q .non H)->(∀r,r<m->0<S.T r c->(∀i,i<m->0<S.T i c->Hw q S c r i)->Q (.int r) H)->Si C vs H Q dj
def qr:p7 ["self","column","best","row"] ["self","column"] (i9 Wi):={}
theorem b2X(F:df K "going" "Board.going" Wi f fd)(N:v8 mg)(T:TB K C)(A1:LV P w K mg base n C "is_ahead" ["self","row","other","column"] (Sh C) g gd):bf P w K mg base J8 (n+1) f fd ["self","column"] (Si C):=by
 refine F.oa qr λay A outer s H vs Q E hr h=>?_;obtain⟨p,dx,ca,oa,ia,rs,m,q,S,c,rfl,B,hz,hm,hc,kN,kI⟩:=h;refine⟨_,j0 (r6 (i:=2) qr.nd rfl (aI rfl) D5)
  (j0 (IF hO rfl (R8 rfl N.range (c6 (j7 j6 rfl N.len bB (c6 (y4 (pv 0) rfl) c7)) c7)) (j9 (i:=3) qr.nd rfl (aI rfl))
   (j4 (w6 (PW.pt (Gv (l5 Ej (l8 j5 (l8 j5 (y4 (pv 0) rfl) (pv 3) (λ_ _=>rfl)) (pv 1) (λ_ _=>rfl)) d0 (r9 _))
     (T4 (PW.pt (U0 (l5 Lv (pv 2) D5 (r9 _)) (R9 (X6 (TQ (pv 0) T.cl A1.me A1.ok hr A1.bd .nil v6 (c6 (pv 3) (c6 (pv 2) (c6 (pv 1) c7)))))))))))
    (j4 (r6 (i:=2) qr.nd rfl (aI rfl) (pv 3))) r8)))
  (j4 (o4 (pv 2)))),?_⟩
 have lm:bx ((Y9 m S).map V.int)=m:=by unfold Y9;simp
 refine⟨_,rfl,p,C,dx,_,_,rfl,B.obj,T.cl,T.nI,rfl,ia,_,rfl,.inl (ah.of B.CS),_,rfl,(by rw[lm];lia),(by rw[lm];lia),?_⟩;rw[lm,cF];refine PZ (n:=m) (λk σ H'=>∃(b o3:Option V),σ=[av (.ref p),av (.int c),b,o3]/\H'=H/\((b=av .non/\∀i,i<k->¬0<S.T i c)\/∃r:Nat,b=av (.int r)/\r<k/\0<S.T r c/\∀i,i<k->0<S.T i c->Hw q S c r i))
  ⟨_,_,rfl,rfl,.inl ⟨rfl,λi hi=>absurd hi (xC _)⟩⟩ (λk σ H' hk hP=>?_) λσ H' hP=>?_
 ·obtain⟨b,o3,rfl,rfl,hb⟩:=hP;obtain⟨rk,ek,ak⟩:=B.yk (i:=k) (by lia);rw[lH _];refine⟨_,rfl,p,C,dx,_,_,rfl,B.obj,T.cl,T.nC,rfl,_,rfl,ca,_,_,_,rfl,rfl,ah.of B.CQ,ak,_,rfl,rk,_,_,_,rfl,rfl,ah.of (B.row k rk ek),LS hc,_,_,rfl,rfl,_,rfl,?_⟩;have keep:¬0<S.T k c->((b=av .non/\∀i,i<k+1->¬0<S.T i c)\/∃r:Nat,b=av (.int r)/\r<k+1/\0<S.T r c/\∀i,i<k+1->0<S.T i c->Hw q S c r i):=λhn=>by
   rcases hb with⟨e,hb⟩|⟨r,e,h1,h2,h3⟩
   ·refine .inl ⟨e,λi hi=>?_⟩;by_cases z:i=k
    ·subst z;exact hn
    ·exact hb i (by lia)
   ·refine .inr ⟨r,e,by lia,h2,λi hi hp=>?_⟩;by_cases z:i=k
    ·subst z;exact absurd hp hn
    ·exact h3 i (by lia) hp
  refine y6 (λd=>?_) (λd=>⟨_,_,rfl,rfl,keep (λz=>d (decide_eq_true z))⟩)
  ·have d':0<S.T k c:=of_decide_eq_true d;rcases hb with⟨rfl,hb⟩|⟨r,rfl,h1,h2,h3⟩
   ·refine⟨_,rfl,rfl,_,rfl,y6 (λ_=>(J3 ⟨_,rfl,⟨_,_,rfl,rfl,.inr ⟨k,rfl,by lia,d',λi hi hp=>?_⟩⟩⟩)) (λz=>absurd (decide_eq_true rfl) z)⟩;by_cases z:i=k
    ·subst z;exact⟨Int.le_refl _,λ_=>aT _⟩
    ·exact absurd hp (hb i (by lia))
   ·refine⟨_,rfl,rfl,_,rfl,y6 (λz=>absurd (of_decide_eq_true z) (by nofun)) (λ_=>⟨_,rfl,p,dx,_,rfl,B.obj,rfl,_,rfl,_,rfl,_,rfl,p,dx,ca,oa,ia,rs,m,q,S,k,r,c,rfl,B,hz,hk,by lia,hc,_,rfl,y6 (λe=>?_) (λe=>?_)⟩)⟩
    ·refine⟨_,rfl,⟨_,_,rfl,rfl,.inr ⟨k,rfl,by lia,d',λi hi hp=>?_⟩⟩⟩;by_cases z:i=k
     ·subst z;exact⟨Int.le_refl _,λ_=>aT _⟩
     ·exact(b0G e).trans (h3 i (by lia) hp) d' h2 hp
    ·refine⟨_,_,rfl,rfl,.inr ⟨r,rfl,by lia,h2,λi hi hp=>?_⟩⟩;by_cases z:i=k
     ·subst z;exact(b4T (eN.mpr e))
     ·exact h3 i (by lia) hp
 ·obtain⟨b,o3,rfl,rfl,hb⟩:=hP;rcases hb with⟨rfl,hb⟩|⟨r,rfl,h1,h2,h3⟩
  ·exact⟨_,rfl,kN hb⟩
  ·exact⟨_,rfl,kI r h1 h2 h3⟩
abbrev c0q:aC:=("Board.coming"++".<locals>.")++"<lambda>"
abbrev LT(Pt:aA)(H:Hp):Prop:=cu Pt b6I c0q H
inductive Wr(C Pt:aA)(vs:List V)(H:Hp)(Q:VK)(dj:XK):Prop|mk:∀p dx ca oa ia rs m q S,vs=[.ref p]->Bd C H p dx ca oa ia rs m q S->q<1000->LT Pt H->(∀H',bj Pt H H'->LT Pt H'->((∀j,j<q->¬S.T m j<0)->Q .non H')/\∀j,j<q->S.T m j<0->(∀i,i<q->S.T m i<0->S.outs j<=S.outs i)->Q (.int j) H')->Wr C Pt vs H Q dj
def yl:p7 ["self","columns"] ["self"] (i9 Wh):={}
theorem b9J:(["column","self"]:List aC).Nodup:=by decide
theorem cu.new(T:cu Pt pos qual H)(h:H a=bh):cu Pt pos qual (upd H a o):=T.same λb u e=>by rw[j3 (i7 e h)];exact e
def LW(q:Nat)(S:Lp.Bo)(m:Nat):List Int:=((aW q).filter λj=>decide (S.T m j<0)).map λ(j:Nat)=>(j:Int)
theorem b1Y:((aW q).map λ(i:Nat)=>V.int (0+(i:Int))).filter (λv=>decide (S.T m (vI v).toNat<0))=(LW q S m).map V.int:=by
 unfold LW;rw[List.filter_map,bC];have e:((λv=>decide (S.T m (vI v).toNat<0))∘λ(i:Nat)=>V.int (0+(i:Int)))=λj=>decide (S.T m j<0):=by
  funext j;show decide (S.T m (vI (V.int (0+(j:Int)))).toNat<0)=_;rw[show(vI (V.int (0+(j:Int)))).toNat=j from by simp[vI]]
 rw[e];refine fM λj _=>?_;simp
theorem Bd.lam(B:Bd C H p dx ca oa ia rs m q S)(T:LT Pt H)(e:bj Pt H H'):Bd C H' p dx ca oa ia rs m q S:=by
 refine B.fg (P:=Pt) λb o q n=>e b o (λz=>?_) q;subst z;rcases T with t|⟨c,t,_⟩
 ·rw[q] at t;exact n _ (bD t)
 ·rw[q] at t;exact n _ (bD t)
theorem b0B(F:df K "coming" "Board.coming" Wh f fd)(vm:fd.code=.ref c)(CH:oV base c Pt)(BM:QO mg base)(N:v8 mg)(T:TB K C):bf P w K mg base J8 (n+3) f fd ["self"] (Wr C Pt):=by
 refine F.okC vm yl (λvs H Q E h=>?_) λA outer s H vs Q E hr h=>?_
 ·obtain⟨p,dx,ca,oa,ia,rs,m,q,S,rfl,_⟩:=h;rfl
 obtain⟨p,dx,ca,oa,ia,rs,m,q,S,rfl,B,hq,L,k⟩:=h;refine⟨_,j0 (b2o (i:=1) ["column"] [0] yl.nd rfl rfl rfl (R8 rfl N.range (c6 (y4 (pv 0) rfl) c7)) (λ_ _ _ _=>j9 (i:=0) b9J rfl (aI rfl))
   (λ_ _ _ _=>l5 EI (l8 (Wn K rfl) (l8 (Wn K rfl) (Vf K rfl (pv 1) rfl) (Eh V2 d0) (λ_ _=>rfl)) (pv 0) (λ_ _=>rfl)) d0 (r9 _))
   (λ_ _ _ _=>pv 0))
  (j4 (o4 (b0V (col:="column") (fr:=[0]) (c:=c) (P:=Pt) rfl (hr.mono (by lia)) rfl N.min rfl CH BM rfl rfl (by decide +kernel) rfl rfl rfl (λ_ _ _ _=>rfl) (c6 (pv 1) c7)
   (λ_ _ _ _=>l8 (Wn K rfl) (Vf K rfl (pv 1) rfl) (pv 0) (λ_ _=>rfl))))),?_⟩
 refine⟨_,rfl,p,C,dx,_,_,rfl,B.obj,T.cl,T.nM,rfl,_,rfl,by lia,by lia,?_⟩;rw[cF];intro l hl;obtain⟨rm,em,am⟩:=B.wo;refine Vg Po hl (by rw[aH,gZ];exact t9 (by lia)) (λv=>decide (S.T m (vI v).toNat<0)) (λi x H' N' hx e hN=>?_) ?_
 ·have f':x=.int (i:Int)/\i<q:=by
   rw[aP] at hx;by_cases hi:i<q
   ·rw[cU hi] at hx;refine⟨?_,hi⟩;have:=bD hx;rw[<-this];simp
   ·rw[bW (by simp;lia)] at hx;cases hx
  obtain⟨rfl,hi⟩:=f';have e':∀b o,H b=av o->H' b=av o:=λb o z=>e b o z;refine⟨_,rfl,p,C,dx,_,_,rfl,e' _ _ B.obj,T.cl,T.nC,rfl,_,rfl,ca,_,_,_,rfl,rfl,ah.of (e' _ _ B.CQ),am,_,rfl,rm,_,_,_,rfl,rfl,ah.of (e' _ _ (B.row m rm em)),LS (by lia),_,_,rfl,rfl,_,rfl,?_⟩;have ev:decide (S.T m (vI (V.int (i:Int))).toNat<0)=decide (S.T m i<0):=by rw[show(vI (V.int (i:Int))).toNat=i from by simp[vI]]
  rw[ev] at hN;exact hN
 rw[b1Y];have LX:LT Pt (upd H l (.lst ((LW q S m).map V.int))):=cu.new L hl;have B2:Bd C (upd H l (.lst ((LW q S m).map V.int))) p dx ca oa ia rs m q S:=B.fg (P:=Pt) λb o z _=>by rw[j3 (i7 z hl)];exact z
 have mem:∀x:Int,x∈LW q S m ↔ ∃j:Nat,x=(j:Int)/\j<q/\S.T m j<0:=λx=>by
  unfold LW;rw[aY];constructor
  ·rintro⟨j,hj,rfl⟩;rw[lI,fF] at hj;exact⟨j,rfl,hj.1,of_decide_eq_true hj.2⟩
  ·rintro⟨j,rfl,h1,h2⟩;exact⟨j,by rw[lI,fF];exact⟨h1,decide_eq_true h2⟩,rfl⟩
 refine⟨_,rfl,l,_,λx=>(S.outs x.toNat:Int),rfl,ah.of ae,LX,λH2 e2 L3=>?_⟩;have B3:=B2.lam LX e2;have e3:bj Pt H H2:=λb o hb z=>e2 b o hb (by rw[j3 (i7 z hl)];exact z);obtain⟨k1,k2⟩:=k H2 e3 L3;refine⟨λx hx=>?_,λen=>k1 λj hj hn=>?_,λM hM Ax=>?_⟩
 ·obtain⟨j,rfl,hj,hn⟩:=(mem x).mp hx;exact⟨_,rfl,p,C,dx,_,_,rfl,B3.obj,T.cl,T.nO,rfl,_,rfl,oa,_,_,_,rfl,rfl,ah.of B3.out,Wq hj,by simp,rfl⟩
 ·have:=(mem (j:Int)).mpr ⟨j,rfl,hj,hn⟩;rw[en] at this;cases this
 ·obtain⟨j,rfl,hj,hn⟩:=(mem M).mp hM;refine k2 j hj hn λi hi hni=>?_;have:=Ax (i:Int) ((mem _).mpr ⟨i,rfl,hi,hni⟩);simpa using this
def Kg(xs ys:List Int)(c:Nat)(d:Int):List Int:=(cV (λx y=>(x*ys.getD c 0-xs.getD c 0*y)/d) xs ys).set c (-(xs.getD c 0))
theorem a7D{ns:List Int}(h:i<bx ns):U7 (ns.map V.int) (i:Int)=av (.int (ns.getD i 0)):=A2 (by
 rw[aP,aS h,bA,aS h];rfl)
theorem LY{ns:List Int}{i:Nat}(h:(ns.map V.int)[i]?=av x):∃k,x=.int k/\k∈ns:=by
 rw[aP] at h;cases hn:ns[i]? with
 |none=>rw[hn] at h;cases h
 |some k=>rw[hn] at h;cases h;exact⟨k,rfl,bK hn⟩
theorem Sr(F:V->V->V)(G:Int->Int->Int)(h:∀a b,F (.int a) (.int b)=.int (G a b)):∀xs ys,cV F (xs.map V.int) (ys.map V.int)=(cV G xs ys).map V.int
 |[],_=>by simp
 |_::_,[]=>by simp
 |x::xs,y::ys=>by simp[h,Sr F G h xs ys]
theorem a5r{ns:List Int}(h:i<bx ns):ns.getD i 0∈ns:=by simp_all
inductive Ws(K:aF)(vs:List V)(H:Hp)(Q:VK)(dj:XK):Prop|mk:∀(a b:aA)(c:Nat)(d:Int)(xs ys:List Int),vs=[.ref a,.ref b,.int c,.int d]->ah K H a (xs.map V.int)->ah K H b (ys.map V.int)->bx xs=bx ys->bx xs<=1000->c<bx xs->0<d->fh 4000 d->(∀x∈xs,fh 4000 x)->(∀y∈ys,fh 4000 y)->(∀r H',af H H'->H r=bh->H' r=av (.lst ((Kg xs ys c d).map V.int))->Q (.ref r) H')->Ws K vs H Q dj
def qt:p7 ["cells","lead","column","scale","factor","pivot","fresh"] ["cells","lead","column","scale"] (i9 VE):={}
theorem b8X:(["cell","other","scale","factor","pivot"]:List aC).Nodup:=by decide
theorem b1w(F:Aj K "swept" VE f fd)(N:v8 mg):bf P w K mg base J8 (n+1) f fd ["cells","lead","column","scale"] (Ws K):=by
 refine F.oa qt λay A outer s H vs Q E hr h=>?_;obtain⟨a,b,c,d,xs,ys,rfl,ha,hb,hl,hz,hc,hd,hD,hx,hy,k⟩:=h;refine⟨_,j0 (r6 (i:=4) qt.nd rfl (fY rfl) (l8 j5 (pv 0) (pv 2) (λ_ _=>rfl)))
  (j0 (r6 (i:=5) qt.nd rfl (fY rfl) (l8 j5 (pv 1) (pv 2) (λ_ _=>rfl)))
  (j0 (CA (i:=6) ["cell","other"] [3,4,5] qt.nd rfl rfl rfl (QI true true K rfl rfl N.zip (c6 (pv 0) (c6 (pv 1) c7)))
   (λ_ _ _ _=>IX K (n:=2) rfl rfl (p6 (j9 (i:=0) b8X rfl (aI rfl)) (p6 (j9 (i:=1) b8X rfl (aI rfl)) A4)))
   (λ_ _ _ _=>j8 UA (j8 IH (j8 Qr (pv 0) (pv 4)) (j8 Qr (pv 3) (pv 1))) (pv 2)))
  (j0 (D3 (Eh V2 (pv 4)) (Gy (pv 6) (pv 2) O1))
  (j4 (o4 (pv 6)))))),?_⟩
 have Aq:c<bx ys:=by lia
 refine⟨_,rfl,_,rfl,a,_,_,_,rfl,rfl,ha,a7D hc,_,rfl,_,rfl,b,_,_,_,rfl,rfl,hb,a7D Aq,_,rfl,_,rfl,a,b,rfl,⟨_,ha⟩,⟨_,hb⟩,λl jl=>?_⟩;have up:∀{x},fh 4000 x->fh 1000000 x:=λh=>b2C h (by decide);refine b9k ha hb jl (by rw[aH];exact t9 hz) (λu v=>.int ((vI u*ys.getD c 0-xs.getD c 0*vI v)/d)) (λi u v H' N' hu hv e hN=>?_) (λH' e hH=>?_)
 ·obtain⟨x,rfl,Eo⟩:=LY hu;obtain⟨y,rfl,Su⟩:=LY hv;have dl:d<2^8000:=by
   have h2:(2:Nat)^4000<=2^8000:=lG (by decide) (by decide);have h3:d=(d.natAbs:Int):=by lia
   rw[h3]
   exact_mod_cast bS hD h2
  refine⟨_,rfl,_,rfl,_,_,rfl,rfl,⟨up (hx _ Eo),up (hy _ (a5r Aq))⟩,_,rfl,_,rfl,_,_,rfl,rfl,⟨up (hx _ (a5r hc)),up (hy _ Su)⟩,_,_,rfl,rfl,_,rfl,_,_,rfl,rfl,⟨hd,dl⟩,hN⟩
 ·rw[Sr _ (λx y=>(x*ys.getD c 0-xs.getD c 0*y)/d) (λ_ _=>rfl)] at hH;refine⟨_,rfl,_,rfl,_,rfl,_,rfl,l,_,_,c,rfl,rfl,hH,?_,?_⟩
  ·unfold Bz;rw[aH,jS,if_pos (by lia),if_pos (by lia),cF]
  ·refine⟨_,rfl,k l _ ?_ jl ?_⟩
   ·exact λb' o q=>by rw[j3 (i7 q jl)];exact e b' o q
   ·rw[ae];unfold Kg;rw[<-rZ]
structure C9(P:aM)(w:aL)(K:aF)(mg:aC->Option aE)(base:aJ)(n:Nat)(x:aC)(ps:List aC)(sp:Sp)(fa:aA)(d:aK):Prop where
 ok:bf P w K mg base J8 n fa d ps sp
 b:Binds K d ps []
 k:dX K (.ref fa)=true
 m:mg x=av (.ref fa)
def C9.c{X:Cx}(C:C9 X.prog X.w X.K X.mg X.base j x ps sp f fd)(hr:b_ j X.A)(ha:PA X (e::es) t)(hg:Gl X x:=by exact rfl)(hd:(x==("__debug__":aC))=false:=by decide)(he:starEach (e::es) X.env=(false,eval e X.env)::starEach es X.env:=by rfl)(hp:(backTo pos (starEach es X.env)).any (·.1)=false:=by rfl):PE X (.Call (.Name x p) (e::es) [] pos) (Qf sp [] E0 t):=l7 C.ok hr hg C.m C.k C.b .nil v6 ha hd he hp
theorem K8:bx (C8 q S i)=q+1:=by unfold C8;simp
theorem a5h(h:j<q+1):(C8 q S i).getD j 0=S.T i j:=by
 unfold C8;rw[bA,aP,cU h];rfl
theorem b0N(hi:i≠r)(hc:c<q):Kg (C8 q S i) (C8 q S r) c S.d=C8 q (Lp.fe S r c) i:=by
 refine dR λj=>?_;unfold Kg;by_cases hj:j<q+1
 ·rw[a5h (by lia),a5h (by lia)];have e:(C8 q (Lp.fe S r c) i)[j]?=av ((Lp.fe S r c).T i j):=by unfold C8;rw[aP,cU hj];rfl
  have hT:(Lp.fe S r c).T i j=if j=c then-S.T i c else (S.T i j*S.T r c-S.T i c*S.T r j)/S.d:=by
   show(if i=r then _ else _)=_;rw[if_neg hi]
  rw[e,hT];by_cases wj:j=c
  ·subst wj;rw[eK (by rw[jS,K8,K8];lia),if_pos rfl]
  ·rw[dP (bV wj),mX,if_neg wj];unfold C8;rw[aP,aP,cU hj];rfl
 ·rw[bW (by rw[eE,jS,K8,K8];lia),bW (by rw[K8];lia)]
theorem b3n(hc:c<q):(((C8 q S r).map V.int).take c++[V.int S.d])++((C8 q S r).map V.int).drop (c+1)=(C8 q (Lp.fe S r c) r).map V.int:=by
 have hT:∀j,(Lp.fe S r c).T r j=if j=c then S.d else S.T r j:=λj=>by
  show(if r=r then _ else _)=_;rw[if_pos rfl]
 have hl:bx ((C8 q S r).map V.int)=q+1:=by rw[aH,K8]
 refine dR λj=>?_;by_cases hj:j<q+1
 ·have e:((C8 q (Lp.fe S r c) r).map V.int)[j]?=av (.int (if j=c then S.d else S.T r j)):=by
   rw[aP];unfold C8;rw[aP,cU hj,<-hT];rfl
  have e0:((C8 q S r).map V.int)[j]?=av (.int (S.T r j)):=by
   rw[aP];unfold C8;rw[aP,cU hj];rfl
  rw[e];have lt:bx (((C8 q S r).map V.int).take c)=c:=by rw[cI,hl];lia
  by_cases h1:j<c
  ·rw[dH (by rw[aX,lt];lia),dH (by lia),tM h1,e0,if_neg (by lia)]
  ·by_cases h2:j=c
   ·subst h2;rw[dH (by simp_all),dU (by lia),lt,gL,if_pos rfl];rfl
   ·rw[dU (by rw[aX,lt];simp;lia),aX,lt,wW,if_neg h2];have:c+1+(j-(c+[V.int S.d].length))=j:=by simp;lia
    rw[this,e0]
 ·rw[bW (by rw[aX,aX,cI,eJ,hl];simp;lia),bW (by rw[aH,K8];lia)]
theorem b4t(hr:r<m):((Y9 m S).map V.int).set r (.int (S.outs c))=(Y9 m (Lp.fe S r c)).map V.int:=by
 refine dR λj=>?_;have hT:(Lp.fe S r c).ins j=if j=r then S.outs c else S.ins j:=rfl
 by_cases hj:j<m
 ·have e:((Y9 m (Lp.fe S r c)).map V.int)[j]?=av (.int ((if j=r then S.outs c else S.ins j:Nat))):=by
   rw[aP];unfold Y9;rw[aP,cU hj,<-hT];rfl
  rw[e];by_cases h:j=r
  ·subst h;rw[eK (by unfold Y9;simp;lia),if_pos rfl]
  ·rw[dP (bV h),if_neg h,aP];unfold Y9;rw[aP,cU hj];rfl
 ·rw[bW (by unfold Y9;simp;lia),bW (by unfold Y9;simp;lia)]
theorem b1A(hc:c<q):((R4 q S).map V.int).set c (.int (S.ins r))=(R4 q (Lp.fe S r c)).map V.int:=by
 refine dR λj=>?_;have hT:(Lp.fe S r c).outs j=if j=c then S.ins r else S.outs j:=rfl
 by_cases hj:j<q
 ·have e:((R4 q (Lp.fe S r c)).map V.int)[j]?=av (.int ((if j=c then S.ins r else S.outs j:Nat))):=by
   rw[aP];unfold R4;rw[aP,cU hj,<-hT];rfl
  rw[e];by_cases h:j=c
  ·subst h;rw[eK (by unfold R4;simp;lia),if_pos rfl]
  ·rw[dP (bV h),if_neg h,aP];unfold R4;rw[aP,cU hj];rfl
 ·rw[bW (by unfold R4;simp;lia),bW (by unfold R4;simp;lia)]
theorem LZ(h:i<n):Bz n (i:Int)=av i:=by
 unfold Bz;rw[if_pos (by lia),if_pos (by lia),cF]
section
variable{P:aM}{w:aL}{K:aF}{mg:aC->Option aE}{base:aJ}{f g c Pt:aA}{fd gd:aK}{n:Nat}{C:aA}
inductive Sv(C:aA)(vs:List V)(H:Hp)(Q:VK)(dj:XK):Prop|mk:∀(p dx ca oa ia:aA)(rs:List aA)(m q:Nat)(S:Lp.Bo)(r c:Nat),vs=[.ref p,.int r,.int c]->Bd C H p dx ca oa ia rs m q S->Sz 4000 m q S->r<m->c<q->m<900->q<900->0<S.d->(∀H' Wt mq,Bd C H' p dx Wt oa ia mq m q (Lp.fe S r c)->(∀b o,b≠p->b≠oa->b≠ia->H b=av o->H' b=av o)->Q .non H')->Sv C vs H Q dj
def Kh:p7 ["self","row","column","lead","pivot"] ["self","row","column"] (i9 W6):={}
theorem c0w:(["cells","self","column","lead"]:List aC).Nodup:=by decide
def exT{fb:aA}{db:aK}(Cs:C9 P w K mg base n "swept" ["cells","lead","column","scale"] (Ws K) fb db)
  (hr:b_ n (A.deeper (cD "Board.exchange" (i9 W6) s.heap.objs.size f ay))) :
  {t:TS//fu (N8 J8 P w K mg base ["self","row","column","lead","pivot"] "Board.exchange" (i9 W6) f ay A outer s H E).oi (x9 W6) t} :=
 ⟨_,j0 (r6 (i:=3) Kh.nd rfl (fY rfl) (l8 j5 (y4 (pv 0) rfl) (pv 1) λ_ _=>rfl))
  (j0 (r6 (i:=4) Kh.nd rfl (aI rfl) (l8 j5 (pv 3) (pv 2) (λ_ _=>rfl)))
  (t8 (GA (pv 0) (N6 ["cells"] [0,2,3] rfl (C6 (y4 (pv 0) rfl)) (λ_ _ _ _=>j9 (i:=0) c0w rfl (aI rfl))
   (λ_ _ _ _=>Cs.c hr (c6 (pv 0) (c6 (pv 3) (c6 (pv 2) (c6 (Vf K rfl (pv 1) rfl) c7)))))) rfl)
  (j0 (D3 (j8 B9 (j8 B9 (B7 M0 (pv 3) G1 (B8 (pv 2))) (v9 (c6 (y4 (pv 0) rfl) c7))) (B7 M0 (pv 3) (B8 (j8 D4 (pv 2) d0)) G1)) (Gy (y4 (pv 0) rfl) (pv 1) O1))
  (j0 (GA (pv 0) (pv 4) rfl)
  (j4 (D3 (A9 (c6 (l8 j5 (y4 (pv 0) rfl) (pv 2) (λ_ _=>rfl)) (c6 (l8 j5 (y4 (pv 0) rfl) (pv 1) (λ_ _=>rfl)) c7)))
   (K4 rfl (p6 (Gy (y4 (pv 0) rfl) (pv 1) O1) (p6 (Gy (y4 (pv 0) rfl) (pv 2) O1) A4)))))))))⟩
end
def IY:V->aA
 |.ref a=>a
 |_=>0
theorem a7d(h:Sz 4000 m q S)(hi:i<m+1):∀x∈C8 q S i,fh 4000 x:=λx hx=>by
 unfold C8 at hx;obtain⟨j,hj,rfl⟩:=aY.mp hx;exact h.1 i j hi (fF.mp hj)
theorem a6E(F:df K "exchange" "Board.exchange" W6 f fd)(T:TB K C)(Cs:C9 P w K mg base n "swept" ["cells","lead","column","scale"] (Ws K) fb db) :
  bf P w K mg base J8 (n+1) f fd ["self","row","column"] (Sv C):=by
 refine F.oa Kh λay A outer s H vs Q E hr h=>?_;obtain⟨p,dx,ca,oa,ia,rs,m,q,S,r,c,rfl,B,hz,IW,hc,hm,hq,hd,k⟩:=h;refine⟨_,(exT Cs hr).2,?_⟩;obtain⟨rl,er,ar⟩:=B.yk (i:=r) (by lia);have GH:=B.row r rl er;have nrl:rl≠p:=J7 GH B.obj (by intro z;cases z);have Oc:oa≠p:=J7 B.out B.obj (by intro z;cases z);have L_:ia≠p:=J7 B.CS B.obj (by intro z;cases z);refine⟨_,rfl,p,C,dx,_,_,rfl,B.obj,T.cl,T.nC,rfl,_,rfl,ca,_,_,_,rfl,rfl,ah.of B.CQ,ar,_,rfl,_,rfl,rl,_,_,_,rfl,rfl,ah.of GH,LS (by lia),?_⟩;refine⟨λau H3=>∃(l:aA)(mq:List aA),au=[av (.ref p),av (.int r),av (.int c),av (.ref rl),av (.int (S.T r c))]/\H3 p=av (.ins C dx (bdF q S.d l oa ia))/\H3 l=av (.lst (mq.map V.ref))/\bx mq=m+1/\H l=bh/\
  (∀i a,mq[i]?=av a->H a=bh/\a≠l/\H3 a=av (.lst ((Kg (C8 q S i) (C8 q S r) c S.d).map V.int)))/\∀b o,b≠p->H b=av o->H3 b=av o,?_,?_⟩
 ·refine⟨_,rfl,p,C,dx,_,_,rfl,B.obj,T.cl,T.nC,rfl,ca,rfl,⟨_,ah.of B.CQ⟩,λl hl=>?_⟩;refine N5 (A3 (ah.of B.CQ)) hl (by rw[aH,B.len];exact t9 (by lia)) (λi y H2=>∃a,y=.ref a/\H a=bh/\a≠l/\H2 a=av (.lst ((Kg (C8 q S i) (C8 q S r) c S.d).map V.int)))
   (λi y H2 H3 ⟨a,h1,h2,h3,h4⟩ e=>⟨a,h1,h2,h3,e a _ h3 h4⟩) (λi x H2 ys N hx e j_ hN=>?_) (λys H2 e j_ len pr=>?_)
  ·rw[aP] at hx;cases IZ:rs[i]? with
   |none=>rw[IZ] at hx;cases hx
   |some a =>
    rw[IZ] at hx;have f':V.ref a=x:=bD hx;subst f';have hi:i<m+1:=by rw[<-B.len];exact(cA.mp IZ).1
    refine⟨Wk.set (by decide),_,rfl,_,rfl,_,rfl,_,rfl,p,C,dx,_,_,rfl,e _ _ B.obj,T.cl,T.nS,rfl,a,rl,c,S.d,C8 q S i,C8 q S r,rfl,ah.of (e _ _ (B.row i a IZ)),ah.of (e _ _ GH),by rw[K8,K8],by rw[K8];lia,by rw[K8];lia,hd,hz.2,a7d hz hi,a7d hz (by lia),λr' H3 s3 hn jx=>(hN _ _ s3 ⟨r',rfl,?_,λz=>?_,jx⟩)⟩
    ·cases q1:H r' with
     |none=>rfl
     |some o=>rw[e _ _ q1] at hn;cases hn
    ·rw[z,j_] at hn;cases hn
  ·have oy:=e _ _ B.obj;have Ep:p≠l:=i7 B.obj hl;refine⟨_,rfl,p,C,dx,_,rfl,oy,T.cl,T.nC,(by show 5<1000;decide),?_⟩;have Wu:ys=(ys.map IY).map V.ref:=by
    rw[bC];refine dR λi=>?_;rw[aP];cases qi:ys[i]? with
    |none=>rfl
    |some y =>
     obtain⟨a,rfl,_⟩:=pr i y qi;rfl
   refine⟨l,ys.map IY,rfl,ae,by rw[j3 Ep.symm,j_];rw[<-Wu],by rw[aH,len,aH,B.len],hl,λi a hi=>?_,λb o hb GI=>by rw[j3 hb];exact e _ _ GI⟩;rw[aP] at hi;cases qi:ys[i]? with
   |none=>rw[qi] at hi;cases hi
   |some y =>
    obtain⟨a',rfl,h2,h3,h4⟩:=pr i y qi;rw[qi] at hi;have:a'=a:=bD hi;subst this;refine⟨h2,h3,?_⟩;rw[j3 (λz=>by rw[z,oy] at h4;cases h4)];exact h4
 ·intro au H3 cw;refine E8 λG_ cy=>?_;obtain⟨l,mq,rfl,hp,hl,hlen,CU,Hx,hk⟩:=cw;subst cy;have zh:=hk rl _ nrl GH;have lr:bx ((C8 q S r).map V.int)=q+1:=by rw[aH,K8]
  refine⟨_,rfl,_,rfl,_,rfl,rl,_,rfl,ah.of zh,λa1 h1=>?_⟩;have e1:=af.new h1 (.lst (P5 ((C8 q S r).map V.int) bh (av (c:Int))));refine⟨_,rfl,p,C,dx,_,_,rfl,e1 _ _ hp,T.cl,T.nS,rfl,(by show 1<=sizeLine;decide),λa2 h2=>⟨a1,a2,_,_,rfl,rfl,(by rw[j3 (i7 ae h2)];exact ae),ae,?_,λa3 h3=>?_⟩⟩
  ·rw[NS _ _ (by rw[lr];lia),cI,lr];have:=t9 (show c+1<=1000 by lia);simp;lia
  have e3:=(e1.trans (af.new h2 (.lst [.int S.d]))).trans (af.new h3 (.lst (P5 ((C8 q S r).map V.int) bh (av (c:Int))++[.int S.d])));refine⟨_,rfl,_,rfl,_,_,rfl,rfl,_,rfl,rl,_,rfl,ah.of (e3 _ _ zh),λa4 h4=>?_⟩;have e4:=e3.trans (af.new h4 (.lst (P5 ((C8 q S r).map V.int) (av ((c:Int)+1)) bh)));have c1:P5 ((C8 q S r).map V.int) bh (av (c:Int))=((C8 q S r).map V.int).take c:=NS _ _ (by rw[lr];lia);have c2:P5 ((C8 q S r).map V.int) (av ((c:Int)+1)) bh=((C8 q S r).map V.int).drop (c+1):=by
   have:=NT ((C8 q S r).map V.int) (c+1) (by rw[lr];lia);rw[<-this];rfl
  refine⟨a3,a4,_,_,rfl,rfl,(by rw[j3 (i7 ae h4)];exact ae),ae,?_,λa5 h5=>?_⟩
  ·rw[c1,c2,aX,cI,eJ,lr];have:=t9 (show q+1<=1000 by lia);simp;lia
  have uw:(P5 ((C8 q S r).map V.int) bh (av (c:Int))++[.int S.d])++P5 ((C8 q S r).map V.int) (av ((c:Int)+1)) bh=(C8 q (Lp.fe S r c) r).map V.int:=by rw[c1,c2,b3n hc]
  have QZ:H3 a5=bh:=by
   cases z:H3 a5 with
   |none=>rfl
   |some o=>rw[e4 _ _ z] at h5;cases h5
  have e5:=e4.trans (af.new h5 (.lst ((P5 ((C8 q S r).map V.int) bh (av (c:Int))++[.int S.d])++P5 ((C8 q S r).map V.int) (av ((c:Int)+1)) bh)));have u5:∀H4:Hp,upd H4 a5 (.lst ((P5 ((C8 q S r).map V.int) bh (av (c:Int))++[.int S.d])++P5 ((C8 q S r).map V.int) (av ((c:Int)+1)) bh)) a5=av (.lst ((C8 q (Lp.fe S r c) r).map V.int)):=λH4=>ae.trans (congrArg (λz=>av (HO.lst z)) uw);have Q_:=hk oa _ Oc B.out;have Ra:=hk ia _ L_ B.CS;have Ep:l≠p:=(i7 B.obj CU).symm;have Er:l≠oa:=(i7 B.out CU).symm;have Rb:l≠ia:=(i7 B.CS CU).symm;have n5p:a5≠p:=(i7 hp QZ).symm;have n5l:a5≠l:=(i7 hl QZ).symm;have lrs:bx (mq.map V.ref)=m+1:=by rw[aH];exact hlen
  refine⟨_,rfl,p,C,dx,_,_,rfl,e5 _ _ hp,T.cl,T.nC,rfl,_,rfl,l,_,_,r,rfl,rfl,e5 _ _ hl,LZ (by rw[lrs];lia),_,rfl,_,rfl,p,C,dx,_,rfl,(by rw[j3 Ep.symm];exact e5 _ _ hp),T.cl,T.nS,(by show 5<1000;decide),_,rfl,p,C,dx,_,_,rfl,ae,T.cl,T.nO,rfl,_,rfl,oa,_,_,_,rfl,rfl,ah.of (by rw[j3 Oc,j3 Er.symm];exact e5 _ _ Q_),Wq hc,_,rfl,p,C,dx,_,_,rfl,ae,T.cl,T.nI,rfl,_,rfl,ia,_,_,_,rfl,rfl,ah.of (by rw[j3 L_,j3 Rb.symm];exact e5 _ _ Ra),QY IW,(by show 2<=sizeLine;decide),λt ht=>?_⟩;have Rc:t≠p:=(i7 ae ht).symm;have ntl:t≠l:=by
   refine(i7 (H:=_) (o:=.lst ((mq.map V.ref).set r (.ref a5))) ?_ ht).symm;rw[j3 Ep,ae]
  have nto:t≠oa:=by
   refine(i7 (H:=_) (o:=.lst ((R4 q S).map V.int)) ?_ ht).symm;rw[j3 Oc,j3 Er.symm];exact e5 _ _ Q_
  have nti:t≠ia:=by
   refine(i7 (H:=_) (o:=.lst ((Y9 m S).map V.int)) ?_ ht).symm;rw[j3 L_,j3 Rb.symm];exact e5 _ _ Ra
  refine⟨t,_,rfl,cq.of ae,rfl,_,_,rfl,_,rfl,p,C,dx,_,_,rfl,(by rw[j3 Rc.symm];exact ae),T.cl,T.nI,rfl,_,rfl,ia,_,_,r,rfl,rfl,(by rw[j3 nti.symm,j3 L_,j3 Rb.symm];exact e5 _ _ Ra),LZ (by unfold Y9;simp;lia),_,_,rfl,_,rfl,p,C,dx,_,_,rfl,(by rw[j3 L_.symm,j3 Rc.symm];exact ae),T.cl,T.nO,rfl,_,rfl,oa,_,_,c,rfl,rfl,(by rw[j3 B.ne,j3 nto.symm,j3 Oc,j3 Er.symm];exact e5 _ _ Q_),LZ (by unfold R4;simp;lia),rfl,k _ l (mq.set r a5) ⟨?_,?_,by rw[eE];exact hlen,λi a hi=>?_,?_,?_,B.ne⟩ λb o hb GI Ma hH=>?_⟩
  ·rw[j3 Oc.symm,j3 L_.symm,j3 Rc.symm,ae];rfl
  ·rw[j3 Er,j3 Rb,j3 ntl.symm,j3 Ep,ae,rZ]
  ·by_cases Wv:i=r
   ·subst Wv;rw[eK (by rw[hlen];lia)] at hi;have:a5=a:=bD hi;subst this;have n5t:a5≠t:=by
     refine i7 (H:=_) (o:=.lst ((C8 q (Lp.fe S i c) i).map V.int)) ?_ ht;rw[j3 n5p,j3 n5l];exact u5 _
    rw[j3 ((i7 Q_ QZ).symm),j3 ((i7 Ra QZ).symm),j3 n5t,j3 n5p,j3 n5l];exact u5 _
   ·rw[dP (bV Wv)] at hi;obtain⟨g1,g2,g3⟩:=Hx i a hi;have nap:a≠p:=(i7 B.obj g1).symm;have g5:=e5 _ _ g3;have nat:a≠t:=by
     refine i7 (H:=_) (o:=.lst ((Kg (C8 q S i) (C8 q S r) c S.d).map V.int)) ?_ ht;rw[j3 nap,j3 g2];exact g5
    rw[j3 ((i7 B.out g1).symm),j3 ((i7 B.CS g1).symm),j3 nat,j3 nap,j3 g2,<-b0N Wv hc];exact g5
  ·rw[ae,b1A hc]
  ·rw[j3 B.ne.symm,ae,b4t IW]
  ·have h3:=hk b o hb hH;have nbl:b≠l:=i7 hH CU;have nbt:b≠t:=by
    refine i7 (H:=_) (o:=o) ?_ ht;rw[j3 hb,j3 nbl];exact e5 _ _ h3
   rw[j3 GI,j3 Ma,j3 nbt,j3 hb,j3 nbl];exact e5 _ _ h3
theorem Ww:∀{n},(∀k,k<n->g k=0)->Lp.sumTo g n=0
 |0,_=>rfl
 |n+1,h=>by
  show Lp.sumTo g n+g n=0;rw[Ww λk hk=>h k (by lia),h n (by lia)];rfl
def Rf(q:Nat)(S:Lp.Bo)(k v:Nat):Int:=Lp.sumTo (λi=>if S.ins i=v then S.T i q else 0) k
def Rg(m:Nat)(S:Lp.Bo)(k v:Nat):Int:=Lp.sumTo (λj=>if S.outs j=v then S.T m j else 0) k
def v7(m q:Nat)(S:Lp.Bo):List Int:=(aW q).map λv=>Lp.cg m S q v
def K1(m q:Nat)(S:Lp.Bo):List Int:=(aW m).map λi=>Lp.aq m q S (q+i)
theorem a6U k:(aQ k [V.int 0]).flatten=(aW k).map λ_=>V.int 0:=by
 induction k with
 |zero=>rfl
 |succ k ih=>rw[List.replicate_succ',List.flatten_append,ih,pE,bQ];rfl
theorem b1x{F G:Nat->Int}(hv:G v=x)(h:∀u,u<n->u≠v->F u=G u):((aW n).map λu=>V.int (F u)).set v (.int x)=(aW n).map λu=>V.int (G u):=by
 refine dR λj=>?_;by_cases hj:j<n
 ·by_cases e:j=v
  ·subst e;rw[eK (by simp;lia),aP,cU hj,jV,hv]
  ·rw[dP (bV e),aP,aP,cU hj,jV,jV,h j hj e]
 ·rw[bW (by simp;lia),bW (by simp;lia)]
inductive Sx(C:aA)(vs:List V)(H:Hp)(Q:VK)(dj:XK):Prop|mk:∀p dx ca oa ia rs m q S,vs=[.ref p]->Bd C H p dx ca oa ia rs m q S->m<900->q<900->(∀i k,i<m->k<m->S.ins i=S.ins k->i=k)->(∀r H',af H H'->H r=bh->H' r=av (.lst ((v7 m q S).map V.int))->Q (.ref r) H')->Sx C vs H Q dj
def wu:p7 ["self","told","row","number"] ["self"] (i9 Wl):={}
theorem b4W(F:df K "amounts" "Board.amounts" Wl f fd)(N:v8 mg)(T:TB K C):bf P w K mg base J8 (n+1) f fd ["self"] (Sx C):=by
 refine F.oa wu λay A outer s H vs Q E hr h=>?_;obtain⟨p,dx,ca,oa,ia,rs,m,q,S,rfl,B,hm,hq,inj,k⟩:=h;refine⟨_,j0 (r6 (i:=1) wu.nd rfl (aI rfl) (j8 Q6 (v9 (c6 d0 c7)) (y4 (pv 0) rfl)))
  (j0 (IF hO rfl (zK K rfl rfl N.enum (c6 (y4 (pv 0) rfl) c7)) (IX K (n:=2) rfl rfl (p6 (j9 (i:=2) wu.nd rfl (aI rfl)) (p6 (j9 (i:=3) wu.nd rfl (aI rfl)) A4)))
   (j4 (w6 (l5 EI (pv 3) (y4 (pv 0) rfl) (r9 _)) (j4 (D3 (l8 j5 (l8 j5 (y4 (pv 0) rfl) (pv 2) (λ_ _=>rfl)) (Eh V2 d0) (λ_ _=>rfl)) (Gy (pv 1) (pv 3) O1))) r8)))
  (j4 (o4 (pv 1)))),?_⟩
 have sl:=t9 (show q<=1000 by lia);refine⟨(by show 1<=sizeLine;decide),λz hz=>?_⟩;have ez:=af.new hz (.lst [.int 0]);refine⟨_,rfl,p,C,dx,_,_,rfl,ez _ _ B.obj,T.cl,T.nM,rfl,z,_,_,rfl,rfl,ae,by lia,by lia,(by rw[cF];simp;lia),λtl Hz=>?_⟩;rw[cF,a6U];have Ki:H tl=bh:=by
  cases q1:H tl with
  |none=>rfl
  |some o=>rw[ez _ _ q1] at Hz;cases Hz
 have e0:af H (upd (upd H z (.lst [.int 0])) tl (.lst ((aW q).map λ_=>V.int 0))):=ez.write Ki;refine⟨_,rfl,p,C,dx,_,_,rfl,e0 _ _ B.obj,T.cl,T.nI,rfl,ia,rfl,⟨_,ah.of (e0 _ _ B.CS)⟩,?_⟩;have li:bx ((Y9 m S).map V.int)=m:=by unfold Y9;simp
 refine a7e (xs:=(Y9 m S).map V.int) (i1:=2) (i2:=3) (λj σ H'=>∃o2 o3:Option V,σ=[av (.ref p),av (.ref tl),o2,o3]/\af H H'/\H' tl=av (.lst ((aW q).map λv=>V.int (Rf q S j v))))
  ⟨_,_,rfl,e0,by rw[ae];rfl⟩ (λj σ H' ⟨_,_,_,e,_⟩=>ah.of (e _ _ B.CS)) ?_ ?_
 ·rintro j x σ H1 qq hx ⟨o2,o3,rfl,e1,ht⟩ Wx;have hj:j<m:=by rw[<-li];exact(cA.mp hx).1
  have f':x=.int (S.ins j):=by
   have:=(A2 hx).symm.trans (QY (S:=S) hj);exact bD this
  subst f';have s1:=af.new Wx (.tup [V.int (j:Int),.int (S.ins j)]);have e2:=e1.trans s1;have Kj:=s1 _ _ ht;refine⟨_,rfl,_,rfl,p,C,dx,_,_,rfl,e2 _ _ B.obj,T.cl,T.nM,rfl,_,_,rfl,rfl,_,rfl,?_⟩;have st:∀v,Rf q S (j+1) v=Rf q S j v+(if S.ins j=v then S.T j q else 0):=λv=>rfl;refine y6 (λd=>?_) (λd=>?_)
  ·have d':S.ins j<q:=by have:=of_decide_eq_true d;lia
   obtain⟨rj,erj,arj⟩:=B.yk (i:=j) (by lia);refine⟨_,rfl,p,C,dx,_,_,rfl,e2 _ _ B.obj,T.cl,T.nC,rfl,_,rfl,ca,_,_,_,rfl,rfl,ah.of (e2 _ _ B.CQ),arj,_,rfl,rj,_,_,_,rfl,rfl,ah.of (e2 _ _ (B.row j rj erj)),QX,_,rfl,_,rfl,tl,_,_,S.ins j,rfl,rfl,Kj,LZ (by simp;lia),_,_,rfl,e2.write Ki,?_⟩;rw[ae];congr 2;refine b1x ?_ λu hu mm=>?_
   ·rw[st,if_pos rfl];have:Rf q S j (S.ins j)=0:=Ww λi hi=>if_neg λz=>absurd (inj i j (by lia) hj z) (by lia);rw[this];lia
   ·rw[st,if_neg (bV mm)];lia
  ·have d':¬S.ins j<q:=λz=>d (decide_eq_true (by lia));refine⟨_,_,rfl,e2,?_⟩;rw[Kj];congr 2;refine fM λv hv=>?_;rw[st,if_neg (λz=>d' (by rw[z];exact fF.mp hv)),gK]
 ·intro σ H1 cw;refine E8 λG_ cy=>?_;obtain⟨o2,o3,rfl,e1,ht⟩:=cw;subst cy;rw[li] at ht;refine⟨_,rfl,k tl H1 e1 Ki ?_⟩;rw[ht];unfold v7;rw[bC];rfl
inductive SF(C:aA)(vs:List V)(H:Hp)(Q:VK)(dj:XK):Prop|mk:∀p dx ca oa ia rs m q S,vs=[.ref p]->Bd C H p dx ca oa ia rs m q S->m<900->q<900->(∀j k,j<q->k<q->S.outs j=S.outs k->j=k)->(∀j,j<q->S.outs j<q+m)->(∀r H',af H H'->H r=bh->H' r=av (.lst ((K1 m q S).map V.int))->Q (.ref r) H')->SF C vs H Q dj
def BL:p7 ["self","told","column","number"] ["self"] (i9 Wm):={}
theorem b7Y(F:df K "weights" "Board.weights" Wm f fd)(N:v8 mg)(T:TB K C):bf P w K mg base J8 (n+1) f fd ["self"] (SF C):=by
 refine F.oa BL λay A outer s H vs Q E hr h=>?_;obtain⟨p,dx,ca,oa,ia,rs,m,q,S,rfl,B,hm,hq,inj,ob,k⟩:=h;refine⟨_,j0 (r6 (i:=1) BL.nd rfl (aI rfl) (j8 Q6 (v9 (c6 d0 c7)) (j7 j6 rfl N.len bB (c6 (y4 (pv 0) rfl) c7))))
  (j0 (IF hO rfl (zK K rfl rfl N.enum (c6 (y4 (pv 0) rfl) c7)) (IX K (n:=2) rfl rfl (p6 (j9 (i:=2) BL.nd rfl (aI rfl)) (p6 (j9 (i:=3) BL.nd rfl (aI rfl)) A4)))
   (j4 (w6 (l5 Qb (pv 3) (y4 (pv 0) rfl) (r9 _)) (j4 (D3 (l8 j5 (l8 j5 (y4 (pv 0) rfl) (Eh V2 d0) (λ_ _=>rfl)) (pv 2) (λ_ _=>rfl)) (Gy (pv 1) (j8 IH (pv 3) (y4 (pv 0) rfl)) O1))) r8)))
  (j4 (o4 (pv 1)))),?_⟩
 have sl:=t9 (show m<=1000 by lia);have li:bx ((Y9 m S).map V.int)=m:=by unfold Y9;simp
 have lo:bx ((R4 q S).map V.int)=q:=by unfold R4;simp
 refine⟨(by show 1<=sizeLine;decide),λz hz=>?_⟩;have ez:=af.new hz (.lst [.int 0]);refine⟨_,rfl,p,C,dx,_,_,rfl,ez _ _ B.obj,T.cl,T.nI,rfl,ia,_,rfl,.inl (ah.of (ez _ _ B.CS)),z,_,_,rfl,rfl,ae,by lia,by lia,(by rw[li,cF];simp;lia),λtl Hz=>?_⟩;rw[li,cF,a6U];have Ki:H tl=bh:=by
  cases q1:H tl with
  |none=>rfl
  |some o=>rw[ez _ _ q1] at Hz;cases Hz
 have e0:af H (upd (upd H z (.lst [.int 0])) tl (.lst ((aW m).map λ_=>V.int 0))):=ez.write Ki;refine⟨_,rfl,p,C,dx,_,_,rfl,e0 _ _ B.obj,T.cl,T.nO,rfl,oa,rfl,⟨_,ah.of (e0 _ _ B.out)⟩,?_⟩;refine a7e (xs:=(R4 q S).map V.int) (i1:=2) (i2:=3) (λj σ H'=>∃o2 o3:Option V,σ=[av (.ref p),av (.ref tl),o2,o3]/\af H H'/\H' tl=av (.lst ((aW m).map λv=>V.int (Rg m S j (q+v)))))
  ⟨_,_,rfl,e0,by rw[ae];rfl⟩ (λj σ H' ⟨_,_,_,e,_⟩=>ah.of (e _ _ B.out)) ?_ ?_
 ·rintro j x σ H1 qq hx ⟨o2,o3,rfl,e1,ht⟩ Wx;have hj:j<q:=by rw[<-lo];exact(cA.mp hx).1
  have f':x=.int (S.outs j):=by
   have:=(A2 hx).symm.trans (Wq (S:=S) hj);exact bD this
  subst f';have s1:=af.new Wx (.tup [V.int (j:Int),.int (S.outs j)]);have e2:=e1.trans s1;have Kj:=s1 _ _ ht;refine⟨_,rfl,_,rfl,p,C,dx,_,_,rfl,e2 _ _ B.obj,T.cl,T.nM,rfl,_,_,rfl,rfl,_,rfl,?_⟩;have st:∀v,Rg m S (j+1) v=Rg m S j v+(if S.outs j=v then S.T m j else 0):=λv=>rfl;have hob:=ob j hj;refine y6 (λd=>?_) (λd=>?_)
  ·have d':q<=S.outs j:=by have:=of_decide_eq_true d;lia
   obtain⟨rm,erm,arm⟩:=B.wo;refine⟨_,rfl,p,C,dx,_,_,rfl,e2 _ _ B.obj,T.cl,T.nC,rfl,_,rfl,ca,_,_,_,rfl,rfl,ah.of (e2 _ _ B.CQ),arm,_,rfl,rm,_,_,_,rfl,rfl,ah.of (e2 _ _ (B.row m rm erm)),LS (by lia),_,rfl,_,rfl,_,rfl,p,C,dx,_,_,rfl,e2 _ _ B.obj,T.cl,T.nM,rfl,_,_,rfl,rfl,tl,_,_,S.outs j-q,rfl,rfl,Kj,?_,?_⟩
   ·rw[show((S.outs j:Int)-(q:Int))=((S.outs j-q:Nat):Int) by lia];exact LZ (by simp;lia)
   refine⟨_,_,rfl,e2.write Ki,?_⟩;rw[ae];congr 2;refine b1x ?_ λu hu mm=>?_
   ·rw[st,if_pos (by lia)];have:Rg m S j (q+(S.outs j-q))=0:=Ww λi hi=>if_neg λz=>absurd (inj i j (by lia) hj (by lia)) (by lia);rw[this];lia
   ·rw[st,if_neg (by lia)];lia
  ·have d':¬q<=S.outs j:=λz=>d (decide_eq_true (by lia));refine⟨_,_,rfl,e2,?_⟩;rw[Kj];congr 2;refine fM λv hv=>?_;rw[st,if_neg (by lia),gK]
 ·intro σ H1 cw;refine E8 λG_ cy=>?_;obtain⟨o2,o3,rfl,e1,ht⟩:=cw;subst cy;rw[lo] at ht;refine⟨_,rfl,k tl H1 e1 Ki ?_⟩;rw[ht];unfold K1;rw[bC];rfl
def Y8(rows:List (List Int)):Nat->Nat->Int:=λi j=>(rows.getD i []).getD j 0
def M2(l:List Int):Nat->Int:=λi=>l.getD i 0
abbrev si(K:aF)(H:Hp):List V->List (List Int)->Prop:=bR λv row=>∃a,v=.ref a/\ah K H a (row.map V.int)
section
variable{P:aM}{w:aL}{K:aF}{mg:aC->Option aE}{base:aJ}{f g c Pt:aA}{fd gd:aK}{n:Nat}{C:aA}
inductive SJ(K:aF)(C:aA)(vs:List V)(H:Hp)(Q:VK)(dj:XK):Prop|mk:∀p dx ga ra ba goal Es rows bounds m q,vs=[.ref p,.ref ga,.ref ra,.ref ba]->H p=av (.ins C dx [])->ah K H ga (goal.map V.int)->ah K H ra Es->si K H Es rows->ah K H ba (bounds.map V.int)->bx rows=m->bx bounds=m->bx goal=q->(∀r∈rows,bx r=q)->m<900->q<900->(∀H' ca oa ia rs,Bd C H' p dx ca oa ia rs m q (Lp.S0 m q (Y8 rows) (M2 bounds) (M2 goal))->(∀b o,b≠p->H b=av o->H' b=av o)->H oa=bh->H ia=bh->Q .non H')->SJ K C vs H Q dj
def b8b:p7 ["self","goal","rows","bounds"] ["self","goal","rows","bounds"] (i9 Ob):={}
theorem b9C:(["row","bound"]:List aC).Nodup:=by decide
theorem c0F:(["one"]:List aC).Nodup:=by simp
def b9e(N:v8 mg) :
  {t:TS//fu (N8 J8 P w K mg base ["self","goal","rows","bounds"] "Board.__init__" (i9 Ob) f ay A outer s H E).oi (x9 Ob) t} :=
 ⟨_,j0 (GA (pv 0) (j7 j6 rfl N.len bB (c6 (pv 1) c7)) rfl)
  (j0 (GA (pv 0) d0 rfl)
  (t8 (GA (pv 0) (N6 ["row","bound"] [] rfl (QI true true K rfl rfl N.zip (c6 (pv 2) (c6 (pv 3) c7)))
   (λ_ _ _ _=>IX K (n:=2) rfl rfl (p6 (j9 (i:=0) b9C rfl (aI rfl)) (p6 (j9 (i:=1) b9C rfl (aI rfl)) A4)))
   (λ_ _ _ _=>j8 B9 (v5 (Wo K rfl) rfl N.list fJ (c6 (pv 0) c7)) (v9 (c6 (pv 1) c7)))) rfl)
  (t8 (R3 (K7 iK jW jX P2 (y4 (pv 0) rfl)
   (c6 (j8 B9 (N6 ["one"] [] rfl (C6 (pv 1)) (λ_ _ _ _=>j9 (i:=0) c0F rfl (aI rfl)) (λ_ _ _ _=>Eh V2 (pv 0))) (v9 (c6 d0 c7))) c7)))
  (j0 (GA (pv 0) (v5 (Ry rfl) rfl N.list fJ (c6 (v5 Qu rfl N.range xD (c6 (y4 (pv 0) rfl) c7)) c7)) rfl)
  (j4 (GA (pv 0) (v5 (Ry rfl) rfl N.list fJ (c6 (v5 b0n rfl N.range xD (c6 (y4 (pv 0) rfl) (c6 (j8 D4 (y4 (pv 0) rfl) (j7 j6 rfl N.len bB (c6 (pv 2) c7))) c7))) c7)) rfl))))))⟩
end
theorem b7g(hr:rows[i]?=av row)(hb:bounds[i]?=av b)(hl:bx row=q)(hi:i<m) :
  row++[b]=C8 q (Lp.S0 m q (Y8 rows) (M2 bounds) (M2 goal)) i:=by
 refine dR λj=>?_;unfold C8;by_cases hj:j<q+1
 ·rw[aP,cU hj,jV];have hT:(Lp.S0 m q (Y8 rows) (M2 bounds) (M2 goal)).T i j=if j<q then Y8 rows i j else M2 bounds i:=by
   show(if j<q then (if i<m then _ else _) else (if i<m then _ else _))=_;rw[if_pos hi,if_pos hi]
  rw[hT];by_cases h:j<q
  ·rw[dH (by lia),if_pos h];unfold Y8;rw[bA,bA,hr,iG,aS (by lia),iG]
  ·rw[dU (by lia),if_neg h,hl,show j-q=0 by lia];unfold M2;rw[bA,hb];rfl
 ·rw[bW (by simp;lia),bW (by simp;lia)]
theorem b4P(hl:bx goal=q):goal.map (λx=>-x)++[0]=C8 q (Lp.S0 m q (Y8 rows) (M2 bounds) (M2 goal)) m:=by
 refine dR λj=>?_;unfold C8;by_cases hj:j<q+1
 ·rw[aP,cU hj,jV];have hT:(Lp.S0 m q (Y8 rows) (M2 bounds) (M2 goal)).T m j=if j<q then-M2 goal j else 0:=by
   show(if j<q then (if m<m then _ else _) else (if m<m then _ else _))=_;rw[if_neg (dO _),if_neg (dO _)]
  rw[hT];by_cases h:j<q
  ·rw[dH (by simp;lia),if_pos h,aP];unfold M2;rw[bA,aS (by lia),jV,iG]
  ·rw[dU (by simp;lia),if_neg h,aH,hl,show j-q=0 by lia];rfl
 ·rw[bW (by simp;lia),bW (by simp;lia)]
theorem b4B:((aW q).map λ(i:Nat)=>V.int (0+(i:Int)))=(R4 q (Lp.S0 m q A b c)).map V.int:=by
 unfold R4;rw[bC];refine fM λj hj=>?_;have h:(Lp.S0 m q A b c).outs j=j:=if_pos (fF.mp hj);simp[h]
theorem b7h{q:Nat}:((aW m).map λ(i:Nat)=>V.int ((q:Int)+(i:Int)))=(Y9 m (Lp.S0 m q A b c)).map V.int:=by
 unfold Y9;rw[bC];refine fM λj hj=>?_;have h:(Lp.S0 m q A b c).ins j=q+j:=rfl;simp[h]
theorem I_(hp:H p=av (.ins C dx fs))(e:∀b o,b≠p->H b=av o->H' b=av o)(h:ah K H a xs):ah K H' a xs:=by
 rcases h with(h|⟨o,h⟩)|h
 ·exact .inl (.inl (e _ _ (J7 h hp (by simp)) h))
 ·exact .inl (.inr ⟨o,e _ _ (J7 h hp (by lia)) h⟩)
 ·exact .inr h
theorem b4m(F:df K "__init__" "Board.__init__" Ob f fd)(N:v8 mg)(T:TB K C):bf P w K mg base J8 (n+1) f fd ["self","goal","rows","bounds"] (SJ K C):=by
 refine F.oa b8b λay A outer s H vs Q E hr h=>?_;obtain⟨p,dx,ga,ra,ba,goal,Es,rows,bounds,m,q,rfl,hp,hg,Et,Rh,ym,lr,lb,lg,GH,hm,hq,k⟩:=h;refine⟨_,(b9e N).2,?_⟩;have lv:bx Es=m:=by rw[<-lr];exact dE Rh
 have k1:∀b o,b≠p->H b=av o->upd (upd H p (.ins C dx [("many",.int q)])) p (.ins C dx [("many",.int q),("scale",.int 1)]) b=av o:=λb o hb e=>by rw[j3 hb,j3 hb];exact e
 refine⟨_,rfl,ga,_,rfl,.inl hg,_,rfl,p,C,dx,_,rfl,hp,T.cl,T.nM,by decide,?_⟩;rw[aH,lg];refine⟨_,rfl,p,C,dx,_,rfl,ae,T.cl,T.nS,(by show 1<1000;decide),?_⟩;refine⟨λau H4=>∃(l:aA)(rs:List aA),au=[av (.ref p),av (.ref ga),av (.ref ra),av (.ref ba)]/\H4 p=av (.ins C dx [("many",.int q),("scale",.int 1),("cells",.ref l)])/\H4 l=av (.lst (rs.map V.ref))/\bx rs=m/\H l=bh/\
  (∀i a,rs[i]?=av a->a≠l/\H4 a=av (.lst ((C8 q (Lp.S0 m q (Y8 rows) (M2 bounds) (M2 goal)) i).map V.int)))/\∀b o,b≠p->H b=av o->H4 b=av o,?_,?_⟩
 ·refine⟨_,rfl,_,rfl,ra,ba,rfl,⟨_,I_ hp k1 Et⟩,⟨_,I_ hp k1 ym⟩,λl hl=>?_⟩;have Ep:p≠l:=i7 ae hl;have CU:H l=bh:=by
   rw[j3 Ep.symm,j3 Ep.symm] at hl;exact hl
  refine QJ (I_ hp k1 Et) (I_ hp k1 ym) hl (by rw[lv];exact t9 (by lia)) (λi y H2=>∃a,y=.ref a/\a≠l/\H2 a=av (.lst ((C8 q (Lp.S0 m q (Y8 rows) (M2 bounds) (M2 goal)) i).map V.int)))
   (λi y H2 H3 ⟨a,h1,h2,h3⟩ e=>⟨a,h1,h2,e a _ h2 h3⟩) (λi x y H2 zs N' hx hy e j_ hN=>?_) (λzs H2 e j_ len pr=>?_)
  ·obtain⟨row,uw,⟨a,rfl,ha⟩⟩:=aZ.at Rh hx;rw[aP] at hy;cases Ma:bounds[i]? with
   |none=>rw[Ma] at hy;cases hy
   |some b =>
    rw[Ma] at hy;have T_:V.int b=y:=bD hy;subst T_;have hi:i<m:=by rw[<-lb];exact(cA.mp Ma).1
    have hlen:=GH row (bK uw);refine⟨_,rfl,a,_,rfl,.inl (e.seq (I_ hp k1 ha)),λa1 h1=>?_⟩;have s1:=af.new h1 (.lst (row.map V.int));refine⟨_,rfl,(by show 1<=sizeLine;decide),λa2 h2=>?_⟩;have s2:=s1.trans (af.new h2 (.lst [.int b]));refine⟨a1,a2,_,_,rfl,rfl,(by rw[j3 (i7 ae h2)];exact ae),ae,?_,λa3 h3=>?_⟩
    ·rw[aH,hlen];have:=t9 (show q+1<=1000 by lia);simp;lia
    ·refine hN _ _ (s2.trans (af.new h3 _)) ⟨a3,rfl,λz=>?_,?_⟩
     ·rw[z,s2 _ _ j_] at h3;cases h3
     ·rw[ae,<-b7g uw Ma hlen hi,bQ];rfl
  ·have oy:=e _ _ (ae (H:=upd H p (.ins C dx [("many",.int q)])) (a:=p) (o:=.ins C dx [("many",.int q),("scale",.int 1)]));refine⟨_,rfl,p,C,dx,_,rfl,oy,T.cl,T.nC,(by show 2<1000;decide),?_⟩;have Wy:zs=(zs.map IY).map V.ref:=by
    rw[bC];refine dR λi=>?_;rw[aP];cases qi:zs[i]? with
    |none=>rfl
    |some y =>
     obtain⟨a,rfl,_⟩:=pr i y qi;rfl
   refine⟨l,zs.map IY,rfl,ae,by rw[j3 Ep.symm,j_];rw[<-Wy],by rw[aH,len,lv,aH,lb];lia,CU,λi a hi=>?_,λb o hb GI=>by rw[j3 hb];exact e _ _ (k1 b o hb GI)⟩;rw[aP] at hi;cases qi:zs[i]? with
   |none=>rw[qi] at hi;cases hi
   |some y =>
    obtain⟨a',rfl,h2,h3⟩:=pr i y qi;rw[qi] at hi;have:a'=a:=bD hi;subst this;refine⟨h2,?_⟩;rw[j3 (λz=>by rw[z,oy] at h3;cases h3)];exact h3
 intro au H4 cw;refine E8 λG_ cy=>?_;obtain⟨l,rs,rfl,Mc,Od,hlen,CU,Hx,hk⟩:=cw;subst cy;have Ep:l≠p:=(i7 hp CU).symm;refine⟨λau H5=>∃mq:List aA,au=[av (.ref p),av (.ref ga),av (.ref ra),av (.ref ba)]/\H5 p=av (.ins C dx [("many",.int q),("scale",.int 1),("cells",.ref l)])/\H5 l=av (.lst (mq.map V.ref))/\bx mq=m+1/\
  (∀i a,mq[i]?=av a->a≠l/\H5 a=av (.lst ((C8 q (Lp.S0 m q (Y8 rows) (M2 bounds) (M2 goal)) i).map V.int)))/\∀b o,b≠p->H b=av o->H5 b=av o,?_,?_⟩
 ·refine⟨_,rfl,p,C,dx,_,_,rfl,Mc,T.cl,T.nC,rfl,.inl ⟨rfl,_,ah.of Od⟩,?_⟩;have hg4:=I_ hp hk hg;refine⟨_,rfl,ga,rfl,⟨_,hg4⟩,λa1 h1=>(O9 (A3 hg4) h1 (by rw[aH,lg];exact t9 (by lia)) (λx=>.int (-(vI x))) (λi x H' N' hx e hN=>?_) ?_)⟩
  ·obtain⟨x',rfl,_⟩:=LY hx;exact⟨Wk.set (by decide),_,rfl,_,rfl,hN⟩
  have eg:(goal.map V.int).map (λx=>V.int (-(vI x)))=(goal.map λx=>-x).map V.int:=by rw[bC,bC];rfl
  rw[eg];have s1:=af.new h1 (.lst ((goal.map λx=>-x).map V.int));refine⟨(by show 1<=sizeLine;decide),λa2 h2=>?_⟩;have s2:=s1.trans (af.new h2 (.lst [.int 0]));refine⟨a1,a2,_,_,rfl,rfl,(by rw[j3 (i7 ae h2)];exact ae),ae,?_,λa3 h3=>?_⟩
  ·rw[aH,aH,lg];have:=t9 (show q+1<=1000 by lia);simp;lia
  have s3:=s2.trans (af.new h3 (.lst ((goal.map λx=>-x).map V.int++[.int 0])));refine⟨l,_,_,rfl,rfl,s3 _ _ Od,(by rw[aH,hlen];exact t9 (by lia)),?_⟩;have n3l:a3≠l:=λz=>by rw[z,s2 _ _ Od] at h3;cases h3
  have n3p:a3≠p:=λz=>by rw[z,s2 _ _ Mc] at h3;cases h3
  refine⟨rs++[a3],rfl,by rw[j3 Ep.symm];exact s3 _ _ Mc,by rw[ae,bQ];rfl,by rw[aX,hlen];rfl,λi a hi=>?_,λb o hb GI=>by rw[j3 (i7 GI CU)];exact s3 _ _ (hk b o hb GI)⟩;by_cases him:i<m
  ·rw[dH (by lia)] at hi;obtain⟨g1,g2⟩:=Hx i a hi;exact⟨g1,by rw[j3 g1];exact s3 _ _ g2⟩
  ·rw[dU (by lia)] at hi;have yz:i-bx rs=0:=by grind
   rw[yz] at hi;have:a3=a:=bD hi;subst this;have:i=m:=by lia
   subst this;refine⟨n3l,?_⟩;rw[j3 n3l,ae,<-b4P lg,bQ];rfl
 intro au H5 cw;refine E8 λG_ cy=>?_;obtain⟨mq,rfl,Oe,uJ,BN,Og,Oh⟩:=cw;subst cy;refine⟨_,rfl,p,C,dx,_,_,rfl,Oe,T.cl,T.nM,rfl,q,rfl,λr1 h1=>?_⟩;have s1:=af.new h1 (.zt 0 (q:Int));refine⟨r1,0,q,rfl,by rw[ae,lH],by lia,by lia,by lia,λoa Md=>?_⟩;have s2:=s1.trans (af.new Md (.lst ((aW q).map λ(i:Nat)=>V.int (0+(i:Int)))));have Oi:H5 oa=bh:=by
  cases z:H5 oa with
  |none=>rfl
  |some o=>rw[s1 _ _ z] at Md;cases Md
 have Oj:oa≠p:=(i7 Oe Oi).symm;refine⟨_,rfl,p,C,dx,_,rfl,s2 _ _ Oe,T.cl,T.nO,(by show 3<1000;decide),?_⟩;have lp5:ah K (upd (upd (upd H5 r1 (.zt 0 (q:Int))) oa (.lst ((aW q).map λ(i:Nat)=>V.int (0+(i:Int))))) p (.ins C dx [("many",.int q),("scale",.int 1),("cells",.ref l),("outs",.ref oa)])) ra Es :=
  I_ (s2 _ _ Oe) (λb o hb e=>by rw[j3 hb];exact e) (s2.seq (I_ hp Oh Et))
 refine⟨_,rfl,p,C,dx,_,_,rfl,ae,T.cl,T.nM,rfl,_,rfl,p,C,dx,_,_,rfl,ae,T.cl,T.nM,rfl,_,rfl,ra,_,rfl,.inl lp5,_,_,rfl,rfl,_,_,rfl,λr2 h2=>?_⟩;rw[lv];refine⟨r2,(q:Int),m,rfl,ae,by lia,by lia,by lia,λia Me=>?_⟩;have n2p:r2≠p:=(i7 ae h2).symm;have Ol:ia≠p:=by
  refine(i7 (H:=_) (o:=.ins C dx [("many",.int q),("scale",.int 1),("cells",.ref l),("outs",.ref oa)]) ?_ Me).symm;rw[j3 n2p.symm,ae];rfl
 have oa6:∀o,upd (upd (upd H5 r1 (.zt 0 (q:Int))) oa o) p (.ins C dx [("many",.int q),("scale",.int 1),("cells",.ref l),("outs",.ref oa)]) oa=av o:=λo=>by rw[j3 Oj,ae]
 have n2o:r2≠oa:=(i7 (oa6 _) h2).symm;have nio:ia≠oa:=by
  refine(i7 (H:=_) (o:=.lst ((aW q).map λ(i:Nat)=>V.int (0+(i:Int)))) ?_ Me).symm;rw[j3 n2o.symm];exact oa6 _
 have up:∀b o,b≠p->H5 b=av o->b≠ia/\b≠r2/\upd (upd H5 r1 (.zt 0 (q:Int))) oa (.lst ((aW q).map λ(i:Nat)=>V.int (0+(i:Int)))) b=av o:=λb o hb e=>by
  have e2:=s2 _ _ e;have nb2:b≠r2:=by
   refine i7 (H:=_) (o:=o) ?_ h2;rw[j3 hb];exact e2
  refine⟨i7 (H:=_) (o:=o) ?_ Me,nb2,e2⟩;rw[j3 nb2,j3 hb];exact e2
 refine⟨_,rfl,p,C,dx,_,rfl,(by rw[j3 Ol.symm,j3 n2p.symm];exact ae),T.cl,T.nI,(by show 4<1000;decide),?_⟩;have fin:∀b o,b≠p->H5 b=av o->upd (upd (upd (upd (upd (upd H5 r1 (.zt 0 (q:Int))) oa (.lst ((aW q).map λ(i:Nat)=>V.int (0+(i:Int))))) p (.ins C dx [("many",.int q),("scale",.int 1),("cells",.ref l),("outs",.ref oa)])) r2 (.zt (q:Int) ((q:Int)+(m:Int)))) ia (.lst ((aW m).map λ(i:Nat)=>V.int ((q:Int)+(i:Int))))) p (.ins C dx [("many",.int q),("scale",.int 1),("cells",.ref l),("outs",.ref oa),("ins",.ref ia)]) b=av o:=λb o hb e=>by
  obtain⟨g1,g2,g3⟩:=up b o hb e;rw[j3 hb,j3 g1,j3 g2,j3 hb];exact g3
 have ia5:H5 ia=bh:=by
  cases z:H5 ia with
  |none=>rfl
  |some o=>exact absurd rfl (up ia o Ol z).1
 have back:∀b,b≠p->H5 b=bh->H b=bh:=λb hb z=>by
  cases z2:H b with
  |none=>rfl
  |some o=>rw[Oh b o hb z2] at z;cases z
 refine k _ l oa ia mq ⟨ae,fin _ _ Ep uJ,BN,λi a hi=>fin _ _ (λz=>?_) (Og i a hi).2,?_,?_,nio.symm⟩ (λb o hb GI=>fin b o hb (Oh b o hb GI)) (back _ Oj Oi) (back _ Ol ia5)
 ·have:=(Og i a hi).2;rw[z,Oe] at this;cases this
 ·rw[j3 Oj,j3 nio.symm,j3 n2o.symm,j3 Oj,ae,b4B]
 ·rw[j3 Ol,ae,b7h]
section
variable{P:aM}{w:aL}{K:aF}{mg:aC->Option aE}{base:aJ}{f Pt:aA}{fd:aK}{n:Nat}{C:aA}
inductive O5(K:aF)(C Pt:aA)(vs:List V)(H:Hp)(Q:VK)(dj:XK):Prop|mk:∀ga ra ba goal Es rows bounds m q M,vs=[.ref ga,.ref ra,.ref ba]->ah K H ga (goal.map V.int)->ah K H ra Es->si K H Es rows->ah K H ba (bounds.map V.int)->bx rows=m->bx bounds=m->bx goal=q->(∀r∈rows,bx r=q)->m<900->q<900->(∀i,i<m->0<=M2 bounds i)->(∀v,Lp.Fits M (m+1) (Lp.Vv m q (Y8 rows) (M2 bounds) (M2 goal) v))->Lp.ow M (m+1)<2^4000->LT Pt H->(∀S H' t aa wa,Lp.Of m q (Y8 rows) (M2 bounds) (M2 goal) S->(∀j,j<q->¬S.T m j<0)->Sz 4000 m q S->bj Pt H H'->LT Pt H'->H' t=av (.tup [.int (S.T m q),.ref aa,.ref wa,.int S.d]) → H' aa=av (.lst ((v7 m q S).map V.int))->H' wa=av (.lst ((K1 m q S).map V.int))->Q (.ref t) H')->(∀S H',Lp.Of m q (Y8 rows) (M2 bounds) (M2 goal) S->Lp.cM m q S->bj Pt H H'->LT Pt H'->Q .non H')->O5 K C Pt vs H Q dj
def EY:p7 ["goal","rows","bounds","board","column","row"] ["goal","rows","bounds"] (i9 S2):={}
structure b9d(P:aM)(w:aL)(K:aF)(mg:aC->Option aE)(base:aJ)(n:Nat)(C Pt:aA)(f1 f2 f3 f4 f5 f6:aA)(d1 d2 d3 d4 d5 d6:aK):Prop where
 WA:Mk K C f1
 ini:bf P w K mg base J8 n f1 d1 ["self","goal","rows","bounds"] (SJ K C)
 GD:Binds K d1 ["self","goal","rows","bounds"] []
 mC:mg "Board"=av (.ref C)
 Mf:LV P w K mg base n C "coming" ["self"] (Wr C Pt) f2 d2
 WB:LV P w K mg base n C "going" ["self","column"] (Si C) f3 d3
 exc:LV P w K mg base n C "exchange" ["self","row","column"] (Sv C) f4 d4
 WC:LV P w K mg base n C "amounts" ["self"] (Sx C) f5 d5
 WD:LV P w K mg base n C "weights" ["self"] (SF C) f6 d6
def grT{f1 f2 f3 f4 f5 f6:aA}{d1 d2 d3 d4 d5 d6:aK}(T:TB K C)(G:b9d P w K mg base n C Pt f1 f2 f3 f4 f5 f6 d1 d2 d3 d4 d5 d6)
  (hr:b_ (n+1) (A.deeper (cD "greatest" (i9 S2) s.heap.objs.size f ay))) (BO:b_ n (A.deeper (cD "greatest" (i9 S2) s.heap.objs.size f ay))) :
  {t:TS//fu (N8 J8 P w K mg base ["goal","rows","bounds","board","column","row"] "greatest" (i9 S2) f ay A outer s H E).oi (x9 S2) t} :=
 ⟨_,j0 (r6 (i:=3) EY.nd rfl (aI rfl) (a9F G.WA G.ini hr rfl G.mC G.GD .nil v6 (c6 (pv 0) (c6 (pv 1) (c6 (pv 2) c7)))))
  (j0 (r6 (i:=4) EY.nd rfl (aI rfl) (M' (pv 3) T.cl G.Mf.me G.Mf.ok BO G.Mf.bd .nil v6))
  (j0 (N4 hO (l5 Ga (pv 4) D5 (r9 _))
   (j0 (r6 (i:=5) EY.nd rfl (aI rfl) (TQ (pv 3) T.cl G.WB.me G.WB.ok BO G.WB.bd .nil v6 (c6 (pv 4) c7)))
   (j0 (w6 (l5 Lv (pv 5) D5 (r9 _)) (j4 (o4 D5)) r8)
   (j0 (R3 (TQ (pv 3) T.cl G.exc.me G.exc.ok BO G.exc.bd .nil v6 (c6 (pv 5) (c6 (pv 4) c7))))
   (j4 (r6 (i:=4) EY.nd rfl (aI rfl) (M' (pv 3) T.cl G.Mf.me G.Mf.ok BO G.Mf.bd .nil v6)))))))
  (j4 (o4 (A9 (c6 (l8 j5 (l8 j5 (y4 (pv 3) rfl) (Eh V2 d0) (λ_ _=>rfl)) (Eh V2 d0) (λ_ _=>rfl))
   (c6 (M' (pv 3) T.cl G.WC.me G.WC.ok BO G.WC.bd .nil v6) (c6 (M' (pv 3) T.cl G.WD.me G.WD.ok BO G.WD.bd .nil v6) (c6 (y4 (pv 3) rfl) c7)))))))))⟩
end
def si.same(e:af H H')(x:si K H vs rs):si K H' vs rs:=aZ.imp' (λ_ _ ⟨a,z,q⟩=>⟨a,z,e.seq q⟩) x
def b9D(O:Lp.Of m q A b c S)(hM:∀v,Lp.Fits M (m+1) (Lp.Vv m q A b c v))(hb:Lp.ow M (m+1)<2^4000):Sz 4000 m q S :=
 ⟨λi j hi hj=>gU (O.w.Hu hM hi hj) hb,gU (O.w.Ht hM) hb⟩
def Cv(m q:Nat)(S:Lp.Bo)(cv:V):Prop:=(cv=.non/\∀j,j<q->¬S.T m j<0)\/∃c:Nat,cv=.int c/\c<q/\S.T m c<0/\∀i,i<q->S.T m i<0->S.outs c<=S.outs i
theorem a7f(F:Aj K "greatest" S2 f fd)(T:TB K C)(G:b9d P w K mg base n C Pt f1 f2 f3 f4 f5 f6 d1 d2 d3 d4 d5 d6) :
  bf P w K mg base J8 (n+2) f fd ["goal","rows","bounds"] (O5 K C Pt):=by
 refine F.oa EY λay A outer s H vs Q E hr h=>?_;obtain⟨ga,ra,ba,goal,Es,rows,bounds,m,q,M,rfl,hg,Et,Rh,ym,lr,lb,lg,GH,hm,hq,hbn,hM,hB,L,kT,kN⟩:=h;refine⟨_,(grT T G hr (hr.mono (by lia))).2,_,rfl,_,rfl,_,rfl,λp dx hp WG mm=>?_⟩;have e0:af H (upd (upd H dx (.own p)) p (.ins C dx [])):=λb o q'=>by rw[j3 (i7 q' hp),j3 (i7 q' WG)];exact q'
 refine⟨p,dx,ga,ra,ba,goal,Es,rows,bounds,m,q,rfl,ae,e0.seq hg,e0.seq Et,Rh.same e0,e0.seq ym,lr,lb,lg,GH,hm,hq,λH1 ca oa ia rs B k1 Md Me=>⟨rfl,?_⟩⟩;have WH:H oa=bh:=by
  cases z:H oa with
  |none=>rfl
  |some o=>rw[e0 _ _ z] at Md;cases Md
 have WI:H ia=bh:=by
  cases z:H ia with
  |none=>rfl
  |some o=>rw[e0 _ _ z] at Me;cases Me
 have s1:=λb o z=>k1 b o (i7 z hp) (e0 _ _ z);have O0:=Lp.of0 (A:=Y8 rows) (c:=M2 goal) (q:=q) hbn;have come:∀(S:Lp.Bo)(ca:aA)(rs:List aA)(H2:Hp)(R:V->Hp->Prop),Bd C H2 p dx ca oa ia rs m q S->LT Pt H2->bj Pt H H2->(∀cv H3,Cv m q S cv->Bd C H3 p dx ca oa ia rs m q S->LT Pt H3->bj Pt H H3->R cv H3) →
   Wr C Pt [.ref p] H2 R E0:=λS ca rs H2 R B2 L2 e2 hR=>by
  refine⟨p,dx,ca,oa,ia,rs,m,q,S,rfl,B2,by lia,L2,λH3 e3 L3=>?_⟩;have B3:=B2.lam L2 e3;have e4:bj Pt H H3:=λb o hb z=>e3 b o hb (e2 b o hb z);exact⟨λhn=>hR _ _ (.inl ⟨rfl,hn⟩) B3 L3 e4,λj hj gs Ax=>hR _ _ (.inr ⟨j,rfl,hj,gs,Ax⟩) B3 L3 e4⟩
 refine⟨_,rfl,p,dx,_,rfl,B.obj,rfl,?_⟩;unfold yb;refine come _ _ _ _ _ B (L.same s1) (λb o _ z=>s1 b o z) λcv H2 WJ B2 L2 e2=>?_;obtain⟨kk,hkk⟩:=O0.w.ends hM;refine⟨λj σ H3=>∃(S:Lp.Bo)(ca:aA)(rs:List aA)(cv:V)(o5:Option V),σ=[av (.ref ga),av (.ref ra),av (.ref ba),av (.ref p),av cv,o5]/\Lp.Of m q (Y8 rows) (M2 bounds) (M2 goal) S/\Lp.Ends m q S j/\Cv m q S cv/\Bd C H3 p dx ca oa ia rs m q S/\LT Pt H3/\bj Pt H H3,
  ⟨kk,_,ca,rs,cv,_,rfl,O0,hkk,WJ,B2,L2,e2⟩,?_⟩
 rintro j σ H3 ⟨S,ca,rs,cv,o5,rfl,O,hE,WJ,B3,L3,e3⟩;have sz:=b9D O hM hB;refine⟨_,rfl,rfl,_,rfl,?_⟩;rcases WJ with⟨rfl,hn⟩|⟨c,rfl,hc,gs,Ax⟩
 ·refine y6 (λz=>?_) (λ_=>?_)
  ·exact absurd z (by decide)
  obtain⟨rm,em,am⟩:=B3.wo;refine⟨_,rfl,p,C,dx,_,_,rfl,B3.obj,T.cl,T.nC,rfl,_,rfl,ca,_,_,_,rfl,rfl,ah.of B3.CQ,am,_,rfl,rm,_,_,_,rfl,rfl,ah.of (B3.row m rm em),QX,_,rfl,p,dx,_,rfl,B3.obj,rfl,p,dx,ca,oa,ia,rs,m,q,S,rfl,B3,hm,hq,O.w.ii,λaa H4 e4 uK h4=>?_⟩;have B4:Bd C H4 p dx ca oa ia rs m q S:=B3.fg (P:=Pt) λb o z _=>e4 b o z;refine⟨_,rfl,p,dx,_,rfl,B4.obj,rfl,p,dx,ca,oa,ia,rs,m,q,S,rfl,B4,hm,hq,O.w.oo,O.w.ob,λwa H5 e5 i4 h5=>?_⟩;have B5:Bd C H5 p dx ca oa ia rs m q S:=B4.fg (P:=Pt) λb o z _=>e5 b o z;refine⟨_,rfl,p,C,dx,_,_,rfl,B5.obj,T.cl,T.nS,rfl,(by show 4<=sizeLine;decide),λt ht=>?_⟩;have e6:=(e4.trans e5).trans (af.new ht (.tup [.int (S.T m q),.ref aa,.ref wa,.int S.d]));refine kT S _ t aa wa O hn sz (λb o hb z=>e6 b o (e3 b o hb z)) (L3.same e6) ae ?_ ?_
  ·rw[j3 (i7 (e5 _ _ h4) ht)];exact e5 _ _ h4
  ·rw[j3 (i7 h5 ht)];exact h5
 ·refine y6 (λ_=>⟨λau H'=>∃j',j'<j/\∃(S:Lp.Bo)(ca:aA)(rs:List aA)(cv:V)(o5:Option V),au=[av (.ref ga),av (.ref ra),av (.ref ba),av (.ref p),av cv,o5]/\Lp.Of m q (Y8 rows) (M2 bounds) (M2 goal) S/\Lp.Ends m q S j'/\Cv m q S cv/\Bd C H' p dx ca oa ia rs m q S/\LT Pt H'/\bj Pt H H',λau H' z=>z,_,rfl,p,dx,_,rfl,B3.obj,rfl,_,rfl,p,dx,ca,oa,ia,rs,m,q,S,c,rfl,B3,sz,by lia,by lia,λOo=>⟨_,rfl,rfl,_,rfl,y6 (λ_=>(kN S H3 O ⟨c,hc,gs,Ax,Oo⟩ e3 L3)) (λz=>absurd (decide_eq_true rfl) z)⟩,λr IW ur Oq=>?_⟩) (λz=>absurd rfl z)
  ·have Ch:Lp.Choice m q S r c:=⟨hc,gs,Ax,IW,ur,λi hi dy=>(Oq i hi dy).1,λi hi dy=>(Oq i hi dy).2⟩;refine⟨_,rfl,rfl,_,rfl,y6 (λz=>absurd (of_decide_eq_true z) (by nofun)) (λ_=>⟨_,rfl,p,dx,_,rfl,B3.obj,rfl,_,rfl,_,rfl,p,dx,ca,oa,ia,rs,m,q,S,r,c,rfl,B3,sz,IW,hc,hm,hq,O.w.pos,λH4 Wt mq B4 k4=>?_⟩)⟩;have tk:∀b o,H3 b=av o->(∀C dx fs,o≠.ins C dx fs)->(∀xs,o≠.lst xs)->H4 b=av o:=λb o z n1 n2=>k4 b o (λy=>by subst y;rw[B3.obj] at z;exact n1 _ _ _ (bD z).symm) (λy=>by subst y;rw[B3.out] at z;exact n2 _ (bD z).symm) (λy=>by subst y;rw[B3.CS] at z;exact n2 _ (bD z).symm) z;have L4:LT Pt H4:=by
    rcases L3 with t|⟨c',t1,t2⟩
    ·exact .inl (tk _ _ t (λ_ _ _=>nofun) λ_=>nofun)
    ·exact .inr ⟨c',tk _ _ t1 (λ_ _ _=>nofun) λ_=>nofun,tk _ _ t2 (λ_ _ _=>nofun) λ_=>nofun⟩
   refine⟨_,rfl,p,dx,_,rfl,B4.obj,rfl,come _ _ _ _ _ B4 L4 (λb o hb z=>k4 b o (i7 z hp) (i7 z WH) (i7 z WI) (e3 b o hb z)) λcv' H5 WK B5 L5 e5=>?_⟩;obtain⟨j',om,hE'⟩:=hE.next O.w Ch;exact⟨j',om,_,Wt,mq,cv',_,rfl,O.fe Ch,hE',WK,B5,L5,e5⟩
inductive Ri(K:aF)(vs:List V)(H:Hp)(Q:VK)(dj:XK):Prop|mk:∀(a:aA)(ns:List Int)(k:Int),vs=[.ref a,.int k]->ah K H a (ns.map V.int)->0<=k->(∀c,Q (.int c) H)->Ri K vs H Q dj
def b7o:p7 ["script","k"] ["script","k"] (i9 VM):={}
theorem b7c{ns:List Int}(h0:0<=k)(h:k<(bx (ns.map V.int):Int)):∃v,U7 (ns.map V.int) k=av (.int v):=by
 have hl:bx (ns.map V.int)=bx ns:=aH _;have hk:k.toNat<bx ns:=by lia
 have ek:k=((k.toNat:Nat):Int):=by lia
 have q:U7 (ns.map V.int) ((k.toNat:Nat):Int)=av (.int ns[k.toNat]):=A2 (by rw[aP,aS hk];rfl);rw[<-ek] at q;exact⟨_,q⟩
theorem b5t(F:Aj K "_law_cell_at" VM f fd)(T:v8 mg):bf P w K mg base J8 (n+1) f fd ["script","k"] (Ri K):=by
 refine F.oa b7o λay A outer s H vs Q E hr h=>?_;obtain⟨a,ns,k,rfl,hS,h0,q⟩:=h;refine⟨_,j0 (w6 (l5 EI (pv 1) (j7 j6 rfl T.len bB (c6 (pv 0) c7)) (r9 _)) (j4 (o4 (l8 j5 (pv 0) (pv 1) λ_ _=>rfl))) r8)
  (j4 (o4 d0)),?_⟩
 refine⟨_,rfl,_,rfl,a,_,rfl,.inl hS,_,_,rfl,rfl,_,rfl,y6 (λc=>?_) λc=>q 0⟩
 ·obtain⟨v,hv⟩:=b7c h0 (of_decide_eq_true c);exact⟨_,rfl,_,rfl,a,_,_,_,rfl,rfl,hS,hv,q v⟩
inductive Rj(K:aF)(vs:List V)(H:Hp)(Q:VK)(dj:XK):Prop|mk:∀(c:Int)(many:Nat)(b:Int),vs=[.int c,.int (many:Int),.int b]->many<=900->0<b->b<1073741824->(∀r H'(ds:List Int),af H H'->H' r=av (.lst (ds.map V.int))->bx ds=many->(∀d∈ds,0<=d/\d<b)->Q (.ref r) H')->Rj K vs H Q dj
def ic:p7 ["cell","many","base","found","rest","stirred","k"] ["cell","many","base"] (i9 VN):={}
theorem b1t{n:Nat}(F:Aj K "_law_draws" VN f fd)(T:v8 mg):bf P w K mg base J8 (n+1) f fd ["cell","many","base"] (Rj K):=by
 refine F.oa ic λay A outer s H vs Q E hr h=>?_;obtain⟨c,many,b,rfl,hm,Eu,Kk,q⟩:=h;refine⟨_,j0 (r6 (i:=3) ic.nd rfl (aI rfl) (v9 c7))
  (j0 (r6 (i:=4) ic.nd rfl (aI rfl) (j8 He (pv 0) (v5 TH rfl T.int lJ (c6 (Z3 Qb (pv 0) (j8 Qa d0 d0) (r9 _)) c7))))
  (j0 (r6 (i:=5) ic.nd rfl (aI rfl) (j8 w8 (pv 0) d0))
  (j0 (IF hO rfl (R8 rfl T.range (c6 (j8 D4 (pv 1) d0) c7)) (j9 (i:=6) ic.nd rfl (aI rfl))
   (j0 (r6 (i:=5) ic.nd rfl (aI rfl) (j8 w8 (j8 D4 (j8 D4 (j8 D4 (j8 He (pv 5) (pv 5)) (j8 He d0 (pv 5))) (pv 6)) d0) d0))
    (j4 (w6 (PW.pt (Gv (l5 Ej (pv 6) d0 (r9 _)) (T4 (l5 Ej (pv 4) d0 (r9 _)))))
     (j0 (R3 (K7 iK jW jX P2 (pv 3) (c6 (j8 w8 (pv 4) (pv 2)) c7))) (j4 (r6 (i:=4) ic.nd rfl (aI rfl) (j8 V9 (pv 4) (pv 2)))))
     (j4 (w6 (l5 Ej (pv 6) d0 (r9 _)) (j4 (R3 (K7 iK jW jX P2 (pv 3) (c6 (j8 w8 (j8 V9 (pv 5) d0) (pv 2)) c7)))) r8))))))
  (j4 (o4 (pv 3)))))),?_⟩
 refine⟨(by show 0<=sizeLine;decide),λfl LN=>?_⟩;refine⟨_,rfl,_,rfl,_,_,rfl,rfl,⟨by decide,by decide,by decide⟩,_,_,rfl,rfl,.inr ⟨_,rfl,_,_,rfl,rfl,.inr ?_,?_⟩⟩
 ·constructor<;>(split<;>decide)
 refine⟨_,rfl,_,_,rfl,rfl,(by show(0:Int)<2305843009213693951;decide),?_⟩;refine⟨_,rfl,_,_,rfl,rfl,((many:Int)+3),rfl,by lia,by lia,?_⟩;have e3:((many:Int)+3).toNat=many+3:=by lia
 rw[e3];refine PZ (n:=many+3) (λi σ H'=>∃(r st:Int)(ds:List Int)(ks:Option V),σ=[av (.int c),av (.int (many:Int)),av (.int b),av (.ref fl),av (.int r),av (.int st),ks]/\H'=upd H fl (.lst (ds.map V.int))/\bx ds=i-3/\(∀d∈ds,0<=d/\d<b)/\0<=st/\st<2305843009213693951)
  ⟨_,_,[],bh,rfl,rfl,rfl,λd hd=>(by cases hd),fN _ (by decide),eG _ (by decide)⟩ ?_ ?_
 ·rintro i σ H' hi ⟨r,st,ds,ks,rfl,rfl,hl,hd,zi,GJ⟩;refine⟨_,rfl,_,rfl,_,_,rfl,rfl,.inl ⟨by lia,by lia⟩,_,rfl,_,_,rfl,rfl,.inl ⟨by decide,by decide⟩,_,_,rfl,rfl,_,rfl,_,_,rfl,rfl,_,_,rfl,rfl,_,_,rfl,rfl,(by show(0:Int)<2305843009213693951;decide),?_⟩;have Kl:0<=(st*st+48271*st+(0+(i:Int))+1)%2305843009213693951:=fN _ (by decide);have Km:(st*st+48271*st+(0+(i:Int))+1)%2305843009213693951<2305843009213693951:=eG _ (by decide);refine⟨_,rfl,_,_,rfl,rfl,_,rfl,?_⟩;have hz:bx (ds.map V.int)<sizeLine:=by rw[aH];exact t9 (by lia)
  have more:∀d:Int,(ds.map V.int)++[V.int d]=(ds++[d]).map V.int:=λd=>by rw[bQ];rfl
  have mem:∀d:Int,0<=d->d<b->∀d'∈ds++[d],0<=d'/\d'<b:=λd h0 h1 d' zw=>by
   rcases bJ.mp zw with z|z
   ·exact hd d' z
   ·rw[cJ.mp z];exact⟨h0,h1⟩
  refine y6 (λc1=>?_) (λc1=>?_)
  ·have GK:2<0+(i:Int):=of_decide_eq_true c1;refine⟨_,rfl,_,_,rfl,rfl,_,rfl,?_⟩;refine y6 (λc2=>?_) (λc2=>?_)
   ·refine⟨_,rfl,.inl ⟨rfl,_,ah.of ae⟩,_,rfl,_,rfl,_,_,rfl,rfl,Eu,fl,_,_,rfl,rfl,ae,hz,?_⟩;refine⟨_,rfl,_,rfl,_,_,rfl,rfl,⟨Eu,Kk⟩,?_⟩;refine⟨_,_,ds++[r%b],_,rfl,?_,?_,mem _ (fN _ (by lia)) (eG _ Eu),Kl,Km⟩
    ·rw[Ju,more]
    ·rw[aX,fR];lia
   ·refine⟨_,rfl,_,_,rfl,rfl,_,rfl,?_⟩;refine y6 (λc3=>?_) (λc3=>absurd c1 c3);refine⟨_,rfl,.inl ⟨rfl,_,ah.of ae⟩,_,rfl,_,_,rfl,rfl,⟨by decide,by decide⟩,_,rfl,_,_,rfl,rfl,Eu,fl,_,_,rfl,rfl,ae,hz,?_⟩;refine⟨_,_,ds++[(st*st+48271*st+(0+(i:Int))+1)%2305843009213693951/4096%b],_,rfl,?_,?_,mem _ (fN _ (by lia)) (eG _ Eu),Kl,Km⟩
    ·rw[Ju,more]
    ·rw[aX,fR];lia
  ·have GK:¬2<0+(i:Int):=of_decide_eq_false (eN.mpr c1);refine M7 ?_;refine⟨_,rfl,_,_,rfl,rfl,_,rfl,?_⟩;refine y6 (λc3=>absurd c3 c1) (λc3=>?_);exact⟨_,_,ds,_,rfl,rfl,by lia,hd,Kl,Km⟩
 ·intro σ H' cw;refine E8 λG_ cy=>?_;obtain⟨r,st,ds,ks,rfl,rfl,hl,hd,_⟩:=cw;subst cy;exact⟨_,rfl,q fl _ ds (af.new LN _) ae (by lia) hd⟩
theorem Mg{n:Nat}(h0:0<=k)(h1:k<(n:Int)):Bz n k=av k.toNat:=by
 unfold Bz;rw[if_pos h0,if_pos h1]
theorem b5O(h0:0<=k)(h1:k<(bx xs:Int)):∃v,v∈xs/\U7 xs k=av v:=by
 have hk:k.toNat<bx xs:=by lia
 refine⟨xs[k.toNat],eF hk,?_⟩;unfold U7;rw[Mg h0 h1];exact aS hk
theorem K2{ns:List Int}(h0:0<=k)(h1:k<(bx ns:Int)):∃v,v∈ns/\U7 (ns.map V.int) k=av (.int v):=by
 obtain⟨v,hv,e⟩:=b5O (xs:=ns.map V.int) h0 (by simp_all);obtain⟨n,hn,rfl⟩:=aY.mp hv;exact⟨n,hn,e⟩
theorem map_set{ns:List Int}:(ns.map V.int).set j (.int v)=(ns.set j v).map V.int:=by rw[rZ]
structure HG(br:Int)(kt kg:Nat)(h:i8):Prop where
 lt:bx h.1=kt
 lg:bx h.2=kg
 t:∀x∈h.1,1<=x/\x<=br
 g:∀x∈h.2,0<=x/\x<=br
 p:∃x∈h.2,0<x
inductive Ot(K:aF)(vs:List V)(H:Hp)(Q:VK)(dj:XK):Prop|mk:∀(v:V)(p:aA)(br hi:Int)(h:i8)(ds:List Int)(kt kg:Nat),vs=[v,.ref p,.int br]->HS K H v h->HG hi kt kg h->1<=kt->kt<=4->1<=kg->kg<=4->1<=br->br<=hi->ah K H p (ds.map V.int)->10<=bx ds->(∀d∈ds,0<=d)->(∀r H' h',af H H'->HS K H' r h'->HG hi kt kg h'->Q r H')->Ot K vs H Q dj
theorem ig:p7 ["house","picks","far","takes","gives","by","at"] ["house","picks","far"] (i9 VO):={}
theorem b4M:(["take","by"]:List aC).Nodup:=by decide
theorem b4v:(["give","by"]:List aC).Nodup:=by decide
theorem b4E(F:Aj K "_law_near" VO f fd)(T:v8 mg):bf P w K mg base J8 (n+1) f fd ["house","picks","far"] (Ot K):=by
 refine F.oa ig λay A outer s H vs Q E hr h=>?_;obtain⟨v,pk,br,hi,h,ds,kt,kg,rfl,⟨a,t,gv,rfl,h0,h1,h2⟩,hG,ij,wx,Ja,wy,CV,hhi,hP,hd12,NX,q⟩:=h;refine⟨_,j0 (D3 (pv 0) (K4 rfl (p6 (j9 (i:=3) ig.nd rfl (aI rfl)) (p6 (j9 (i:=4) ig.nd rfl (aI rfl)) A4))))
  (j0 (r6 (i:=5) ig.nd rfl (fY rfl) (l8 j5 (v9 (c6 d0 (c6 d0 (c6 d0 (c6 d0 c7))))) (j8 w8 (l8 j5 (pv 1) d0 (λ_ _=>rfl)) d0) (λ_ _=>rfl)))
  (t8 (w6 (l5 Ej (j8 He (j7 (Qq rfl) rfl T.max pF (c6 (j8 a9S (pv 3) (pv 4)) c7)) (pv 5)) (pv 2) (r9 _)) (j4 (r6 (i:=5) ig.nd rfl (fY rfl) d0)) r8)
  (j0 (CA (i:=3) ["take"] [5] ig.nd rfl rfl rfl (IE (pv 3)) (λ_ _ _ _=>j9 (i:=0) b4M rfl (aI rfl)) (λ_ _ _ _=>j8 He (pv 0) (pv 1)))
  (j0 (CA (i:=4) ["give"] [5] ig.nd rfl rfl rfl (IE (pv 4)) (λ_ _ _ _=>j9 (i:=0) b4v rfl (aI rfl)) (λ_ _ _ _=>j8 He (pv 0) (pv 1)))
  (t8 (w6 (l5 E6 (j8 w8 (j8 V9 (l8 j5 (pv 1) d0 (λ_ _=>rfl)) d0) d0) d0 (r9 _))
   (j0 (r6 (i:=6) ig.nd rfl (aI rfl) (j8 w8 (l8 j5 (pv 1) d0 (λ_ _=>rfl)) (j7 j6 rfl T.len bB (c6 (pv 3) c7))))
    (j4 (D3 (j7 (Qc rfl) rfl T.min mY (c6 (pv 2) (c6 (j8 D4 (j8 D4 (l8 j5 (pv 3) (pv 6) (λ_ _=>rfl)) (j8 w8 (j8 V9 (l8 j5 (pv 1) d0 (λ_ _=>rfl)) d0) d0)) d0) c7))) (Gy (pv 3) (pv 6) O1)))) r8)
  (t8 (w6 (l5 E6 (j8 w8 (j8 V9 (l8 j5 (pv 1) d0 (λ_ _=>rfl)) d0) d0) d0 (r9 _))
   (j0 (r6 (i:=6) ig.nd rfl (aI rfl) (j8 w8 (l8 j5 (pv 1) d0 (λ_ _=>rfl)) (j7 j6 rfl T.len bB (c6 (pv 4) c7))))
    (j4 (D3 (j7 (Qc rfl) rfl T.min mY (c6 (pv 2) (c6 (j8 D4 (l8 j5 (pv 4) (pv 6) (λ_ _=>rfl)) d0) c7))) (Gy (pv 4) (pv 6) O1)))) r8)
  (j4 (o4 (A9 (c6 (v5 E7 rfl T.tuple hU (c6 (pv 3) c7)) (c6 (v5 E7 rfl T.tuple hU (c6 (pv 4) c7)) c7))))))))))),?_⟩
 obtain⟨d9,hd9,a9⟩:=K2 (ns:=ds) (k:=9) (by decide) (by lia);obtain⟨d8,hd8,a8⟩:=K2 (ns:=ds) (k:=8) (by decide) (by lia);have p9:=NX d9 hd9;have p8:=NX d8 hd8;refine⟨_,rfl,a,_,rfl,h0,rfl,_,_,rfl,_,_,rfl,rfl,(by show 4<=sizeLine;decide),λlp Rk=>?_⟩;have s1:=af.new Rk (.lst [V.int 1,V.int 1,V.int 2,V.int 3]);obtain⟨bv,pS,abv⟩:=K2 (ns:=[1,1,2,3]) (k:=d9%4) (by lia) (by show d9%4<4;lia);have hb:1<=bv/\bv<=3:=by
  simp at pS;rcases pS with rfl|rfl|rfl<;>decide
 refine⟨_,rfl,pk,_,9,_,rfl,rfl,s1.seq hP,a9,_,_,rfl,rfl,(by show(0:Int)<4;decide),lp,_,_,_,rfl,rfl,ah.of ae,abv,?_⟩;have l1:bx (h.1.map V.int)=kt:=by rw[aH];exact hG.lt
 have l2:bx (h.2.map V.int)=kg:=by rw[aH];exact hG.lg
 have mm:h.1++h.2≠[]:=λz=>by
  have:=congrArg iT z;rw[aX,hG.lt] at this;simp at this;lia
 refine⟨λau H'=>∃b:Int,au=[av (.ref a),av (.ref pk),av (.int br),av (.ref t),av (.ref gv),av (.int b),bh]/\af H H'/\(1<=b/\b<=3)/\∀x∈h.1++h.2,x*b<=hi,?_,?_⟩
 ·refine⟨_,rfl,_,rfl,t,gv,_,_,rfl,rfl,s1.cm h1,s1.cm h2,?_,?_,?_,?_⟩
  ·intro z;rw[z] at l1;simp at l1;lia
  ·rw[l1,l2];exact gQ (t9 (by lia))
  ·intro z;rw[z] at l2;simp at l2;lia
  ·intro _ pc WL;have s2:=af.new WL (.tup (h.1.map V.int++h.2.map V.int));refine⟨pc,h.1++h.2,rfl,.inr (cq.of (by rw[ae,bQ])),mm,λM hM hMx=>⟨_,rfl,_,_,rfl,rfl,.inr ⟨by lia,by lia⟩,_,rfl,_,_,rfl,rfl,_,rfl,y6 (λc=>?_) (λc=>?_)⟩⟩
   ·refine⟨1,rfl,s1.trans s2,by decide,λx hx=>?_⟩;rcases bJ.mp hx with z|z
    ·have:=hG.t x z;lia
    ·have:=hG.g x z;lia
   ·have c':¬br<M*bv:=of_decide_eq_false (eN.mpr c);refine⟨bv,rfl,s1.trans s2,hb,λx hx=>?_⟩;have:=fH (hMx x hx) (show 0<=bv by lia);lia
 intro au H2 cw;refine E8 λG_ cy=>?_;obtain⟨b,rfl,e2,hb,zN⟩:=cw;subst cy;have mulok:EH=EH:=rfl;refine⟨_,rfl,t,rfl,⟨_,e2.cm h1⟩,λtl Hz=>(O9 (U3 (e2.cm h1)) Hz (by rw[l1];exact t9 (by lia)) (λx=>.int (vI x*b)) (λi x H' N hx e hN=>?_) ?_)⟩
 ·obtain⟨k,rfl⟩:=T0 hx;exact⟨Wk.set (by decide),_,rfl,_,rfl,_,_,rfl,rfl,.inr ⟨by lia,by lia⟩,hN⟩
 have e3:=e2.write (o:=.lst ((h.1.map V.int).map λx=>.int (vI x*b))) (e2.free Hz);refine⟨_,rfl,gv,rfl,⟨_,e3.cm h2⟩,λgl Hm=>(O9 (U3 (e3.cm h2)) Hm (by rw[l2];exact t9 (by lia)) (λx=>.int (vI x*b)) (λi x H' N hx e hN=>?_) ?_)⟩
 ·obtain⟨k,rfl⟩:=T0 hx;exact⟨Wk.set (by decide),_,rfl,_,rfl,_,_,rfl,rfl,.inr ⟨by lia,by lia⟩,hN⟩
 have eA:(h.1.map V.int).map (λx=>V.int (vI x*b))=(h.1.map (·*b)).map V.int:=by rw[bC,bC];rfl
 have eB:(h.2.map V.int).map (λx=>V.int (vI x*b))=(h.2.map (·*b)).map V.int:=by rw[bC,bC];rfl
 have fgl:H gl=bh:=e3.free Hm;have ne1:tl≠gl:=λz=>by rw[<-z,ae] at Hm;cases Hm
 rw[eA,eB];rw[eA] at e3;have e4:=e3.write (o:=.lst ((h.2.map (·*b)).map V.int)) fgl;have EZ:upd (upd H2 tl (.lst ((h.1.map (·*b)).map V.int))) gl (.lst ((h.2.map (·*b)).map V.int)) tl=av (.lst ((h.1.map (·*b)).map V.int)):=by rw[j3 ne1,ae]
 have Rl:upd (upd H2 tl (.lst ((h.1.map (·*b)).map V.int))) gl (.lst ((h.2.map (·*b)).map V.int)) gl=av (.lst ((h.2.map (·*b)).map V.int)):=ae;generalize upd (upd H2 tl (.lst ((h.1.map (·*b)).map V.int))) gl (.lst ((h.2.map (·*b)).map V.int))=H4 at e4 EZ Rl⊢;have tA:∀x∈h.1.map (·*b),1<=x/\x<=hi:=λx hx=>by
  obtain⟨y,hy,rfl⟩:=aY.mp hx;have y1:=(hG.t y hy).1;have y3:=wZ y1 hb.1 (by decide) (by lia);exact⟨by simpa using y3,zN y (fW _ hy)⟩
 have tB:∀x∈h.2.map (·*b),0<=x/\x<=hi:=λx hx=>by
  obtain⟨y,hy,rfl⟩:=aY.mp hx;exact⟨Int.mul_nonneg (hG.g y hy).1 (by lia),zN y (eL _ hy)⟩
 have tP:∃x∈h.2.map (·*b),0<x:=by
  obtain⟨y,hy,y0⟩:=hG.p;exact⟨y*b,aY.mpr ⟨y,hy,rfl⟩,gJ y0 (by lia)⟩
 have lA:bx (h.1.map (·*b))=kt:=by rw[aH];exact hG.lt
 have lB:bx (h.2.map (·*b))=kg:=by rw[aH];exact hG.lg
 generalize h.1.map (·*b)=A0 at tA lA EZ;generalize h.2.map (·*b)=B0 at tB lB tP Rl;refine⟨λau H'=>∃(A1:List Int)(ks:Option V),au=[av (.ref a),av (.ref pk),av (.int br),av (.ref tl),av (.ref gl),av (.int b),ks]/\af H H'/\H' tl=av (.lst (A1.map V.int))/\H' gl=av (.lst (B0.map V.int))/\bx A1=kt/\∀x∈A1,1<=x/\x<=hi,?_,?_⟩
 ·refine⟨_,rfl,pk,_,9,_,rfl,rfl,e4.seq hP,a9,_,_,rfl,rfl,⟨by decide,by decide⟩,_,_,rfl,rfl,(by show(0:Int)<3;decide),rfl,_,rfl,y6 (λc=>?_) (λc=>⟨A0,bh,rfl,e4,EZ,Rl,lA,tA⟩)⟩;have WM:bx (A0.map V.int)=kt:=by rw[aH];exact lA
  refine⟨_,rfl,pk,_,8,_,rfl,rfl,e4.seq hP,a8,_,rfl,tl,_,rfl,.inl (ah.of EZ),_,_,rfl,rfl,(by show(0:Int)<(bx (A0.map V.int):Int);rw[WM];lia),?_⟩;have r0:0<=d8%(bx (A0.map V.int):Int):=fN _ (by rw[WM];lia);have r1:d8%(bx (A0.map V.int):Int)<(bx (A0.map V.int):Int):=eG _ (by rw[WM];lia);obtain⟨x,hx,ax⟩:=K2 (ns:=A0) (k:=d8%(bx (A0.map V.int):Int)) r0 (by rw[aH] at r1⊢;exact r1);have CC:=tA x hx;refine⟨_,rfl,_,rfl,_,rfl,tl,_,_,_,rfl,rfl,ah.of EZ,ax,_,rfl,pk,_,9,_,rfl,rfl,e4.seq hP,a9,_,_,rfl,rfl,⟨by decide,by decide⟩,_,_,rfl,rfl,(by show(0:Int)<2;decide),_,_,rfl,rfl,_,_,rfl,rfl,_,_,rfl,_,rfl,_,rfl,tl,_,_,_,rfl,rfl,EZ,Mg r0 r1,?_⟩;refine⟨A0.set (d8%(bx (A0.map V.int):Int)).toNat _,_,rfl,e4.write (e2.free Hz),by rw[ae,map_set],by rw[j3 (bV ne1)];exact Rl,by rw[eE];exact lA,λy hy=>?_⟩;rcases pD hy with z|z
  ·exact tA y z
  ·rw[z];split<;>lia
 intro au H5 cw;refine E8 λG_ cy=>?_;obtain⟨A1,ks,rfl,e5,at5,Rm,lA1,tA1⟩:=cw;subst cy;refine⟨λau H'=>∃(B1:List Int)(ks:Option V),au=[av (.ref a),av (.ref pk),av (.int br),av (.ref tl),av (.ref gl),av (.int b),ks]/\af H H'/\H' tl=av (.lst (A1.map V.int))/\H' gl=av (.lst (B1.map V.int))/\bx B1=kg/\(∀x∈B1,0<=x/\x<=hi)/\∃x∈B1,0<x,?_,?_⟩
 ·refine⟨_,rfl,pk,_,9,_,rfl,rfl,e5.seq hP,a9,_,_,rfl,rfl,⟨by decide,by decide⟩,_,_,rfl,rfl,(by show(0:Int)<3;decide),rfl,_,rfl,y6 (λc=>?_) (λc=>⟨B0,ks,rfl,e5,at5,Rm,lB,tB,tP⟩)⟩;have Mh:bx (B0.map V.int)=kg:=by rw[aH];exact lB
  refine⟨_,rfl,pk,_,8,_,rfl,rfl,e5.seq hP,a8,_,rfl,gl,_,rfl,.inl (ah.of Rm),_,_,rfl,rfl,(by show(0:Int)<(bx (B0.map V.int):Int);rw[Mh];lia),?_⟩;have r0:0<=d8%(bx (B0.map V.int):Int):=fN _ (by rw[Mh];lia);have r1:d8%(bx (B0.map V.int):Int)<(bx (B0.map V.int):Int):=eG _ (by rw[Mh];lia);obtain⟨x,hx,ax⟩:=K2 (ns:=B0) (k:=d8%(bx (B0.map V.int):Int)) r0 (by rw[aH] at r1⊢;exact r1);have CC:=tB x hx;refine⟨_,rfl,_,rfl,_,rfl,gl,_,_,_,rfl,rfl,ah.of Rm,ax,_,_,rfl,rfl,_,_,rfl,_,rfl,_,rfl,gl,_,_,_,rfl,rfl,Rm,Mg r0 r1,?_⟩;have rn:(d8%(bx (B0.map V.int):Int)).toNat<bx B0:=by rw[aH] at r1⊢;lia
  refine⟨B0.set (d8%(bx (B0.map V.int):Int)).toNat _,_,rfl,e5.write fgl,by rw[j3 ne1];exact at5,by rw[ae,map_set],by rw[eE];exact lB,λy hy=>?_,_,xE rn _,?_⟩
  ·rcases pD hy with z|z
   ·exact tB y z
   ·rw[z];split<;>lia
  ·split<;>lia
 intro au H6 cw;refine E8 λG_ cy=>?_;obtain⟨B1,ks,rfl,e6,at6,ag6,lB1,tB1,tP1⟩:=cw;subst cy;refine⟨_,rfl,tl,_,rfl,.inl ⟨ah.of at6,λpt Ou=>?_⟩⟩;have f1:=af.new Ou (.tup (A1.map V.int));refine⟨_,rfl,gl,_,rfl,.inl ⟨ah.of (f1 _ _ ag6),λpg WN=>?_⟩⟩;have f2:=af.new WN (.tup (B1.map V.int));refine⟨(by show 2<=sizeLine;decide),λpr HA=>?_⟩;have f3:=af.new HA (.tup [V.ref pt,V.ref pg]);exact q _ _ (A1,B1) (e6.trans (f1.trans (f2.trans f3))) ⟨pr,pt,pg,rfl,cq.of ae,cq.of (f3 _ _ (f2 _ _ ae)),cq.of (f3 _ _ ae)⟩ ⟨lA1,lB1,tA1,tB1,tP1⟩
end de
namespace L2
open PySem
def ng(H H':Hp):Prop:=∀b o,H b=av o->(∀xs,o≠.lst xs)->H' b=av o
theorem ng.upd(h:H b=av (.lst ys)):ng H (upd H b o):=λc u q n=>by
 have:c≠b:=λz=>by rw[z,h] at q;exact n ys (bD q).symm
 rw[j3 this];exact q
theorem ng.cm(e:ng H H')(h:cq K H a xs):cq K H' a xs:=by
 rcases h with(h|⟨o,h⟩)|h
 ·exact .inl (.inl (e _ _ h λ_ z=>nomatch z))
 ·exact .inl (.inr ⟨o,e _ _ h λ_ z=>nomatch z⟩)
 ·exact .inr h
end L2
namespace de
open PySem L2
theorem HS.keep(e:ng H H')(x:HS K H v h):HS K H' v h:=by
 obtain⟨a,t,g,h0,h1,h2,h3⟩:=x;exact⟨a,t,g,h0,e.cm h1,e.cm h2,e.cm h3⟩
def Bk.keep(e:ng H H')(x:Bk K H vs hs):Bk K H' vs hs:=aZ.imp' (λ_ _ r=>HS.keep e r) x
def WO(ns:List Int):dI:=.tuple (ns.map gM)
def Y5(h:i8):dI:=.tuple [WO h.1,WO h.2]
theorem WQ:∀ns:List Int,qc K H (ns.map V.int) (ns.map gM)
 |[]=>.nil
 |n::r=>.cons (.int n) (WQ r)
theorem HS.dp(x:HS K H v h):Dp K H v (Y5 h):=by
 obtain⟨a,t,g,rfl,h1,h2,h3⟩:=x;exact .tup h1 (.cons (.tup h2 (WQ _)) (.cons (.tup h3 (WQ _)) .nil))
theorem Bk.Gi:∀{vs}{hs},Bk K H vs hs->qc K H vs (hs.map Y5)
 |_,_,.nil=>.nil
 |_,_,.cons x r=>.cons x.dp (Bk.Gi r)
theorem WR:∀ns:List Int,cP (ns.map gM)=true
 |[]=>by rw[jY,cP]
 |n::r=>by rw[cS,cP,WR r,fU];rfl
theorem WS h:(Y5 h).canLay0=true:=by
 unfold Y5 WO;rw[fU,cP,fU,WR,cP,fU,WR,cP];rfl
theorem SX:∀hs:List i8,cP (hs.map Y5)=true
 |[]=>by rw[jY,cP]
 |h::r=>by rw[cS,cP,WS,SX r];rfl
section
variable{P:aM}{w:aL}{K:aF}{mg:aC->Option aE}{base:aJ}{f g:aA}{fd gd:aK}
inductive S4(K:aF)(vs:List V)(H:Hp)(Q:VK)(dj:XK):Prop|mk:∀(a:aA)(ns:List Int)(at' most br:Int),vs=[.ref a,.int at',.int most,.int br]->ah K H a (ns.map V.int)->0<=at'->1<=most->most<=900->1<=br->(∀r H' xs hs kt kg,af H H'->H' r=av (.lst xs)->Bk K H' xs hs->1<=bx hs->(bx hs:Int)<=most->1<=kt->kt<=4->1<=kg->kg<=4->(∀h∈hs,HG br kt kg h)->Q (.ref r) H')->S4 K vs H Q dj
def dq:p7 ["script","at","most","far","heads","kinds","many","size","book","k","picks","takes","some","gives","house"] ["script","at","most","far"] (i9 LR):={}
theorem a8W:(["pick","size"]:List aC).Nodup:=by decide
def abT{dc dw dn:aK}{ay:aE}{A:aV}{outer:List Env}{s:aG}{H:Hp}{E:XK}(T:v8 mg)
  (Gc:bf P w K mg base J8 n fc dc ["script","k"] (Ri K)) (bc:Binds K dc ["script","k"] []) (kc:dX K (.ref fc)=true) (mc:mg "_law_cell_at"=av (.ref fc))
  (Gw:bf P w K mg base J8 n fw dw ["cell","many","base"] (Rj K)) (bw:Binds K dw ["cell","many","base"] []) (kw:dX K (.ref fw)=true) (mw:mg "_law_draws"=av (.ref fw))
  (Gn:bf P w K mg base J8 n fn dn ["house","picks","far"] (Ot K)) (bn:Binds K dn ["house","picks","far"] []) (kn:dX K (.ref fn)=true) (mn:mg "_law_near"=av (.ref fn))
  (hr:b_ n (A.deeper (cD "_law_a_book" (i9 LR) s.heap.objs.size f ay))) :
  {t:TS//fu (N8 J8 P w K mg base ["script","at","most","far","heads","kinds","many","size","book","k","picks","takes","some","gives","house"] "_law_a_book" (i9 LR) f ay A outer s H E).oi (x9 LR) t} :=
 ⟨_,j0 (r6 (i:=4) dq.nd rfl (aI rfl) (l7 Gw hr rfl mw kw bw .nil v6 (c6 (l7 Gc hr rfl mc kc bc .nil v6 (c6 (pv 0) (c6 (pv 1) c7))) (c6 d0 (c6 d0 c7)))))
  (t8 (r6 (i:=5) dq.nd rfl (aI rfl) (v9 (c6 (j8 D4 d0 (j8 w8 (l8 j5 (pv 4) d0 (λ_ _=>rfl)) (l8 j5 (v9 (c6 d0 (c6 d0 c7))) (j8 w8 (l8 j5 (pv 4) d0 (λ_ _=>rfl)) d0) (λ_ _=>rfl))))
   (c6 (j8 D4 d0 (j8 w8 (l8 j5 (pv 4) d0 (λ_ _=>rfl)) (l8 j5 (v9 (c6 d0 (c6 d0 c7))) (j8 w8 (l8 j5 (pv 4) d0 (λ_ _=>rfl)) d0) (λ_ _=>rfl)))) c7))))
  (t8 (r6 (i:=6) dq.nd rfl (aI rfl) (j8 D4 d0 (j8 w8 (l8 j5 (pv 4) d0 (λ_ _=>rfl)) (l8 j5 (v9 (c6 (pv 2) (c6 (j7 (Qc rfl) rfl T.min mY (c6 (pv 2) (c6 d0 c7))) c7))) (j8 V9 (j8 w8 (l8 j5 (pv 4) d0 (λ_ _=>rfl)) d0) d0) (λ_ _=>rfl)))))
  (t8 (r6 (i:=7) dq.nd rfl (fY rfl) (j7 (Qc rfl) rfl T.min mY (c6 (pv 3) (c6 (l8 j5 (v9 (c6 d0 (c6 d0 (c6 d0 (c6 d0 (c6 (j8 Qa d0 d0) c7)))))) (j8 w8 (l8 j5 (pv 4) d0 (λ_ _=>rfl)) d0) (λ_ _=>rfl)) c7))))
  (j0 (r6 (i:=8) dq.nd rfl (aI rfl) (v9 c7))
  (j0 (IF hO rfl (R8 rfl T.range (c6 (pv 6) c7)) (j9 (i:=9) dq.nd rfl (aI rfl))
   (t8 (r6 (i:=10) dq.nd rfl (aI rfl) (l7 Gw hr rfl mw kw bw .nil v6 (c6 (j8 D4 (l7 Gc hr rfl mc kc bc .nil v6 (c6 (pv 0) (c6 (j8 D4 (pv 1) d0) c7))) (j8 He (pv 9) (j8 D4 (l8 j5 (pv 4) d0 (λ_ _=>rfl)) d0))) (c6 d0 (c6 (j8 Qa d0 d0) c7)))))
   (t8 (r6 (i:=11) dq.nd rfl (aI rfl) (v5 E7 rfl T.tuple hU (c6 (N6 ["pick"] [7] rfl (C6 (B7 M0 (pv 10) G1 (B8 (l8 j5 (pv 5) d0 (λ_ _=>rfl))))) (λ_ _ _ _=>j9 (i:=0) a8W rfl (aI rfl)) (λ_ _ _ _=>j8 D4 d0 (j8 w8 (pv 0) (pv 1)))) c7)))
   (j0 (r6 (i:=12) dq.nd rfl (aI rfl) (B7 M0 (pv 10) (B8 d0) (B8 (j8 D4 d0 (l8 j5 (pv 5) d0 (λ_ _=>rfl))))))
   (t8 (CA (i:=13) ["pick"] [7] dq.nd rfl rfl rfl (C6 (pv 12)) (λ_ _ _ _=>j9 (i:=0) a8W rfl (aI rfl)) (λ_ _ _ _=>j8 He (j8 w8 (pv 0) (j8 D4 (pv 1) d0)) (v5 TH rfl T.int lJ (c6 (Z3 Ej (j8 w8 (pv 0) d0) d0 (r9 _)) c7))))
   (t8 (w6 (l5 E6 (j7 (Qq rfl) rfl T.max pF (c6 (pv 13) c7)) d0 (r9 _)) (j4 (D3 (j8 D4 d0 (j8 w8 (l8 j5 (pv 10) d0 (λ_ _=>rfl)) (pv 7))) (Gy (pv 13) (j8 w8 (l8 j5 (pv 10) d0 (λ_ _=>rfl)) (l8 j5 (pv 5) d0 (λ_ _=>rfl))) O1))) r8)
   (t8 (r6 (i:=14) dq.nd rfl (aI rfl) (A9 (c6 (pv 11) (c6 (v5 E7 rfl T.tuple hU (c6 (pv 13) c7)) c7))))
   (t8 (w6 (PW.pt (Gv (l5 (JU hr) (pv 8) (v9 c7) (r9 _)) (T4 (l5 E6 (j8 w8 (l8 j5 (pv 10) d0 (λ_ _=>rfl)) d0) d0 (r9 _)))))
    (j4 (r6 (i:=14) dq.nd rfl (aI rfl) (l7 Gn hr rfl mn kn bn .nil v6 (c6 (l8 j5 (pv 8) (j8 w8 (l8 j5 (pv 10) d0 (λ_ _=>rfl)) (j7 j6 rfl T.len bB (c6 (pv 8) c7))) (λ_ _=>rfl)) (c6 (pv 10) (c6 (pv 3) c7)))))) r8)
   (j4 (R3 (K7 iK jW jX P2 (pv 8) (c6 (pv 14) c7))))))))))))
  (j4 (o4 (pv 8))))))))⟩
end
theorem b3t(F:Aj K "_law_a_book" LR f fd)(T:v8 mg)
  (Gc:bf P w K mg base J8 n fc dc ["script","k"] (Ri K)) (bc:Binds K dc ["script","k"] []) (kc:dX K (.ref fc)=true) (mc:mg "_law_cell_at"=av (.ref fc))
  (Gw:bf P w K mg base J8 n fw dw ["cell","many","base"] (Rj K)) (bw:Binds K dw ["cell","many","base"] []) (kw:dX K (.ref fw)=true) (mw:mg "_law_draws"=av (.ref fw))
  (Gn:bf P w K mg base J8 n fn dn ["house","picks","far"] (Ot K)) (bn:Binds K dn ["house","picks","far"] []) (kn:dX K (.ref fn)=true) (mn:mg "_law_near"=av (.ref fn)) :
  bf P w K mg base J8 (n+1) f fd ["script","at","most","far"] (S4 K):=by
 refine F.oa dq λay A outer s H vs Q E hr h=>?_;obtain⟨a,ns,at',most,br,rfl,hS,hat,r_,uL,CV,q⟩:=h;refine⟨_,(abT T Gc bc kc mc Gw bw kw mw Gn bn kn mn hr).2,_,rfl,_,rfl,a,ns,at',rfl,hS,hat,λc=>⟨c,8,1000,rfl,by decide,by decide,by decide,λhl H1 hd e1 HB hlen hb=>?_⟩⟩;have zw:∀k:Int,0<=k->k<8->∃v,v∈hd/\U7 (hd.map V.int) k=av (.int v):=λk k0 k1=>K2 k0 (by lia);obtain⟨x0,m0,a0⟩:=zw 0 (by decide) (by decide);obtain⟨x1,m1,a1⟩:=zw 1 (by decide) (by decide);obtain⟨x2,m2,a2⟩:=zw 2 (by decide) (by decide);obtain⟨x3,m3,a3⟩:=zw 3 (by decide) (by decide);obtain⟨x4,m4,a4⟩:=zw 4 (by decide) (by decide);obtain⟨x5,m5,a5⟩:=zw 5 (by decide) (by decide);obtain⟨x7,m7,a7⟩:=zw 7 (by decide) (by decide);have b0:=hb x0 m0;have b1:=hb x1 m1;have b3:=hb x3 m3;have b4:=hb x4 m4;have b5:=hb x5 m5;have b7:=hb x7 m7;refine⟨λau H'=>∃(kl:aA)(kt kg:Nat),au=[av (.ref a),av (.int at'),av (.int most),av (.int br),av (.ref hl),av (.ref kl),bh,bh,bh,bh,bh,bh,bh,bh,bh]/\af H1 H'/\H' kl=av (.lst [.int (kt:Int),.int (kg:Int)])/\1<=kt/\kt<=4/\1<=kg/\kg<=4,?_,?_⟩
 ·have two:∀y:Int,0<=y->∃z:Int,(z=4\/z=2)/\U7 [V.int 4,V.int 2] (y%2)=av (.int z):=λy hy=>by
   obtain⟨z,hz,az⟩:=K2 (ns:=[4,2]) (k:=y%2) (by lia) (by show y%2<2;lia);exact⟨z,by simpa using hz,az⟩
  obtain⟨z1,hz1,az1⟩:=two x2 (hb x2 m2).1;refine⟨_,rfl,hl,_,0,_,rfl,rfl,ah.of HB,a0,(by show 2<=sizeLine;decide),λl1 Aw=>?_⟩;have s1:=af.new Aw (.lst [V.int 4,V.int 2]);refine⟨_,rfl,hl,_,2,_,rfl,rfl,ah.of (s1 _ _ HB),a2,_,_,rfl,rfl,(by show(0:Int)<2;decide),l1,_,_,_,rfl,rfl,ah.of ae,az1,_,_,rfl,rfl,(by show(0:Int)<z1;lia),_,_,rfl,rfl,_,rfl,hl,_,1,_,rfl,rfl,ah.of (s1 _ _ HB),a1,(by show 2<=sizeLine;decide),λl2 j_=>?_⟩;have s2:=af.new j_ (.lst [V.int 4,V.int 2]);refine⟨_,rfl,hl,_,2,_,rfl,rfl,ah.of (s2 _ _ (s1 _ _ HB)),a2,_,_,rfl,rfl,(by show(0:Int)<2;decide),l2,_,_,_,rfl,rfl,ah.of ae,az1,_,_,rfl,rfl,(by show(0:Int)<z1;lia),_,_,rfl,rfl,(by show 2<=sizeLine;decide),λkl iw=>?_⟩;have p0:0<=x0%z1/\x0%z1<z1:=⟨Int.emod_nonneg _ (by lia),eG _ (by lia)⟩;have p1:0<=x1%z1/\x1%z1<z1:=⟨Int.emod_nonneg _ (by lia),eG _ (by lia)⟩;refine⟨kl,(1+x0%z1).toNat,(1+x1%z1).toNat,rfl,s1.trans (s2.trans (af.new iw (.lst [V.int (1+x0%z1),V.int (1+x1%z1)]))),?_,by lia,by lia,by lia,by lia⟩;rw[ae,sA (by lia),sA (by lia)]
 intro au H2 cw;refine E8 λG_ cy=>?_;obtain⟨kl,kt,kg,rfl,e2,iw,ij,wx,Ja,wy⟩:=cw;subst cy;have WT:=e2 _ _ HB;refine⟨λau H'=>∃(many:Nat),au=[av (.ref a),av (.int at'),av (.int most),av (.int br),av (.ref hl),av (.ref kl),av (.int (many:Int)),bh,bh,bh,bh,bh,bh,bh,bh]/\af H2 H'/\1<=many/\(many:Int)<=most,?_,?_⟩
 ·refine⟨_,rfl,hl,_,3,_,rfl,rfl,ah.of WT,a3,_,rfl,_,rfl,_,_,rfl,(by show 2<=sizeLine;decide),λl1 Aw=>?_⟩;have s1:=af.new Aw (.lst [V.int most,V.int (if 4<most then 4 else most)]);obtain⟨z,hz,az⟩:=K2 (ns:=[most,if 4<most then 4 else most]) (k:=x4%3/2) (by lia) (by show x4%3/2<2;lia);have Ov:1<=z/\z<=most:=by
   simp only[bH,dJ,or_false] at hz;rcases hz with rfl|rfl
   ·lia
   ·split<;>lia
  refine⟨_,rfl,hl,_,4,_,rfl,rfl,ah.of (s1 _ _ WT),a4,_,_,rfl,rfl,(by show(0:Int)<3;decide),_,_,rfl,rfl,⟨by decide,by decide⟩,l1,_,_,_,rfl,rfl,ah.of ae,az,_,_,rfl,rfl,(by show(0:Int)<z;lia),_,_,rfl,rfl,?_⟩;have p0:0<=x3%z/\x3%z<z:=⟨Int.emod_nonneg _ (by lia),eG _ (by lia)⟩;refine⟨(1+x3%z).toNat,?_,s1,by lia,by lia⟩;rw[sA (by lia)];rfl
 intro au H3 cw;refine E8 λG_ cy=>?_;obtain⟨many,rfl,e3,mn1,mn2⟩:=cw;subst cy;have hh3:=e3 _ _ WT;refine⟨λau H'=>∃(size:Int),au=[av (.ref a),av (.int at'),av (.int most),av (.int br),av (.ref hl),av (.ref kl),av (.int (many:Int)),av (.int size),bh,bh,bh,bh,bh,bh,bh]/\af H3 H'/\1<=size/\size<=br/\size<=1000000000,?_,?_⟩
 ·refine⟨_,rfl,_,_,rfl,rfl,⟨by decide,by decide,by decide⟩,(by show 5<=sizeLine;decide),λl1 Aw=>?_⟩;have s1:=af.new Aw (.lst [V.int 4,V.int 9,V.int 50,V.int 1000,V.int (10^(9:Int).toNat)]);obtain⟨z,hz,az⟩:=K2 (ns:=[4,9,50,1000,10^(9:Int).toNat]) (k:=x5%5) (by lia) (by show x5%5<5;lia);have Ov:1<=z/\z<=1000000000:=by
   have e9:(10:Int)^(9:Int).toNat=1000000000:=by decide
   rw[e9] at hz;simp only[bH,dJ,or_false] at hz;rcases hz with rfl|rfl|rfl|rfl|rfl<;>decide
  refine⟨_,rfl,hl,_,5,_,rfl,rfl,ah.of (s1 _ _ hh3),a5,_,_,rfl,rfl,(by show(0:Int)<5;decide),l1,_,_,_,rfl,rfl,ah.of ae,az,_,_,rfl,?_⟩;refine⟨_,rfl,s1,?_,?_,?_⟩<;>(split<;>lia)
 intro au H4 cw;refine E8 λG_ cy=>?_;obtain⟨size,rfl,e4,sz1,szf,S5⟩:=cw;subst cy;have Ew:af H H4:=e1.trans (e2.trans (e3.trans e4));refine⟨(by show 0<=sizeLine;decide),λbl kj=>⟨_,rfl,(many:Int),rfl,by lia,by lia,?_⟩⟩;rw[cF];refine PZ (n:=many) (λi σ H'=>∃(xs:List V)(hs:List i8)(o9 HC BP ux CW zj:Option V),σ=[av (.ref a),av (.int at'),av (.int most),av (.int br),av (.ref hl),av (.ref kl),av (.int (many:Int)),av (.int size),av (.ref bl),o9,HC,BP,ux,CW,zj]/\
   af H4 H'/\H' bl=av (.lst xs)/\Bk K H' xs hs/\bx hs=i/\∀h∈hs,HG br kt kg h)
  ⟨[],[],_,_,_,_,_,_,rfl,af.new kj _,ae,.nil,rfl,λh hh=>(by cases hh)⟩ ?_ ?_
 ·rintro i σ H5 hi ⟨xs,hs,o9,HC,BP,ux,CW,zj,rfl,e5,Mi,hB,BN,hG⟩;have hh5:=e5 _ _ (e4 _ _ hh3);have xlen:bx xs=bx hs:=dE hB;have ak1:U7 [V.int (kt:Int),V.int (kg:Int)] 1=av (.int (kg:Int)):=A2 (j:=1) rfl;refine⟨λau H'=>∃(pl:aA)(ds:List Int),au=[av (.ref a),av (.int at'),av (.int most),av (.int br),av (.ref hl),av (.ref kl),av (.int (many:Int)),av (.int size),av (.ref bl),av (.int (0+(i:Int))),av (.ref pl),BP,ux,CW,zj]/\af H5 H'/\H' pl=av (.lst (ds.map V.int))/\bx ds=12/\∀d∈ds,0<=d,?_,?_⟩
  ·exact⟨_,rfl,_,rfl,_,_,rfl,rfl,a,ns,at'+1,rfl,(Ew.trans e5).seq hS,by lia,λc=>⟨_,rfl,_,rfl,hl,_,7,_,rfl,rfl,ah.of hh5,a7,_,_,rfl,rfl,_,_,rfl,rfl,.inl ⟨by lia,by lia⟩,_,_,rfl,rfl,_,_,rfl,rfl,⟨by decide,by decide,by decide⟩,_,12,_,rfl,by decide,by decide,by decide,λpl H6 ds e6 Rn l6 d6=>⟨pl,ds,rfl,e6,Rn,l6,λd hd=>(d6 d hd).1⟩⟩⟩
  intro au H6 cw;refine E8 λG_ cy=>?_;obtain⟨pl,ds,rfl,e6,Rn,l6,d6⟩:=cw;subst cy;have hh6:=e6 _ _ hh5;have hk6:=e6 _ _ (e5 _ _ (e4 _ _ (e3 _ _ iw)));have pk:∀k:Int,0<=k->k<12->∃v,v∈ds/\U7 (ds.map V.int) k=av (.int v):=λk k0 k1=>K2 k0 (by lia);obtain⟨y8,n8,c8⟩:=pk 8 (by decide) (by decide);obtain⟨y9,n9,c9⟩:=pk 9 (by decide) (by decide);obtain⟨y10,WU,c10⟩:=pk 10 (by decide) (by decide);obtain⟨Ow,WV,c11⟩:=pk 11 (by decide) (by decide);have g8:=d6 _ n8;have g9:=d6 _ n9;have g10:=d6 _ WU;have WW:=d6 _ WV;have dl:bx (ds.map V.int)=12:=by rw[aH];exact l6
  refine⟨λau H'=>∃(tp:aA)(At:List Int),au=[av (.ref a),av (.int at'),av (.int most),av (.int br),av (.ref hl),av (.ref kl),av (.int (many:Int)),av (.int size),av (.ref bl),av (.int (0+(i:Int))),av (.ref pl),av (.ref tp),ux,CW,zj]/\af H6 H'/\H' tp=av (.tup (At.map V.int))/\bx At=kt/\∀x∈At,1<=x/\x<=br,?_,?_⟩
  ·have ec:P5 (ds.map V.int) bh (av (kt:Int))=(ds.take kt).map V.int:=by
    unfold P5;rw[HT.rp,HT.gy,dl,oY,pG];congr 1;lia
   refine⟨_,rfl,_,rfl,kl,_,0,_,rfl,rfl,ah.of hk6,A2 (j:=0) rfl,_,rfl,pl,_,rfl,ah.of Rn,λcp hcp=>?_⟩;rw[ec];refine⟨cp,rfl,⟨_,ah.of ae⟩,λlp Rk=>(O9 (A3 (ah.of ae)) Rk (by rw[aH,cI];exact t9 (by lia)) (λx=>.int (1+vI x%size)) (λj x H' N hx e hN=>?_) ?_)⟩
   ·obtain⟨k,rfl⟩:=T0 hx;exact⟨Wk.set (by decide),_,rfl,_,rfl,_,_,rfl,rfl,(by show(0:Int)<size;lia),_,_,rfl,rfl,hN⟩
   ·have eA:((ds.take kt).map V.int).map (λx=>V.int (1+vI x%size))=((ds.take kt).map λd=>1+d%size).map V.int:=by rw[bC,bC];rfl
    rw[eA];refine⟨lp,_,rfl,.inl ⟨ah.of ae,λtp UC=>⟨tp,(ds.take kt).map λd=>1+d%size,rfl,(af.new hcp (.lst ((ds.take kt).map V.int))).trans ((af.new Rk (.lst (((ds.take kt).map λd=>1+d%size).map V.int))).trans (af.new UC _)),ae,by rw[aH,cI];lia,λx hx=>?_⟩⟩⟩;obtain⟨d,_,rfl⟩:=aY.mp hx;have p0:0<=d%size/\d%size<size:=⟨Int.emod_nonneg _ (by lia),eG _ (by lia)⟩;lia
  intro au H7 cw;refine E8 λG_ cy=>?_;obtain⟨tp,At,rfl,e7,ht7,lAt,tAt⟩:=cw;subst cy;have WX:=e7 _ _ Rn;have hk7:=e7 _ _ hk6;have hb7:=e7 _ _ (e6 _ _ Mi);have ec:P5 (ds.map V.int) (av 4) (av (4+(kg:Int)))=((ds.drop 4).take kg).map V.int:=by
   unfold P5;have z1:HT.wc (bx (ds.map V.int)) 0 (av 4)=4:=by
    have:=HT.gy (bx (ds.map V.int)) 0 4;rw[dl] at this⊢;exact this
   have z2:HT.wc (bx (ds.map V.int)) (bx (ds.map V.int)) (av (4+(kg:Int)))=4+kg:=by
    have:=HT.gy (bx (ds.map V.int)) (bx (ds.map V.int)) (4+kg);rw[dl] at this⊢;rw[show(4:Int)+(kg:Int)=((4+kg:Nat):Int) by lia,this];lia
   rw[z1,z2,pG,pH];congr 1;lia
  refine⟨_,rfl,_,rfl,_,rfl,kl,_,1,_,rfl,rfl,ah.of hk7,ak1,_,_,rfl,rfl,_,rfl,pl,_,rfl,ah.of WX,λsp iu=>?_⟩;rw[ec];have s7:=af.new iu (.lst (((ds.drop 4).take kg).map V.int));refine⟨λau H'=>∃(gp:aA)(Bs:List Int)(ux:Option V),au=[av (.ref a),av (.int at'),av (.int most),av (.int br),av (.ref hl),av (.ref kl),av (.int (many:Int)),av (.int size),av (.ref bl),av (.int (0+(i:Int))),av (.ref pl),av (.ref tp),ux,av (.ref gp),zj]/\af H7 H'/\H7 gp=bh/\H' gp=av (.lst (Bs.map V.int))/\bx Bs=kg/\∀x∈Bs,0<=x/\x<=br,?_,?_⟩
  ·refine⟨_,rfl,sp,rfl,⟨_,ah.of ae⟩,λgp WY=>(O9 (A3 (ah.of ae)) WY (by rw[aH,cI];exact t9 (by lia)) (λx=>.int (vI x%(size+1)*(if decide (0<vI x%7)=true then 1 else 0))) (λj x H' N hx e hN=>?_) ?_)⟩
   ·obtain⟨k,rfl⟩:=T0 hx;refine⟨Wk.set (by decide),_,rfl,_,rfl,_,_,rfl,rfl,_,_,rfl,rfl,(by show(0:Int)<size+1;lia),_,rfl,_,_,rfl,rfl,(by show(0:Int)<7;decide),_,_,rfl,rfl,.inr ⟨_,rfl,_,_,rfl,rfl,.inr ?_,hN⟩⟩;constructor<;>(split<;>decide)
   ·have eB:(((ds.drop 4).take kg).map V.int).map (λx=>V.int (vI x%(size+1)*(if decide (0<vI x%7)=true then 1 else 0)))=(((ds.drop 4).take kg).map λd=>d%(size+1)*(if decide (0<d%7)=true then 1 else 0)).map V.int:=by rw[bC,bC];rfl
    rw[eB];refine⟨gp,_,_,rfl,s7.trans (af.new WY _),s7.free WY,ae,by rw[aH,cI,eJ];lia,λx hx=>?_⟩;obtain⟨d,_,rfl⟩:=aY.mp hx;have p0:0<=d%(size+1)/\d%(size+1)<size+1:=⟨Int.emod_nonneg _ (by lia),eG _ (by lia)⟩;split<;>lia
  intro au H8 cw;refine E8 λG_ cy=>?_;obtain⟨gp,Bs,o12',rfl,e8,f8,WZ,Ox,W_⟩:=cw;subst cy;have hp8:=e8 _ _ WX;have Mh:bx (Bs.map V.int)=kg:=by rw[aH];exact Ox
  refine⟨λau H'=>∃(Bs:List Int)(ux:Option V),au=[av (.ref a),av (.int at'),av (.int most),av (.int br),av (.ref hl),av (.ref kl),av (.int (many:Int)),av (.int size),av (.ref bl),av (.int (0+(i:Int))),av (.ref pl),av (.ref tp),ux,av (.ref gp),zj]/\af H7 H'/\H' gp=av (.lst (Bs.map V.int))/\bx Bs=kg/\(∀x∈Bs,0<=x/\x<=br)/\∃x∈Bs,0<x,?_,?_⟩
  ·refine⟨_,rfl,gp,Bs,rfl,.inl (ah.of WZ),(λz=>by rw[z] at Ox;simp at Ox;lia),λM hM hMx=>⟨rfl,_,rfl,y6 (λc=>?_) (λc=>?_)⟩⟩
   ·refine⟨_,rfl,pl,_,9,_,rfl,rfl,ah.of hp8,c9,_,rfl,_,_,rfl,rfl,(by show(0:Int)<size;lia),_,_,rfl,rfl,_,rfl,_,rfl,pl,_,8,_,rfl,rfl,ah.of hp8,c8,_,rfl,kl,_,1,_,rfl,rfl,ah.of (e8 _ _ hk7),ak1,_,_,rfl,rfl,(by show(0:Int)<(kg:Int);lia),?_⟩;have r0:0<=y8%(kg:Int):=fN _ (by lia);have r1:y8%(kg:Int)<(bx (Bs.map V.int):Int):=by rw[Mh];exact eG _ (by lia)
    have rn:(y8%(kg:Int)).toNat<bx Bs:=by rw[Mh] at r1;lia
    have p0:0<=y9%size/\y9%size<size:=⟨Int.emod_nonneg _ (by lia),eG _ (by lia)⟩;refine⟨gp,_,_,_,rfl,rfl,WZ,Mg r0 r1,Bs.set (y8%(kg:Int)).toNat _,_,rfl,e8.write f8,by rw[ae,map_set],by rw[eE];exact Ox,λx hx=>?_,_,xE rn _,by lia⟩;rcases pD hx with z|z
    ·exact W_ x z
    ·lia
   ·have c':¬M=0:=λz=>c (decide_eq_true (by rw[z]));have:=W_ M hM;exact⟨Bs,_,rfl,e8,WZ,Ox,W_,M,hM,by lia⟩
  intro au H9 cw;refine E8 λG_ cy=>?_;obtain⟨Bt,Jb,rfl,e9,hg9,lBt,tBt,tPt⟩:=cw;subst cy;refine⟨λau H'=>∃(v:V)(h:i8)(ux:Option V),au=[av (.ref a),av (.int at'),av (.int most),av (.int br),av (.ref hl),av (.ref kl),av (.int (many:Int)),av (.int size),av (.ref bl),av (.int (0+(i:Int))),av (.ref pl),av (.ref tp),ux,av (.ref gp),av v]/\af H7 H'/\HS K H' v h/\HG br kt kg h,?_,?_⟩
  ·refine⟨_,rfl,_,rfl,gp,_,rfl,.inl ⟨ah.of hg9,λpg WN=>?_⟩⟩;have f1:=af.new WN (.tup (Bt.map V.int));refine⟨(by show 2<=sizeLine;decide),λpr HA=>?_⟩;have f2:=af.new HA (.tup [V.ref tp,V.ref pg]);exact⟨_,(At,Bt),_,rfl,e9.trans (f1.trans f2),⟨pr,tp,pg,rfl,cq.of ae,cq.of (f2 _ _ (f1 _ _ (e9 _ _ ht7))),cq.of (f2 _ _ ae)⟩,⟨lAt,lBt,tAt,tBt,tPt⟩⟩
  intro au JS cw;refine E8 λG_ cy=>?_;obtain⟨v,h,Jb,rfl,GL,hv,Ro⟩:=cw;subst cy;refine⟨λau H'=>∃(v:V)(h:i8)(ux:Option V),au=[av (.ref a),av (.int at'),av (.int most),av (.int br),av (.ref hl),av (.ref kl),av (.int (many:Int)),av (.int size),av (.ref bl),av (.int (0+(i:Int))),av (.ref pl),av (.ref tp),ux,av (.ref gp),av v]/\af H5 H'/\HS K H' v h/\HG br kt kg h,?_,?_⟩
  ·refine⟨_,rfl,(by show 0<=sizeLine;decide),λep hep=>?_⟩;have f1:=af.new hep (.lst []);have Az:=((e6.trans e7).trans GL).trans f1;refine⟨.list (hs.map Y5),.list [],.lst (ah.of (Az _ _ Mi)) (Bk.Gi (Bk.same Az hB)),.lst (ah.of ae) .nil,SX hs,rfl,bF (Nat.min_le_right _ _) (by decide),_,rfl,y6 (λc=>?_) (λc=>M7 ⟨v,h,_,rfl,Az,hv.same f1,Ro⟩)⟩;have ur:0<bx hs:=by
    cases hs with
    |nil=>exact absurd c (by simp[cK,hV])
    |cons _ _=>simp
   have Ko:upd JS ep (.lst []) pl=av (.lst (ds.map V.int)):=f1 _ _ (GL _ _ WX);have CY:=Az _ _ Mi;refine⟨_,rfl,pl,_,10,_,rfl,rfl,ah.of Ko,c10,_,_,rfl,rfl,(by show(0:Int)<4;decide),rfl,_,rfl,y6 (λc=>?_) (λc=>⟨v,h,_,rfl,Az,hv.same f1,Ro⟩)⟩;have r0:0<=Ow%(bx xs:Int):=fN _ (by lia);have r1:Ow%(bx xs:Int)<(bx xs:Int):=eG _ (by lia);have hk:(Ow%(bx xs:Int)).toNat<bx xs:=by lia
   have ax:U7 xs (Ow%(bx xs:Int))=av xs[(Ow%(bx xs:Int)).toNat]:=by
    unfold U7;rw[Mg r0 r1];exact aS hk
   obtain⟨h',Kp,dt⟩:=aZ.at hB (aS hk);refine⟨_,rfl,_,rfl,pl,_,11,_,rfl,rfl,ah.of Ko,c11,_,rfl,bl,_,rfl,.inl (ah.of CY),_,_,rfl,rfl,(by show(0:Int)<(bx xs:Int);lia),bl,_,_,_,rfl,rfl,ah.of CY,ax,_,rfl,_,rfl,_,pl,br,br,h',ds,kt,kg,rfl,dt.same Az,hG h' (bK Kp),ij,wx,Ja,wy,CV,dL _,ah.of Ko,by lia,d6,λr Rp yg Oy qe Xb=>⟨r,yg,_,rfl,Az.trans Oy,qe,Xb⟩⟩
  intro au Qp cw;refine E8 λG_ cy=>?_;obtain⟨v,h,Jb,rfl,IK,hv,Ro⟩:=cw;subst cy;have CY:=IK _ _ Mi;refine⟨_,rfl,.inl ⟨rfl,_,ah.of CY⟩,_,rfl,bl,xs,v,rfl,rfl,CY,t9 (by lia),?_⟩;have kp:ng Qp (upd Qp bl (.lst (xs++[v]))):=ng.upd CY;refine⟨xs++[v],hs++[h],_,_,_,_,_,_,rfl,(e5.trans IK).write kj,ae,aZ.app (Bk.keep kp (Bk.same IK hB)) (.cons (HS.keep kp hv) .nil),by rw[aX,BN];rfl,λh' hm=>?_⟩;rcases bJ.mp hm with z|z
  ·exact hG h' z
  ·rw[cJ.mp z];exact Ro
 ·intro σ H' cw;refine E8 λG_ cy=>?_;obtain⟨xs,hs,o9,HC,BP,ux,CW,zj,rfl,e5,Mi,hB,BN,hG⟩:=cw;subst cy;exact⟨_,rfl,q bl H' xs hs kt kg (Ew.trans e5) Mi hB (by lia) (by lia) ij wx Ja wy hG⟩
end de
namespace de
open PySem L2 Fr
def c1b(K:aF):List V->Hp->VK->Prop:=λvs H Q=>∃(a:aA)(ns:List Int),vs=[.ref a]/\JT K H a (ns.map V.int)/\Q (.int ns.sum) H
theorem Gj K(h:X.K=K)(hc:X.calm=true):K6 X (.builtin "sum") (c1b K):=by subst h;exact b1s hc
theorem zO K(h:X.K=K):JJ X (O2 K):=by subst h;exact U8
def Xc(K:aF)(H:Hp)(v:V)(f:Q2):Prop:=∃a,v=.ref a/\cq K H a [.int f.1,.int f.2]
def Ex(H:Hp)(v:V)(f:Q2):Prop:=∃a,v=.ref a/\H a=av (.tup [.int f.1,.int f.2])
theorem Ex.v{v}(h:Ex H v f):Xc K H v f:=by
 obtain⟨a,e,q⟩:=h;exact⟨a,e,cq.of q⟩
theorem Ex.same{v}(e:af H H')(h:Ex H v f):Ex H' v f:=by
 obtain⟨a,z,q⟩:=h;exact⟨a,z,e _ _ q⟩
theorem Xc.same(e:af H H')(h:Xc K H v f):Xc K H' v f:=by
 obtain⟨a,z,q⟩:=h;exact⟨a,z,e.cm q⟩
structure CZ(P:aM)(w:aL)(K:aF)(mg:aC->Option aE)(base:aJ)(n:Nat)(x:aC)(ps:List aC)(sp:Sp)(fa:aA)(d:aK):Prop where
 ok:bf P w K mg base J8 n fa d ps sp
 b:Binds K d ps []
 k:dX K (.ref fa)=true
 m:mg x=av (.ref fa)
def CZ.c{X:Cx}(C:CZ X.prog X.w X.K X.mg X.base j x ps sp f fd)(hr:b_ j X.A)(ha:PA X (e::es) t)(hg:Gl X x:=by exact rfl)(hd:(x==("__debug__":aC))=false:=by decide)(he:starEach (e::es) X.env=(false,eval e X.env)::starEach es X.env:=by rfl)(hp:(backTo pos (starEach es X.env)).any (·.1)=false:=by rfl):PE X (.Call (.Name x p) (e::es) [] pos) (Qf sp [] E0 t):=l7 C.ok hr hg C.m C.k C.b .nil v6 ha hd he hp
inductive Gk(vs:List V)(H:Hp)(Q:VK)(dj:XK):Prop|mk:∀a b,vs=[.int a,.int b]->0<=b->Q (.int (gI a b)) H->Gk vs H Q dj
def Jc:p7 ["one","other"] ["one","other"] (i9 VB):={}
def c0k:St->Nat:=λσ=>match σ with|[_,av (.int y)]=>y.toNat|_=>0
theorem b7s x:(if x<0 then -x else x)=gI x 0:=by
 rw[b5L];split<;>lia
theorem b6B(F:Aj K "common_divisor" VB f fd)(T:v8 mg):bf P w K mg base J8 (n+1) f fd ["one","other"] Gk:=by
 refine F.oa Jc λay A outer s H vs Q E hr h=>?_;obtain⟨a,b,rfl,hb,q⟩:=h;refine⟨_,j0 (N4 hO (l5 Ei (pv 1) d0 (r9 _)) (j4 (b7C (i:=0) (j:=1) rfl Jc.nd rfl rfl (by decide) rfl rfl (c6 (pv 1) (c6 (j8 w8 (pv 0) (pv 1)) c7)) rfl)))
  (j4 (o4 (j7 b3Q rfl T.abs (Al) (c6 (pv 0) c7)))),?_⟩
 refine b2G (λσ H'=>∃x y,σ=[av (.int x),av (.int y)]/\H'=H/\0<=y/\gI x y=gI a b) (λσ _=>c0k σ) ⟨a,b,rfl,rfl,hb,rfl⟩ ?_ λσ H Q Q' hq ⟨v,h1,h2,k,h3,q⟩=>⟨v,h1,h2,k,h3,hq _ _ q⟩;rintro σ H' ⟨x,y,rfl,rfl,hy,hg⟩;refine⟨_,rfl,rfl,_,rfl,y6 (λc=>?_) λc=>?_⟩
 ·have Rq:0<y:=by
   by_cases z:y=0
   ·subst z;simp at c
   ·lia
  have hm:=fN x (show y≠0 by lia);have hl:=eG x Rq;refine⟨_,rfl,_,rfl,_,rfl,_,_,rfl,rfl,Rq,_,_,rfl,⟨y,x%y,rfl,rfl,hm,?_⟩,?_⟩
  ·rw[b4a];exact hg
  ·show(x%y).toNat<y.toNat;lia
 ·have Rq:y=0:=by simp_all
  subst Rq;refine⟨_,rfl,_,rfl,?_⟩;rw[b7s,hg];exact q
theorem fh.mono(h:fh n i)(hn:n<=m):fh m i:=bS h (lG (by decide) hn)
theorem fh.mul(h:fh n i)(k:fh m j):fh (n+m) (i*j):=by
 unfold fh at *;rw[rV,xF];exact Nat.mul_lt_mul_of_lt_of_lt h k
theorem fh.add{n:Nat}{i j:Int}(h:fh n i)(k:fh n j):fh (n+1) (i+j):=by
 unfold fh at *;have:=Int.natAbs_add_le i j;rw[wY];lia
theorem Gm{i:Int}{n:Nat}(h0:0<=i)(h1:i<2^n):fh n i:=by
 have e:((2^n:Nat):Int)=2^n:=by simp
 unfold fh;lia
theorem fh.lt{i:Int}{n:Nat}(h:fh n i):i<2^n:=by
 have e:((2^n:Nat):Int)=2^n:=by simp
 unfold fh at h;lia
inductive Xd(vs:List V)(H:Hp)(Q:VK)(dj:XK):Prop|mk:∀t b,vs=[.int t,.int b]->0<b->b<2^8000->(∀v H',af H H'->Ex H' v (low t b)->Q v H')->Xd vs H Q dj
def Jd:p7 ["top","bottom","divisor"] ["top","bottom"] (i9 VC):={}
theorem b7t(F:Aj K "lowest" VC f fd)(T:v8 mg)(C:CZ P w K mg base n "common_divisor" ["one","other"] Gk fa da):bf P w K mg base J8 (n+1) f fd ["top","bottom"] Xd:=by
 refine F.oa Jd λay A outer s H vs Q E hr h=>?_;obtain⟨t,b,rfl,hb,IU,q⟩:=h;refine⟨_,j0 (w6 (l5 E6 (pv 1) d0 (r9 _)) a5n r8)
  (j0 (r6 (i:=2) Jd.nd rfl (aI rfl) (C.c hr (c6 (pv 0) (c6 (pv 1) c7))))
  (j0 (w6 (l5 EI (pv 1) d0 (r9 _)) a5n r8)
  (j4 (o4 (A9 (c6 (j8 UA (pv 0) (pv 2)) (c6 (j8 UA (pv 1) (pv 2)) c7))))))),?_⟩
 refine⟨_,rfl,rfl,_,rfl,y6 (λc=>?_) λ_=>?_⟩
 ·have:=V.int.inj (of_decide_eq_true c);lia
 refine⟨_,rfl,_,rfl,t,b,rfl,cC hb,_,rfl,_,_,rfl,rfl,_,rfl,y6 (λc=>?_) (λ_=>?_)⟩
 ·have:b<0:=of_decide_eq_true c;lia
 have hg:=QL (a:=t) hb;have Hm:=b9G (a:=t) hb;exact⟨_,rfl,_,rfl,_,_,rfl,rfl,⟨hg,pI Hm IU⟩,_,rfl,_,rfl,_,_,rfl,rfl,⟨hg,pI Hm IU⟩,(by show 2<=sizeLine;decide),λp hp=>(q _ _ (af.new hp _) ⟨p,rfl,ae⟩)⟩
def Oz(a b:α):U7 [a,b] 0=av a:=A2 rfl
def Mj(a b:α):U7 [a,b] 1=av b:=A2 rfl
theorem U5 t:bU K t t=av true:=by unfold bU;rw[if_pos (beq_self_eq_true _)]
def a5G:bU K (.type "int") (.type "bool")=av false:=rfl
def AA(k:Nat)(m:Int):Prop:=0<=m/\m<(k:Int)
inductive OA(K:aF)(CN:aA)(vs:List V)(H:Hp)(Q:VK)(E:XK):Prop|mk:∀(a:aA)(xs:List V)(m:Int),vs=[.ref a,.int m]->ah K H a xs->m.natAbs.log2<1920->(∀(i:Nat)x,m=(i:Int)->xs[i]?=av x->Q x H)->(¬AA (bx xs) m->E (.ref CN) bh H)->OA K CN vs H Q E
def b9n:p7 ["book","number"] ["book","number"] (i9 VD):={}
theorem b7u(F:Aj K "house_of" VD f fd)(T:v8 mg)(kN:X4 K CN)(mN:mg "NoHouse"=av (.ref CN)):bf P w K mg base (W2 P w) (n+1) f fd ["book","number"] (OA K CN):=by
 refine F.ob b9n λay A outer s H vs Q E hr h=>?_;obtain⟨a,xs,m,rfl,hS,hm,q,hE⟩:=h;refine⟨_,j0 (w6 (S6 (MZ EJ EI d0 (pv 1) (j7 j6 rfl T.len bB (c6 (pv 0) c7)))) (j4 (T7 kN rfl mN hr.hd (c6 (b5G (pv 1) (by decide)) c7))) r8)
  (j4 (o4 (l8 j5 (pv 0) (pv 1) λ_ _=>rfl))),?_⟩
 refine⟨_,rfl,_,_,rfl,rfl,_,rfl,?_⟩;have bad:¬AA (bx xs) m->b3F (Z2 (tFs (JB 1)) yb) CN E {nx:=λ_ H'=>Q .non H',rt:=Q} (V6 ["book","number"] [.ref a,.int m]) H:=λhb=>⟨_,rfl,m,rfl,hm,λx=>⟨(by show 1<=1000;decide),hE hb⟩⟩;refine y6 (λc=>?_) λc=>⟨_,rfl,J3 (bad λz=>(of_decide_eq_false (eN.mpr c)) z.1)⟩
 ·have c':=of_decide_eq_true c;refine⟨_,rfl,a,_,rfl,.inl hS,_,_,rfl,rfl,_,rfl,y6 (λd=>?_) λd=>?_⟩
  ·have d':¬m<(bx xs:Int):=of_decide_eq_false (by simpa using d);exact bad λz=>d' z.2
  ·have d':m<(bx xs:Int):=of_decide_eq_true (by simpa using d);obtain⟨j,rfl⟩:∃j:Nat,m=(j:Int):=⟨m.toNat,by lia⟩;have hi:j<bx xs:=by lia
   exact⟨_,rfl,_,rfl,a,_,_,_,rfl,rfl,hS,A2 (aS hi),q j xs[j] rfl (aS hi)⟩
end de
namespace L2
open PySem PySem.Spec PyProof.Rows
structure Rr(K:aF)(P:gN)(d:aA):Prop where
 ex:∃es n,K.lookup d=av ⟨.type "dict",bh,.dict es n,#[]⟩/\lK P es.toList
inductive c0r(K:aF)(P:gN)(x y:V)(H:Hp)(Q:VK):Prop|mk:∀d z t,x=.ref d->y=.str z->Rr K P d->bM K d z=av (av (.ref t))->Q (.ref t) H->c0r K P x y H Q
theorem Kq K P(hK:X.K=K)(hP:X.w.params=P):JJ X (c0r K P):=by
 subst hK;subst hP;intro value slice bz s σ H x y v u Q I rx ry h hs;obtain⟨d,z,t,rfl,rfl,⟨es,n,hl,hk⟩,e,q⟩:=h;cases rx;obtain⟨tk,rfl⟩:=ry;obtain⟨m,hm⟩:=I.fr;exact W.topItem_K hm I.mod.zu hl hk e ⟨.ref t,H,I.tok _,rfl,q⟩ (by simp_all)
end L2
namespace L2
open PySem
theorem b6A K(h:X.K=K)(hl:PE X l tl):PI X tg l (Tw K tl):=by subst h;exact IE hl
end L2
namespace de
open PySem L2 Fr
def O4(z:aC):Prop:=z="any"\/z="one"\/z="less"\/z="more"
def K5(z:aC):List Int:=if z="any" then [] else if z="one" then [1,-1] else if z="less" then [-1] else [1]
structure Sg(K:aF)(Pm:gN)(mg:aC->Option aE)(d:aA):Prop where
 m:mg "SIZE_SIGNS"=av (.ref d)
 k:Rr K Pm d
 tt:∀z,O4 z->∃t,bM K d z=av (av (.ref t))/\∀H,cq K H t ((K5 z).map V.int)
def A7(z:aC)(h:i8):List Int:=h.1.map (λx=>-x)++h.2++K5 z
section
variable{P:aM}{w:aL}{K:aF}{mg:aC->Option aE}{base:aJ}{f Pt d:aA}{fd:aK}{n:Nat}{C:aA}
inductive M4(K:aF)(vs:List V)(H:Hp)(Q:VK)(dj:XK):Prop|mk:∀(ba:aA)(xs:List V)(hs:List i8)(z:aC)(kt kg:Nat),vs=[.ref ba,.str z]->O4 z->ah K H ba xs->Bk K H xs hs->bx hs<=100->kt<=100->kg<=100->(∀h∈hs,bx h.1=kt/\bx h.2=kg)->(∀r H'(rs:List aA),af H H'->H' r=av (.lst (rs.map V.ref))->bx rs=bx hs->(∀(i:Nat)a h,rs[i]?=av a->hs[i]?=av h->H' a=av (.lst ((A7 z h).map V.int)))->Q (.ref r) H')->M4 K vs H Q dj
def OB:p7 ["houses","sizes","signs"] ["houses","sizes"] (i9 X2):={}
theorem b6o:(["takes","gives","signs"]:List aC).Nodup:=by decide
theorem b8G:(["take"]:List aC).Nodup:=by simp
theorem Ml z:bx (K5 z)<=2:=by
 unfold K5;by_cases h1:z="any"
 ·rw[if_pos h1];decide
 by_cases h2:z="one"
 ·rw[if_neg h1,if_pos h2];decide
 by_cases h3:z="less"
 ·rw[if_neg h1,if_neg h2,if_pos h3];decide
 ·rw[if_neg h1,if_neg h2,if_neg h3];decide
def hrT(N:v8 mg)(G:Sg K w.params mg d) :
  {t:TS//fu (N8 J8 P w K mg base ["houses","sizes","signs"] "house_rows" (i9 X2) f ay A outer s H E).oi (x9 X2) t} :=
 ⟨_,j0 (r6 (i:=2) OB.nd rfl (fY rfl) (v5 C5 rfl N.list fJ (c6 (l8 (Kq K w.params rfl rfl) (C4 (v:=.ref d) rfl G.m rfl) (pv 1) λ_ _=>rfl) c7)))
  (j4 (o4 (N6 ["takes","gives"] [2] rfl (C6 (pv 0))
   (λ_ _ _ _=>IX K (n:=2) rfl rfl (p6 (j9 (i:=0) b6o rfl (aI rfl)) (p6 (j9 (i:=1) b6o rfl (aI rfl)) A4)))
   (λ_ _ _ _=>j8 B9 (j8 B9 (N6 ["take"] [] rfl (b6A K rfl (pv 0)) (λ_ _ _ _=>j9 (i:=0) b8G rfl (aI rfl)) (λ_ _ _ _=>Eh V2 (pv 0))) (v5 (Wo K rfl) rfl N.list fJ (c6 (pv 1) c7))) (pv 2)))))⟩
theorem a5Z(F:Aj K "house_rows" X2 f fd)(N:v8 mg)(G:Sg K w.params mg d):bf P w K mg base J8 (n+1) f fd ["houses","sizes"] (M4 K):=by
 refine F.oa OB λay A outer s H vs Q E hr h=>?_;obtain⟨ba,xs,hs,z,kt,kg,rfl,hz,hB,Je,hl,Kr,Ks,hlen,k⟩:=h;refine⟨_,(hrT N G).2,?_⟩;obtain⟨t,ht,hT⟩:=G.tt z hz;have xl:=dE Je;refine⟨_,rfl,d,z,t,rfl,rfl,G.k,ht,t,_,rfl,.inr (hT _),λsl je=>?_⟩;have e0:=af.new je (.lst ((K5 z).map V.int));refine⟨_,rfl,ba,rfl,⟨_,e0.seq hB⟩,λl jl=>?_⟩;refine N5 (A3 (e0.seq hB)) jl (by rw[xl];exact t9 (by lia)) (λi y H2=>∃a h,y=.ref a/\a≠l/\hs[i]?=av h/\H2 a=av (.lst ((A7 z h).map V.int)))
  (λi y H2 H3 ⟨a,h,h1,h2,h3,h4⟩ e=>⟨a,h,h1,h2,h3,e a _ h2 h4⟩) (λi x H2 ys N' hx e j_ hN=>?_) λys H2 e j_ len pr=>?_
 ·obtain⟨h,hh,OC⟩:=aZ.at Je hx;obtain⟨a,ta,ga,rfl,p1,p2,p3⟩:=(OC.same (e0.trans e));have lh:=hlen h (bK hh);refine⟨a,_,rfl,p1,rfl,_,_,rfl,_,_,rfl,rfl,?_,?_⟩
  ·refine⟨by simp,λk w ek=>?_⟩;have:¬k<2:=λhk=>by
    unfold c_ at ek;rw[dH (by simpa using hk),gD] at ek;split at ek<;>cases ek
   rw[dP (by lia),dP (by lia)];exact ek
  refine⟨_,rfl,ta,rfl,⟨_,p2⟩,λa1 h1=>(O9 (U3 p2) h1 (by rw[aH,lh.1];exact t9 (by lia)) (λx=>.int (-(vI x))) (λj x H' N2 El e2 OD=>?_) ?_)⟩
  ·obtain⟨x',rfl,_⟩:=LY El;exact⟨Wk.set (by decide),_,rfl,_,rfl,OD⟩
  have eg:(h.1.map V.int).map (λx=>V.int (-(vI x)))=(h.1.map λx=>-x).map V.int:=by rw[bC,bC];rfl
  rw[eg];have s1:=af.new h1 (.lst ((h.1.map λx=>-x).map V.int));refine⟨_,rfl,ga,_,rfl,.inr (s1.cm p3),λa2 h2=>?_⟩;have sz:=t9 (show kt+kg+2<=1000 by lia);have sg:=Ml z;refine⟨a1,a2,_,_,rfl,rfl,(by rw[j3 (i7 ae h2)];exact ae),ae,?_,λa3 h3=>?_⟩
  ·rw[aH,aH,aH,lh.1,lh.2];lia
  have s3:=(s1.trans (af.new h2 (.lst (h.2.map V.int)))).trans (af.new h3 (.lst ((h.1.map λx=>-x).map V.int++h.2.map V.int)));refine⟨_,rfl,a3,sl,_,_,rfl,rfl,ae,s3 _ _ (e _ _ ae),?_,λa4 h4=>?_⟩
  ·rw[aX,aH,aH,aH,aH,lh.1,lh.2];lia
  refine hN _ _ (s3.trans (af.new h4 _)) ⟨a4,h,rfl,λz'=>?_,hh,?_⟩
  ·rw[z',s3 _ _ j_] at h4;cases h4
  ·rw[ae];unfold A7;rw[bQ,bQ]
 ·have Wu:ys=(ys.map IY).map V.ref:=by
   rw[bC];refine dR λi=>?_;rw[aP];cases qi:ys[i]? with
   |none=>rfl
   |some y =>
    obtain⟨a,_,rfl,_⟩:=pr i y qi;rfl
  refine k l H2 (ys.map IY) (e0.trans e) (by rw[j_];rw[<-Wu]) (by rw[aH,len,xl]) λi a h hi hh=>?_;rw[aP] at hi;cases qi:ys[i]? with
  |none=>rw[qi] at hi;cases hi
  |some y =>
   obtain⟨a',h',rfl,_,h3,h4⟩:=pr i y qi;rw[qi] at hi;have:a'=a:=bD hi;subst this;rw[hh] at h3;cases h3;exact h4
end
def P3(z:aC)(h:i8):List Int:=aQ (bx h.1) 0++h.2++K5 z
def Q5(z:aC)(h:i8):List Int:=h.1++aQ (bx h.2) 0++aQ (bx (K5 z)) 0
def G3(z:aC)(hs:List i8)(h:i8):List (List Int):=hs.map (A7 z)++[Q5 z h]
def P6(hs:List i8):List Int:=aQ (bx hs) 0++[1]
theorem N9 k:(aQ k [V.int 0]).flatten=(aQ k (0:Int)).map V.int:=by simp
section
variable{P:aM}{w:aL}{K:aF}{mg:aC->Option aE}{base:aJ}{f Pt d:aA}{fd:aK}{n:Nat}{C:aA}
abbrev OE(z:aC)(hs:List i8)(h:i8)(S:Lp.Bo):Prop:=Lp.Of (bx hs+1) (bx h.1+bx h.2+bx (K5 z)) (Y8 (G3 z hs h)) (M2 (P6 hs)) (M2 (P3 z h)) S
inductive Gp(K:aF)(Pt:aA)(vs:List V)(H:Hp)(Q:VK)(dj:XK):Prop|mk:∀ba hv xs hs h z br kt kg m q,vs=[.ref ba,hv,.str z]->O4 z->ah K H ba xs->Bk K H xs hs->HS K H hv h->HG br kt kg h->(∀h∈hs,HG br kt kg h)->br<=2^60->bx hs<=16->kt<=20->kg<=20->m=bx hs+1->q=bx h.1+bx h.2+bx (K5 z)->LT Pt H->(∀S H' t aa wa,OE z hs h S->(∀j,j<q->¬S.T m j<0)->Sz 4000 m q S->bj Pt H H'->LT Pt H'->H' t=av (.tup [.int (S.T m q),.ref aa,.ref wa,.int S.d]) → H' aa=av (.lst ((v7 m q S).map V.int))->H' wa=av (.lst ((K1 m q S).map V.int))->Q (.ref t) H')->(∀S H',OE z hs h S->Lp.cM m q S->bj Pt H H'->LT Pt H'->Q .non H')->Gp K Pt vs H Q dj
def C_:p7 ["houses","house","sizes","takes","gives","signs","earned","paid"] ["houses","house","sizes"] (i9 LO):={}
def eaT{f1 f2:aA}{d1 d2:aK}(N:v8 mg)(G:Sg K w.params mg d)(Cg:C9 P w K mg base n "greatest" ["goal","rows","bounds"] (O5 K C Pt) f1 d1)(Ch:C9 P w K mg base n "house_rows" ["houses","sizes"] (M4 K) f2 d2)
  (hr:b_ n (A.deeper (cD "greatest_earned" (i9 LO) s.heap.objs.size f ay))) :
  {t:TS//fu (N8 J8 P w K mg base ["houses","house","sizes","takes","gives","signs","earned","paid"] "greatest_earned" (i9 LO) f ay A outer s H E).oi (x9 LO) t} :=
 ⟨_,j0 (D3 (pv 1) (K4 rfl (p6 (j9 (i:=3) C_.nd rfl (aI rfl)) (p6 (j9 (i:=4) C_.nd rfl (aI rfl)) A4))))
  (j0 (r6 (i:=5) C_.nd rfl (aI rfl) (v5 C5 rfl N.list fJ (c6 (l8 (Kq K w.params rfl rfl) (C4 (v:=.ref d) rfl G.m rfl) (pv 2) (λ_ _=>rfl)) c7)))
  (t8 (r6 (i:=6) C_.nd rfl (aI rfl) (j8 B9 (j8 B9 (j8 Q6 (v9 (c6 d0 c7)) (j7 j6 rfl N.len bB (c6 (pv 3) c7))) (v5 C5 rfl N.list fJ (c6 (pv 4) c7))) (pv 5)))
  (t8 (r6 (i:=7) C_.nd rfl (aI rfl) (j8 B9 (j8 B9 (v5 C5 rfl N.list fJ (c6 (pv 3) c7)) (j8 Q6 (v9 (c6 d0 c7)) (j7 j6 rfl N.len bB (c6 (pv 4) c7)))) (j8 Q6 (v9 (c6 d0 c7)) (j7 j6 rfl N.len bB (c6 (pv 5) c7)))))
  (j4 (o4 (Cg.c hr (c6 (pv 6) (c6 (j8 B9 (Ch.c hr (c6 (pv 0) (c6 (pv 2) c7))) (v9 (c6 (pv 7) c7)))
   (c6 (j8 B9 (j8 Q6 (v9 (c6 d0 c7)) (j7 j6 rfl N.len bB (c6 (pv 0) c7))) (v9 (c6 d0 c7))) c7)))))))))⟩
theorem Xe:∀k,k<20->Lp.ow (2^60) (k+1)<2^4000:=by decide
theorem T3(h:rows[i]?=av row):Y8 rows i j=row.getD j 0:=by
 have e:rows.getD i []=row:=by rw[bA,h];rfl
 unfold Y8;rw[e]
theorem Q7{l:List Int}(h:∀x∈l,x.natAbs<=M)j:(l.getD j 0).natAbs<=M:=by
 rw[bA];cases e:l[j]? with
 |none=>exact dM _
 |some x=>exact h x (bK e)
theorem Mm z:∀x∈K5 z,x.natAbs<=2^60:=by
 unfold K5;by_cases h1:z="any"
 ·rw[if_pos h1];decide
 by_cases h2:z="one"
 ·rw[if_neg h1,if_pos h2];decide
 by_cases h3:z="less"
 ·rw[if_neg h1,if_neg h2,if_pos h3];decide
 ·rw[if_neg h1,if_neg h2,if_neg h3];decide
theorem S7(hh:HG br kt kg h)(wz:∀h∈hs,HG br kt kg h)(hf:br<=2^60)q :
  ∀v,Lp.Fits (2^60) (bx hs+1+1) (Lp.Vv (bx hs+1) q (Y8 (G3 z hs h)) (M2 (P6 hs)) (M2 (P3 z h)) v):=by
 have ht:∀g:i8,HG br kt kg g->∀x∈g.1,x.natAbs<=2^60:=λg hg x hx=>by have:=hg.t x hx;lia
 have qo:∀g:i8,HG br kt kg g->∀x∈g.2,x.natAbs<=2^60:=λg hg x hx=>by have:=hg.g x hx;lia
 have z0:∀k:Nat,∀x∈List.replicate k (0:Int),x.natAbs<=2^60:=λk x hx=>by rw[(lL.mp hx).2];decide
 have rows:∀r∈G3 z hs h,∀x∈r,x.natAbs<=2^60:=λr hr x hx=>by
  unfold G3 at hr;rcases bJ.mp hr with hr|hr
  ·obtain⟨g,hg,rfl⟩:=aY.mp hr;unfold A7 at hx;rcases bJ.mp hx with hx|hx
   ·rcases bJ.mp hx with hx|hx
    ·obtain⟨y,hy,rfl⟩:=aY.mp hx;have:=ht g (wz g hg) y hy;rw[iV];exact this
    ·exact qo g (wz g hg) x hx
   ·exact Mm z x hx
  ·rw[cJ.mp hr] at hx;unfold Q5 at hx;rcases bJ.mp hx with hx|hx
   ·rcases bJ.mp hx with hx|hx
    ·exact ht h hh x hx
    ·exact z0 _ x hx
   ·exact z0 _ x hx
 have goal:∀x∈P3 z h,x.natAbs<=2^60:=λx hx=>by
  unfold P3 at hx;rcases bJ.mp hx with hx|hx
  ·rcases bJ.mp hx with hx|hx
   ·exact z0 _ x hx
   ·exact qo h hh x hx
  ·exact Mm z x hx
 have E_:∀x∈P6 hs,x.natAbs<=2^60:=λx hx=>by
  unfold P6 at hx;rcases bJ.mp hx with hx|hx
  ·exact z0 _ x hx
  ·rw[cJ.mp hx];decide
 intro v i _;unfold Lp.Vv;split
 ·split
  ·unfold Y8;refine Q7 (λx hx=>?_) v;rw[bA] at hx;cases e:(G3 z hs h)[i]? with
   |none=>rw[e] at hx;cases hx
   |some r=>rw[e] at hx;exact rows r (bK e) x hx
  ·split
   ·rw[iV];exact Q7 goal v
   ·exact dM _
 ·split
  ·split<;>decide
  ·split
   ·exact Q7 E_ i
   ·exact dM _
end
theorem a8R{rs:List aA}{hs:List i8}(hl:bx rs=bx hs)(h:∀(i:Nat)a g,rs[i]?=av a->hs[i]?=av g->H' a=av (.lst ((A7 z g).map V.int))):si K H' (rs.map V.ref) (hs.map (A7 z)):=by
 induction hs generalizing rs with
 |nil =>
  cases rs with
  |nil=>exact .nil
  |cons a r=>simp at hl
 |cons g hs ih =>
  cases rs with
  |nil=>simp at hl
  |cons a r=>exact .cons ⟨a,rfl,ah.of (h 0 a g rfl rfl)⟩ (ih (by simp_all) λi b g' h1 h2=>h (i+1) b g' (by simpa using h1) (by simpa using h2))
theorem b0M(F:Aj K "greatest_earned" LO f fd)(N:v8 mg)(G:Sg K w.params mg d)(Cg:C9 P w K mg base n "greatest" ["goal","rows","bounds"] (O5 K C Pt) f1 d1)(Ch:C9 P w K mg base n "house_rows" ["houses","sizes"] (M4 K) f2 d2) :
  bf P w K mg base J8 (n+1) f fd ["houses","house","sizes"] (Gp K Pt):=by
 refine F.oa C_ λay A outer s H vs Q E hr h=>?_;obtain⟨ba,hv,xs,hs,h,z,br,kt,kg,m,q,rfl,hz,hB,Je,OC,hh,wz,CV,u_,Kr,Ks,rfl,rfl,L,kT,kN⟩:=h;refine⟨_,(eaT N G Cg Ch hr).2,?_⟩;obtain⟨ha,ta,ga,rfl,p1,p2,p3⟩:=id OC;obtain⟨t,ht,hT⟩:=G.tt z hz;have xl:bx xs=bx hs:=dE Je;have sg:=Ml z;have Xf:=t9 (show(1000:Nat)<=1000 from aT _);have l1:=hh.lt;have l2:=hh.lg;refine⟨_,rfl,ha,_,rfl,p1,rfl,_,_,rfl,_,_,rfl,rfl,_,rfl,d,z,t,rfl,rfl,G.k,ht,t,_,rfl,.inr (hT _),λsl je=>?_⟩;have e0:=af.new je (.lst ((K5 z).map V.int));have Jf:upd H sl (.lst ((K5 z).map V.int)) sl=av (.lst ((K5 z).map V.int)):=ae;refine⟨λau H1=>∃ea:aA,au=[av (.ref ba),av (.ref ha),av (.str z),av (.ref ta),av (.ref ga),av (.ref sl),av (.ref ea),bh]/\af (upd H sl (.lst ((K5 z).map V.int))) H1/\H1 ea=av (.lst ((P3 z h).map V.int)),?_,?_⟩
 ·refine⟨(by show 1<=sizeLine;decide),λa1 h1=>?_⟩;have s1:=af.new h1 (.lst [.int 0]);refine⟨_,rfl,ta,_,rfl,.inr (s1.cm (e0.cm p2)),a1,_,_,rfl,rfl,ae,by lia,by rw[aH,l1];lia,by rw[aH,l1,cF];simp;lia,λa2 h2=>?_⟩;rw[aH,cF,N9];have s2:=s1.trans (af.new h2 (.lst ((aQ (bx h.1) (0:Int)).map V.int)));refine⟨_,rfl,ga,_,rfl,.inr (s2.cm (e0.cm p3)),λa3 h3=>?_⟩;have s3:=s2.trans (af.new h3 (.lst (h.2.map V.int)));refine⟨a2,a3,_,_,rfl,rfl,(by rw[j3 (i7 ae h3)];exact ae),ae,?_,λa4 h4=>?_⟩
  ·rw[aH,aH,bP,l1,l2];lia
  have s4:=s3.trans (af.new h4 (.lst ((aQ (bx h.1) (0:Int)).map V.int++h.2.map V.int)));refine⟨_,rfl,a4,sl,_,_,rfl,rfl,ae,s4 _ _ Jf,?_,λa5 h5=>?_⟩
  ·rw[aX,aH,aH,aH,bP,l1,l2];lia
  refine⟨a5,rfl,s4.trans (af.new h5 _),?_⟩;rw[ae];unfold P3;rw[bQ,bQ]
 intro Eg H1 cw;refine E8 λG_ cy=>?_;obtain⟨ea,rfl,e1,he⟩:=cw;subst cy;have Hr:=e0.trans e1;refine⟨λau H2=>∃pa:aA,au=[av (.ref ba),av (.ref ha),av (.str z),av (.ref ta),av (.ref ga),av (.ref sl),av (.ref ea),av (.ref pa)]/\af H1 H2/\H2 pa=av (.lst ((Q5 z h).map V.int)),?_,?_⟩
 ·refine⟨_,rfl,ta,_,rfl,.inr (Hr.cm p2),λa1 h1=>⟨(by show 1<=sizeLine;decide),λa2 h2=>?_⟩⟩;have s2:=(af.new h1 (.lst (h.1.map V.int))).trans (af.new h2 (.lst [.int 0]));have Hy:a1≠a2:=i7 ae h2;refine⟨_,rfl,ga,_,rfl,.inr (s2.cm (Hr.cm p3)),a2,_,_,rfl,rfl,ae,by lia,by rw[aH,l2];lia,by rw[aH,l2,cF];simp;lia,λa3 h3=>?_⟩;rw[aH,cF,N9];have s3:=s2.trans (af.new h3 (.lst ((aQ (bx h.2) (0:Int)).map V.int)));refine⟨a1,a3,_,_,rfl,rfl,(af.new h3 (.lst ((aQ (bx h.2) (0:Int)).map V.int))) a1 _ ((af.new h2 (.lst [.int 0])) a1 _ ae),ae,?_,λa4 h4=>?_⟩
  ·rw[aH,aH,bP,l1,l2];lia
  refine⟨(by show 1<=sizeLine;decide),λa5 h5=>?_⟩;have s5:=(s3.trans (af.new h4 (.lst (h.1.map V.int++(aQ (bx h.2) (0:Int)).map V.int)))).trans (af.new h5 (.lst [.int 0]));have lz:bx ((K5 z).map V.int)=bx (K5 z):=aH _;refine⟨_,rfl,sl,_,rfl,.inl (ah.of (s5 _ _ (e1 _ _ Jf))),a5,_,_,rfl,rfl,ae,by lia,by rw[lz];lia,by rw[lz,cF];simp;lia,λa6 h6=>?_⟩;rw[lz,cF,N9];refine⟨a4,a6,_,_,rfl,rfl,(af.new h6 (.lst ((aQ (bx (K5 z)) (0:Int)).map V.int))) a4 _ ((af.new h5 (.lst [.int 0])) a4 _ ae),ae,?_,λa7 h7=>?_⟩
  ·rw[aX,aH,aH,aH,bP,bP,l1,l2];lia
  refine⟨a7,rfl,(s5.trans (af.new h6 _)).trans (af.new h7 _),?_⟩;rw[ae];unfold Q5;rw[bQ,bQ]
 intro ir H2 cw;refine E8 λG_ cy=>?_;obtain⟨pa,rfl,e2,hp⟩:=cw;subst cy;have HD:=Hr.trans e2;refine⟨_,rfl,_,rfl,_,rfl,ba,xs,hs,z,kt,kg,rfl,hz,HD.seq hB,Je.same HD,by lia,by lia,by lia,λg hg=>⟨(wz g hg).lt,(wz g hg).lg⟩,λr H3 rs e3 zh lr Hx=>⟨_,rfl,(by show 1<=sizeLine;decide),λa1 h1=>⟨r,a1,_,_,rfl,rfl,(by rw[j3 (i7 zh h1)];exact zh),ae,?_,λa2 h2=>?_⟩⟩⟩
 ·rw[aH,lr];simp;lia
 refine⟨(by show 1<=sizeLine;decide),λa3 h3=>?_⟩;have s3:=((e3.trans (af.new h1 (.lst [.ref pa]))).trans (af.new h2 (.lst (rs.map V.ref++[.ref pa])))).trans (af.new h3 (.lst [.int 0]));refine⟨_,rfl,ba,_,rfl,.inl ((HD.trans s3).seq hB),a3,_,_,rfl,rfl,ae,by lia,by rw[xl];lia,by rw[xl,cF];simp;lia,λa4 h4=>?_⟩;rw[xl,cF,N9];refine⟨(by show 1<=sizeLine;decide),λa5 h5=>?_⟩;refine⟨a4,a5,_,_,rfl,rfl,(by rw[j3 (i7 ae h5)];exact ae),ae,?_,λa6 h6=>?_⟩
 ·rw[aH,bP];simp;lia
 have s6:=((s3.trans (af.new h4 (.lst ((aQ (bx hs) (0:Int)).map V.int)))).trans (af.new h5 (.lst [.int 1]))).trans (af.new h6 (.lst ((aQ (bx hs) (0:Int)).map V.int++[.int 1])));have g3:∀b o,upd (upd H3 a1 (.lst [.ref pa])) a2 (.lst (rs.map V.ref++[.ref pa])) b=av o->upd (upd (upd (upd (upd (upd H3 a1 (.lst [.ref pa])) a2 (.lst (rs.map V.ref++[.ref pa]))) a3 (.lst [.int 0])) a4 (.lst ((aQ (bx hs) (0:Int)).map V.int))) a5 (.lst [.int 1])) a6 (.lst ((aQ (bx hs) (0:Int)).map V.int++[.int 1])) b=av o :=
  (((af.new h3 (.lst [.int 0])).trans (af.new h4 (.lst ((aQ (bx hs) (0:Int)).map V.int)))).trans (af.new h5 (.lst [.int 1]))).trans (af.new h6 (.lst ((aQ (bx hs) (0:Int)).map V.int++[.int 1])))
 have eb:(aQ (bx hs) (0:Int)).map V.int++[.int 1]=(P6 hs).map V.int:=by unfold P6;rw[bQ];rfl
 have hA:af H (upd (upd (upd (upd (upd (upd H3 a1 (.lst [.ref pa])) a2 (.lst (rs.map V.ref++[.ref pa]))) a3 (.lst [.int 0])) a4 (.lst ((aQ (bx hs) (0:Int)).map V.int))) a5 (.lst [.int 1])) a6 (.lst ((aQ (bx hs) (0:Int)).map V.int++[.int 1]))):=HD.trans s6;refine⟨ea,a2,a6,P3 z h,rs.map V.ref++[.ref pa],G3 z hs h,P6 hs,bx hs+1,bx h.1+bx h.2+bx (K5 z),2^60,rfl,ah.of (s6 _ _ (e2 _ _ he)),ah.of (g3 _ _ ae),?_,?_,?_,?_,?_,?_,by lia,by lia,?_,S7 hh wz CV _,Xe _ (by lia),L.same hA,λS H' t' aa wa O hn sz e' L' g1 g2 g4=>kT S H' t' aa wa O hn sz (λb o hb q'=>e' b o hb (hA b o q')) L' g1 g2 g4,λS H' O st e' L'=>kN S H' O st (λb o hb q'=>e' b o hb (hA b o q')) L'⟩
 ·unfold G3;refine aZ.app ((a8R (K:=K) lr Hx).same ((((((af.new h1 (.lst [.ref pa])).trans (af.new h2 (.lst (rs.map V.ref++[.ref pa])))).trans (af.new h3 (.lst [.int 0]))).trans (af.new h4 (.lst ((aQ (bx hs) (0:Int)).map V.int)))).trans (af.new h5 (.lst [.int 1]))).trans (af.new h6 (.lst ((aQ (bx hs) (0:Int)).map V.int++[.int 1]))))) (.cons ⟨pa,rfl,ah.of (s6 _ _ hp)⟩ .nil)
 ·rw[<-eb];exact ah.of ae
 ·unfold G3;simp
 ·unfold P6;simp
 ·unfold P3;simp[sB]
 ·intro r hr;unfold G3 at hr;rcases bJ.mp hr with hr|hr
  ·obtain⟨g,hg,rfl⟩:=aY.mp hr;unfold A7;rw[aX,aX,aH,(wz g hg).lt,(wz g hg).lg,l1,l2]
  ·rw[cJ.mp hr];unfold Q5;simp;lia
 ·intro i hi;unfold M2 P6;rw[bA];by_cases h':i<bx hs
  ·rw[dH (by simpa using h'),gD,if_pos h'];exact dL _
  ·rw[dU (by simp;lia)];have:i-(aQ (bx hs) (0:Int)).length=0:=by simp;lia
   rw[this];decide
inductive Gq(K:aF)(vs:List V)(H:Hp)(Q:VK)(dj:XK):Prop|mk:∀a t xs ys,vs=[.ref a,.ref t]->ah K H a (xs.map V.int)->cq K H t (ys.map V.int)->bx xs<=1000->(∀x∈xs,fh 4000 x)->(∀y∈ys,fh 4000 y)->(∀H',af H H'->Q (.int (cV (·*·) xs ys).sum) H')->Gq K vs H Q dj
def jz:p7 ["house","sizes","amounts","bottom","takes","gives","behind_gives","for_takes","for_gives"] ["house","sizes","amounts","bottom"] (i9 uz):={}
def c0h:p7 ["book","number","sizes"] ["book","number","sizes"] (i9 VG):={}
def Dc:p7 ["houses","house","sizes","found","top","amounts","weights","bottom"] ["houses","house","sizes"] (i9 VF):={}
def SO:p7 ["book","number","sizes","house","top","amounts","weights","bottom","mix"] ["book","number","sizes"] (i9 RN):={}
theorem f0x:(["amount","bottom"]:List aC).Nodup:=by decide
theorem f0H:(["weight","bottom"]:List aC).Nodup:=by decide
end de
namespace Lp
theorem Of.way(O:Of m q A b c S)(hc:cc<q)(neg:S.T m cc<0)(no:∀i,i<m->¬0<S.T i cc):∃y:Nat->Int,(∀j,j<q->0<=y j)/\(∀i,i<m->sumTo (λj=>A i j*y j) q<=0)/\0<sumTo (λj=>c j*y j) q:=by
 have K0:=(O.k _).mp (O.w.qp (c:=cc) (by lia));obtain⟨rows,goal⟩:=EW.mp K0;have zc:nc m S cc (q+m+1)=0:=by
  rw[<-O.w.oq];exact O.w.h_ (by lia) (by lia) (by lia)
 have zg:nc m S cc (q+m) =-S.T m cc:=by
  rw[<-O.w.im];exact O.w.jd (by lia) (by lia)
 have nn:∀v,v<q+m->0<=nc m S cc v:=λv hv=>by
  rcases O.w.all v hv with⟨i,hi,e⟩|⟨j,hj,e⟩
  ·rw[<-e,O.w.jd (by lia) (by lia)];have:=no i hi;lia
  ·rw[<-e];by_cases wj:j=cc
   ·subst wj;rw[Wf.yi];exact cC O.w.pos
   ·rw[O.w.h_ (by lia) (by lia) wj];exact dL _
 refine⟨nc m S cc,λj hj=>nn j (by lia),λi hi=>?_,by rw[<-goal,zg];lia⟩;have r0:=rows i hi;rw[zc,cW,gK] at r0;have n0:=nn (q+i) (by lia);lia
theorem Of.bounded(O:Of m q A b c S)(h0:i0<m)(hl:l<m)(hA:∀j,j<q->A i0 j+A l j=c j)(st:cM m q S):False:=by
 obtain⟨cc,hc,neg,-,no⟩:=st;obtain⟨y,_,rows,goal⟩:=O.way hc neg no;have r0:=rows i0 h0;have rl:=rows l hl;have e:sumTo (λj=>c j*y j) q=sumTo (λj=>A i0 j*y j) q+sumTo (λj=>A l j*y j) q:=by
  rw[<-Z0];refine aj λj hj=>?_;rw[<-hA j hj,fG]
 lia
end Lp
namespace de
open PySem L2 Fr
section
variable{P:aM}{w:aL}{K:aF}{mg:aC->Option aE}{base:aJ}{f Pt d:aA}{fd:aK}{n:Nat}{C:aA}
theorem ko(e:af H H')(h:H' x=bh):H x=bh:=by
 cases q:H x with
 |none=>rfl
 |some o=>rw[e x o q] at h;cases h
def dk(H:Hp)(ys:List V)(xs:List Int)(D:Int):Prop:=bx ys=bx xs/\∀i y,ys[i]?=av y->Ex H y (low (xs.getD i 0) D)
def dk.same(e:af H H')(h:dk H ys xs D):dk H' ys xs D:=⟨h.1,λi y hy=>(h.2 i y hy).same e⟩
inductive va(K:aF)(vs:List V)(H:Hp)(Q:VK)(dj:XK):Prop|mk:∀(hv:V)(h:i8)(z:aC)(aa:aA)(D:Int)(xs:List Int),vs=[hv,.str z,.ref aa,.int D]->O4 z->HS K H hv h->ah K H aa (xs.map V.int)->bx xs=bx h.1+bx h.2+bx (K5 z)->bx h.1<=100->bx h.2<=100->(∀x∈xs,fh 4000 x)->0<D->D<2^8000->(∀t fa ga v H' tx wd,af H H'->H' t=av (.tup [.ref fa,.ref ga,v])->H' fa=av (.lst tx)->dk H' tx (xs.take (bx h.1)) D->H' ga=av (.lst wd)->dk H' wd ((xs.drop (bx h.1)).take (bx h.2)) D → Ex H' v (low (cV (·*·) (xs.drop (bx h.1+bx h.2)) (K5 z)).sum D)->H fa=bh->H ga=bh->Q (.ref t) H')->va K vs H Q dj
def tpT{f1 f2:aA}{d1 d2:aK}(N:v8 mg)(G:Sg K w.params mg d)(Cl:CZ P w K mg base n "lowest" ["top","bottom"] Xd f1 d1)(gW:C9 P w K mg base n "come_to" ["amounts","tops"] (Gq K) f2 d2)
  (hr:b_ n (A.deeper (cD "told_prices" (i9 uz) s.heap.objs.size f ay))) :
  {t:TS//fu (N8 J8 P w K mg base ["house","sizes","amounts","bottom","takes","gives","behind_gives","for_takes","for_gives"] "told_prices" (i9 uz) f ay A outer s H E).oi (x9 uz) t} :=
 ⟨_,j0 (D3 (pv 0) (K4 rfl (p6 (j9 (i:=4) jz.nd rfl (aI rfl)) (p6 (j9 (i:=5) jz.nd rfl (aI rfl)) A4))))
  (j0 (r6 (i:=6) jz.nd rfl (aI rfl) (j8 D4 (j7 j6 rfl N.len bB (c6 (pv 4) c7)) (j7 j6 rfl N.len bB (c6 (pv 5) c7))))
  (t8 (CA (i:=7) ["amount"] [3] jz.nd rfl rfl rfl (C6 (B7 M0 (pv 2) G1 (B8 (j7 j6 rfl N.len bB (c6 (pv 4) c7))))) (λ_ _ _ _=>j9 (i:=0) f0x rfl (aI rfl))
   (λ_ _ _ _=>Cl.c hr (c6 (pv 0) (c6 (pv 1) c7))))
  (t8 (CA (i:=8) ["amount"] [3] jz.nd rfl rfl rfl (C6 (B7 M0 (pv 2) (B8 (j7 j6 rfl N.len bB (c6 (pv 4) c7))) (B8 (pv 6)))) (λ_ _ _ _=>j9 (i:=0) f0x rfl (aI rfl))
   (λ_ _ _ _=>Cl.c hr (c6 (pv 0) (c6 (pv 1) c7))))
  (j4 (o4 (A9 (c6 (pv 7) (c6 (pv 8) (c6 (l7 Cl.ok hr rfl Cl.m Cl.k Cl.b .nil v6
   (c6 (gW.c hr (c6 (B7 M0 (pv 2) (B8 (pv 6)) G1) (c6 (l8 (Kq K w.params rfl rfl) (C4 (v:=.ref d) rfl G.m rfl) (pv 1) (λ_ _=>rfl)) c7))) (c6 (pv 3) c7))) c7)))))))))⟩
end
def pU(p:aA)(xs:List Int)(D:Int)(i:Nat)(y:V)(H:Hp):Prop:=∃a,y=.ref a/\a≠p/\H a=av (.tup [.int (low (xs.getD i 0) D).1,.int (low (xs.getD i 0) D).2])
theorem Ap(hl:bx ys=bx (xs.map V.int))(h:∀i y,ys[i]?=av y->pU p xs D i y H):dk H ys xs D :=
 ⟨by rw[hl,aH],λi y hy=>by obtain⟨a,h1,_,h3⟩:=h i y hy;exact⟨a,h1,h3⟩⟩
def Ay:∀i y H H',pU p xs D i y H->(∀b o,b≠p->H b=av o->H' b=av o)->pU p xs D i y H':=λi y H H' ⟨a,h1,h2,h3⟩ e=>⟨a,h1,h2,e a _ h2 h3⟩
theorem A_(hp:H p=av (.lst ys))(e:af H H3)(hx:(xs.map V.int)[i]?=av (.int x))(h:Ex H3 v (low x D)):pU p xs D i v H3:=by
 obtain⟨a,rfl,ha⟩:=h;have hg:xs.getD i 0=x:=by
  rw[aP] at hx;rw[bA];cases q:xs[i]? with
  |none=>rw[q] at hx;cases hx
  |some y=>rw[q] at hx;cases hx;rfl
 refine⟨a,rfl,λz=>?_,by rw[hg];exact ha⟩;rw[z,e _ _ hp] at ha;cases ha
theorem a8U xs(a b:Nat)(h:a<=b)(hb:b<=bx xs):P5 xs (av (a:Int)) (av (b:Int))=(xs.drop a).take (b-a):=by
 unfold P5;rw[HT.gy,HT.gy,jT hb,jT (by lia)]
theorem e8h(F:Aj K "told_prices" uz f fd)(N:v8 mg)(G:Sg K w.params mg d)(Cl:CZ P w K mg base n "lowest" ["top","bottom"] Xd f1 d1)(gW:C9 P w K mg base n "come_to" ["amounts","tops"] (Gq K) f2 d2) :
  bf P w K mg base J8 (n+1) f fd ["house","sizes","amounts","bottom"] (va K):=by
 refine F.oa jz λay A outer s H vs Q E hr h=>?_;obtain⟨hv,h,z,aa,D,xs,rfl,hz,OC,uK,hlen,k1,k2,k_,hD,S9,k⟩:=h;refine⟨_,(tpT N G Cl gW hr).2,?_⟩;obtain⟨ha,ta,ga,rfl,p1,p2,p3⟩:=id OC;obtain⟨t,ht,hT⟩:=G.tt z hz;have sg:=Ml z;have lx:bx (xs.map V.int)=bx h.1+bx h.2+bx (K5 z):=by rw[aH];exact hlen
 have l1:bx (h.1.map V.int)=bx h.1:=aH _;have Xf:=t9 (show(1000:Nat)<=1000 from aT _);refine⟨_,rfl,ha,_,rfl,p1,rfl,_,_,rfl,_,_,rfl,rfl,_,rfl,ta,_,rfl,.inr p2,_,rfl,ga,_,rfl,.inr p3,_,_,rfl,rfl,?_⟩;rw[l1,aH _];refine⟨λau H1=>∃(fa:aA)(tx:List V),au=[av (.ref ha),av (.str z),av (.ref aa),av (.int D),av (.ref ta),av (.ref ga),av (.int ((bx h.1:Int)+(bx h.2:Int))),av (.ref fa),bh]/\af H H1/\H1 fa=av (.lst tx)/\dk H1 tx (xs.take (bx h.1)) D/\H fa=bh,?_,?_⟩
 ·refine⟨_,rfl,_,rfl,ta,_,rfl,.inr p2,_,rfl,aa,_,rfl,uK,λa1 h1=>?_⟩;rw[l1,NS _ _ (by rw[lx];lia),<-pG];have s1:=af.new h1 (.lst ((xs.take (bx h.1)).map V.int));refine⟨a1,rfl,⟨_,ah.of ae⟩,λl hl=>(N5 (A3 (ah.of ae)) hl (by rw[aH,cI];lia) (pU l (xs.take (bx h.1)) D) Ay (λi x H2 ys N' hx e j_ hN=>?_) (λys H2 e j_ len pr=>⟨l,ys,rfl,s1.trans e,j_,Ap len pr,ko s1 hl⟩))⟩
  ·obtain⟨x',rfl,_⟩:=LY hx;exact⟨Wk.set (by decide),_,rfl,_,rfl,x',D,rfl,hD,S9,λv H3 e3 hv=>hN _ _ e3 (A_ j_ e3 hx hv)⟩
 intro Eg H1 cw;refine E8 λG_ cy=>?_;obtain⟨fa,tx,rfl,e1,RG,hft,nfa⟩:=cw;subst cy;refine⟨λau H2=>∃(jA:aA)(wd:List V),au=[av (.ref ha),av (.str z),av (.ref aa),av (.int D),av (.ref ta),av (.ref ga),av (.int ((bx h.1:Int)+(bx h.2:Int))),av (.ref fa),av (.ref jA)]/\af H1 H2/\H2 jA=av (.lst wd)/\dk H2 wd ((xs.drop (bx h.1)).take (bx h.2)) D/\H1 jA=bh,?_,?_⟩
 ·refine⟨_,rfl,_,rfl,ta,_,rfl,.inr (e1.cm p2),_,rfl,_,rfl,_,rfl,aa,_,rfl,e1.seq uK,λa1 h1=>?_⟩;have ec:P5 (xs.map V.int) (av ((bx (h.1.map V.int):Nat):Int)) (av ((bx h.1:Int)+(bx h.2:Int)))=((xs.drop (bx h.1)).take (bx h.2)).map V.int:=by
   have:=a8U (xs.map V.int) (bx h.1) (bx h.1+bx h.2) (by lia) (by rw[lx];lia);rw[l1,show((bx h.1:Int)+(bx h.2:Int))=((bx h.1+bx h.2:Nat):Int) by lia,this,gO,<-pH,<-pG]
  rw[ec];have s1:=af.new h1 (.lst (((xs.drop (bx h.1)).take (bx h.2)).map V.int));refine⟨a1,rfl,⟨_,ah.of ae⟩,λl hl=>(N5 (A3 (ah.of ae)) hl (by rw[aH,cI];lia) (pU l ((xs.drop (bx h.1)).take (bx h.2)) D) Ay (λi x H2 ys N' hx e j_ hN=>?_) (λys H2 e j_ len pr=>⟨l,ys,rfl,s1.trans e,j_,Ap len pr,ko s1 hl⟩))⟩
  ·obtain⟨x',rfl,_⟩:=LY hx;exact⟨Wk.set (by decide),_,rfl,_,rfl,x',D,rfl,hD,S9,λv H3 e3 hv=>hN _ _ e3 (A_ j_ e3 hx hv)⟩
 intro ir H2 cw;refine E8 λG_ cy=>?_;obtain⟨jA,wd,rfl,e2,Av,Gr,nga⟩:=cw;subst cy;have HD:=e1.trans e2;refine⟨_,rfl,_,rfl,_,rfl,_,rfl,_,rfl,aa,_,rfl,HD.seq uK,λa1 h1=>?_⟩;have ec:P5 (xs.map V.int) (av ((bx h.1:Int)+(bx h.2:Int))) bh=(xs.drop (bx h.1+bx h.2)).map V.int:=by
  have:=NT (xs.map V.int) (bx h.1+bx h.2) (by rw[lx];lia);rw[show((bx h.1:Int)+(bx h.2:Int))=((bx h.1+bx h.2:Nat):Int) by lia,this,<-pH]
 rw[ec];refine⟨_,rfl,d,z,t,rfl,rfl,G.k,ht,a1,t,xs.drop (bx h.1+bx h.2),K5 z,rfl,ah.of ae,hT _,by rw[eJ];lia,λx hx=>k_ x (fK hx),λy hy=>?_,λH3 e3=>?_⟩
 ·have:=Mm z y hy;exact gU this (xM (by decide) (by decide))
 refine⟨_,rfl,_,D,rfl,hD,S9,λv H4 e4 hv=>⟨(by show 3<=sizeLine;decide),λtt Pj=>?_⟩⟩;have e5:=af.new Pj (.tup [.ref fa,.ref jA,v]);have vc:=(((af.new h1 (.lst ((xs.drop (bx h.1+bx h.2)).map V.int))).trans e3).trans e4).trans e5;refine k tt fa jA v _ tx wd (HD.trans vc) ae (vc _ _ (e2 _ _ RG)) ((hft.same e2).same vc) (vc _ _ Av) (Gr.same vc) (hv.same e5) nfa (ko e1 nga)
theorem cq.fg(T:cu P pos qual H)(e:bj P H H')(h:cq K H a xs):cq K H' a xs:=by
 have ne:∀o,H a=av o->(∀ps,o≠.my ps)->a≠P:=λo q n z=>by
  subst z;rcases T with t|⟨c,t,_⟩
  ·rw[q] at t;exact n _ (bD t)
  ·rw[q] at t;exact n _ (bD t)
 rcases h with(h|⟨o,h⟩)|h
 ·exact .inl (.inl (e _ _ (ne _ h λ_=>nofun) h))
 ·exact .inl (.inr ⟨o,e _ _ (ne _ h λ_=>nofun) h⟩)
 ·exact .inr h
theorem HS.fg(T:LT Pt H)(e:bj Pt H H')(x:HS K H v h):HS K H' v h:=by
 obtain⟨a,t,g,h0,h1,h2,h3⟩:=x;exact⟨a,t,g,h0,cq.fg T e h1,cq.fg T e h2,cq.fg T e h3⟩
def Bk.fg(T:LT Pt H)(e:bj Pt H H')(x:Bk K H vs hs):Bk K H' vs hs:=aZ.imp' (λ_ _ r=>HS.fg T e r) x
theorem F0{r:List Int}j:(l++r).getD j 0=if j<bx l then l.getD j 0 else r.getD (j-bx l) 0:=by grind
theorem M3 k j:(aQ k (0:Int)).getD j 0=0:=by
 rw[bA,gD];split<;>rfl
theorem Rt(l:List Int)j:(l.map λx=>-x).getD j 0 =-l.getD j 0:=by
 rw[bA,bA,aP];cases l[j]?<;>rfl
theorem b1v(hi:hs[i]?=av h)j:Y8 (G3 z hs h) i j+Y8 (G3 z hs h) (bx hs) j=M2 (P3 z h) j:=by
 have e1:(G3 z hs h)[i]?=av (A7 z h):=by
  unfold G3;rw[dH (by rw[aH];exact((cA.mp hi).1)),aP,hi];rfl
 have e2:(G3 z hs h)[bx hs]?=av (Q5 z h):=by
  unfold G3;rw[dU (by simp),aH,gL];rfl
 rw[T3 e1,T3 e2];unfold M2 A7 Q5 P3;simp only[F0,M3,Rt,aX,aH,bP];by_cases h1:j<bx h.1
 ·rw[if_pos (by lia),if_pos h1,if_pos (by lia),if_pos h1,if_pos (by lia),if_pos h1];lia
 ·by_cases h2:j<bx h.1+bx h.2
  ·rw[if_pos h2,if_neg h1,if_pos h2,if_neg h1,if_pos h2,if_neg h1,gK]
  ·rw[if_neg h2,if_neg h2,if_neg h2,gK]
structure vn(P:aM)(w:aL)(K:aF)(mg:aC->Option aE)(base:aJ)(n:Nat)(x:aC)(ps:List aC)(sp:Sp)(fa:aA)(d:aK):Prop where
 ok:bf P w K mg base (W2 P w) n fa d ps sp
 b:Binds K d ps []
 k:dX K (.ref fa)=true
 m:mg x=av (.ref fa)
abbrev mE(hs:List i8):Nat:=bx hs+1
abbrev qE(z:aC)(h:i8):Nat:=bx h.1+bx h.2+bx (K5 z)
structure O6(K:aF)(H:Hp)(ba:aA)(xs:List V)(hs:List i8)(br:Int)(kt kg:Nat):Prop where
 l:ah K H ba xs
 b:Bk K H xs hs
 g:∀h∈hs,HG br kt kg h
 br:br<=2^60
 eQ:bx hs<=16
 t:kt<=20
 k:kg<=20
def sj(z:aC)(hs:List i8)(h:i8)(S:Lp.Bo):Prop:=OE z hs h S/\(∀j,j<qE z h->¬S.T (mE hs) j<0)/\Sz 4000 (mE hs) (qE z h) S
def S_(H0 H:Hp)(v:V)(z:aC)(h:i8)(xs:List Int)(D:Int):Prop:=∃t fa ga u tx wd,v=.ref t/\H t=av (.tup [.ref fa,.ref ga,u])/\H fa=av (.lst tx)/\dk H tx (xs.take (bx h.1)) D/\H ga=av (.lst wd)/\dk H wd ((xs.drop (bx h.1)).take (bx h.2)) D/\
 Ex H u (low (cV (·*·) (xs.drop (bx h.1+bx h.2)) (K5 z)).sum D)/\H0 fa=bh/\H0 ga=bh
theorem yA(e:bj Pt H H')(T:LT Pt H')(h:H' x=bh):H x=bh:=by
 cases q:H x with
 |none=>rfl
 |some o =>
  have n3:x≠Pt:=λz=>by
   subst z;rcases T with t|⟨c,t,_⟩<;>(rw[h] at t;cases t)
  rw[e x o n3 q] at h;cases h
inductive Tb(K:aF)(CN Pt:aA)(vs:List V)(H:Hp)(Q:VK)(E:XK):Prop|mk:∀ba xs hs number z br kt kg,vs=[.ref ba,.int number,.str z]->O4 z->O6 K H ba xs hs br kt kg->number.natAbs.log2<1920->LT Pt H->(∀(i:Nat)h S H' t ml u v sh,number=(i:Int)->hs[i]?=av h->sj z hs h S->bj Pt H H'->LT Pt H'->H' t=av (.tup [u,.ref ml,v])->Ex H' u (low (S.T (mE hs) (qE z h)) S.d)->H' ml=av (.lst sh)->H ml=bh → dk H' sh ((K1 (mE hs) (qE z h) S).take (bx hs)) S.d->S_ H H' v z h (v7 (mE hs) (qE z h) S) S.d->Q (.ref t) H')->(¬AA (bx xs) number->E (.ref CN) bh H)->Tb K CN Pt vs H Q E
inductive OI(K:aF)(CN Pt:aA)(vs:List V)(H:Hp)(Q:VK)(E:XK):Prop|mk:∀(ba:aA)(xs:List V)(hs:List i8)(number:Int)(z:aC)(br:Int)(kt kg:Nat),vs=[.ref ba,.int number,.str z]->O4 z->O6 K H ba xs hs br kt kg->number.natAbs.log2<1920->LT Pt H->(∀(i:Nat)h S H' u,number=(i:Int)->hs[i]?=av h->sj z hs h S->bj Pt H H'->LT Pt H'->Ex H' u (low (S.T (mE hs) (qE z h)) S.d)->Q u H')->(¬AA (bx xs) number->E (.ref CN) bh H)->OI K CN Pt vs H Q E
theorem Um(B:sj z hs h S):0<S.d/\S.d<2^8000:=by
 refine⟨B.1.w.pos,?_⟩;have h2:(2:Nat)^4000<=2^8000:=lG (by decide) (by decide);have h3:S.d=(S.d.natAbs:Int):=by have:=B.1.w.pos;lia
 rw[h3]
 exact_mod_cast bS B.2.2.2 h2
theorem a8Y(O:Lp.Of m q A b c S)(sz:Sz 4000 m q S)(hv:v<q):fh 4000 (Lp.cg m S q v):=by
 have Lx:v<q+m:=by lia
 rcases O.w.all v Lx with⟨i,hi,e⟩|⟨j,hj,e⟩
 ·have:Lp.cg m S q v=S.T i q:=by
   unfold Lp.cg;rw[Lp.cz hi λk hk hn=>if_neg λz=>hn (O.w.ii k i hk hi (z.trans e.symm)),if_pos e]
  rw[this];exact sz.1 i q (by lia) (by lia)
 ·have:Lp.cg m S q v=0:=Lp.dm λk hk=>if_neg λz=>O.w.io k j hk hj (z.trans e.symm);rw[this];exact sC (by decide)
inductive Ru(K:aF)(Pt:aA)(vs:List V)(H:Hp)(Q:VK)(dj:XK):Prop|mk:∀ba hv xs hs h z br kt kg,vs=[.ref ba,hv,.str z]->O4 z->O6 K H ba xs hs br kt kg->HS K H hv h->HG br kt kg h->LT Pt H->(∀S H' u,sj z hs h S->bj Pt H H'->LT Pt H'->Ex H' u (low (S.T (mE hs) (qE z h)) S.d)->Q u H')->(∀S H',OE z hs h S->Lp.cM (mE hs) (qE z h) S->bj Pt H H'->LT Pt H'->Q .non H')->Ru K Pt vs H Q dj
theorem b5C(F:Aj K "held_against" VF f fd)(Ce:C9 P w K mg base n "greatest_earned" ["houses","house","sizes"] (Gp K Pt) f2 d2)
  (Cl:CZ P w K mg base n "lowest" ["top","bottom"] Xd f3 d3):bf P w K mg base J8 (n+1) f fd ["houses","house","sizes"] (Ru K Pt):=by
 refine F.oa Dc λay A outer s H vs Q E hr h=>?_;obtain⟨ba,hv,xs,hs,h,z,br,kt,kg,rfl,hz,B,hH,gh,L,kG,kN⟩:=h;refine⟨_,j0 (r6 (i:=3) Dc.nd rfl (aI rfl) (Ce.c hr (c6 (pv 0) (c6 (pv 1) (c6 (pv 2) c7)))))
  (j0 (w6 (l5 Lv (pv 3) D5 (r9 _)) (j4 (o4 D5)) r8)
  (j0 (D3 (pv 3) (K4 rfl (p6 (j9 (i:=4) Dc.nd rfl (aI rfl)) (p6 (j9 (i:=5) Dc.nd rfl (aI rfl)) (p6 (j9 (i:=6) Dc.nd rfl (aI rfl)) (p6 (j9 (i:=7) Dc.nd rfl (aI rfl)) A4))))))
  (j4 (o4 (Cl.c hr (c6 (pv 4) (c6 (pv 7) c7))))))),?_⟩
 refine⟨_,rfl,_,rfl,_,rfl,ba,hv,xs,hs,h,z,br,kt,kg,mE hs,qE z h,rfl,hz,B.l,B.b,hH,gh,B.g,B.br,B.eQ,B.t,B.k,rfl,rfl,L,λS H' t aa wa O hn sz e' L' g1 g2 g3=>?_,λS H' O st e' L'=>⟨_,rfl,rfl,_,rfl,J3 (kN S H' O st e' L')⟩⟩
 ·have Bs:sj z hs h S:=⟨O,hn,sz⟩;obtain⟨b1,b2⟩:=Um Bs;exact⟨_,rfl,rfl,_,rfl,M7 ⟨_,rfl,t,_,rfl,cq.of g1,rfl,_,_,rfl,_,_,rfl,_,_,rfl,_,_,rfl,rfl,_,rfl,_,rfl,_,_,rfl,b1,b2,λu H2 e2 hu=>kG S H2 u Bs (λb o hb q'=>e2 _ _ (e' b o hb q')) (L'.same e2) hu⟩⟩
theorem b1g(F:Aj K "share" VG f fd)(Ch:vn P w K mg base n "house_of" ["book","number"] (OA K CN) f1 d1)(Ce:C9 P w K mg base n "held_against" ["houses","house","sizes"] (Ru K Pt) f2 d2):bf P w K mg base (W2 P w) (n+1) f fd ["book","number","sizes"] (OI K CN Pt):=by
 refine F.ob c0h λay A outer s H vs Q E hr h=>?_;obtain⟨ba,xs,hs,number,z,br,kt,kg,rfl,hz,B,lm,L,kG,kE⟩:=h;refine⟨_,j4 (o4 (Ce.c hr (c6 (pv 0) (c6 (l7 Ch.ok hr rfl Ch.m Ch.k Ch.b .nil V5 (c6 (pv 0) (c6 (pv 1) c7))) (c6 (pv 2) c7))))),_,rfl,_,rfl,_,rfl,ba,xs,number,rfl,B.l,lm,λi hv hi hx=>?_,kE⟩;obtain⟨h,hh,hH⟩:=aZ.at B.b hx;refine⟨_,rfl,ba,hv,xs,hs,h,z,br,kt,kg,rfl,hz,B,hH,B.g h (bK hh),L,λS H' u Bs e' L' hu=>kG i h S H' u hi hh Bs e' L' hu,λS H' O st e' L'=>(O.bounded (by have:=(cA.mp hh).1;lia) (by lia) (λj _=>b1v hh j) st).elim⟩
theorem e8P(F:Aj K "share_shown" RN f fd)(Ch:vn P w K mg base n "house_of" ["book","number"] (OA K CN) f1 d1)(Ce:C9 P w K mg base n "greatest_earned" ["houses","house","sizes"] (Gp K Pt) f2 d2)
  (Cl:CZ P w K mg base n "lowest" ["top","bottom"] Xd f3 d3) (OR:C9 P w K mg base n "told_prices" ["house","sizes","amounts","bottom"] (va K) f4 d4):bf P w K mg base (W2 P w) (n+1) f fd ["book","number","sizes"] (Tb K CN Pt):=by
 refine F.ob SO λay A outer s H vs Q E hr h=>?_;obtain⟨ba,xs,hs,number,z,br,kt,kg,rfl,hz,B,lm,L,kG,kE⟩:=h;refine⟨_,j0 (r6 (i:=3) SO.nd rfl (aI rfl) (l7 Ch.ok hr rfl Ch.m Ch.k Ch.b .nil V5 (c6 (pv 0) (c6 (pv 1) c7))))
  (fu.oi (j0 (D3 (Ce.c hr (c6 (pv 0) (c6 (pv 3) (c6 (pv 2) c7))))
   (K4 rfl (p6 (j9 (i:=4) SO.nd rfl (aI rfl)) (p6 (j9 (i:=5) SO.nd rfl (aI rfl)) (p6 (j9 (i:=6) SO.nd rfl (aI rfl)) (p6 (j9 (i:=7) SO.nd rfl (fY rfl)) A4))))))
  (j0 (CA (i:=8) ["weight"] [7] SO.nd rfl rfl rfl (C6 (B7 M0 (pv 6) G1 (B8 (Eh V2 d0)))) (λ_ _ _ _=>j9 (i:=0) f0H rfl (aI rfl))
   (λ_ _ _ _=>Cl.c hr (c6 (pv 0) (c6 (pv 1) c7))))
  (j4 (o4 (A9 (c6 (Cl.c hr (c6 (pv 4) (c6 (pv 7) c7))) (c6 (pv 8)
   (c6 (OR.c hr (c6 (pv 3) (c6 (pv 2) (c6 (pv 5) (c6 (pv 7) c7))))) c7))))))))),?_⟩
 refine⟨_,rfl,_,rfl,ba,xs,number,rfl,B.l,lm,λi hv hi hx=>?_,kE⟩;obtain⟨h,hh,hH⟩:=aZ.at B.b hx;have gh:=B.g h (bK hh);refine⟨_,rfl,_,rfl,_,rfl,ba,hv,xs,hs,h,z,br,kt,kg,mE hs,qE z h,rfl,hz,B.l,B.b,hH,gh,B.g,B.br,B.eQ,B.t,B.k,rfl,rfl,L,λS H' t aa wa O hn sz e' L' g1 g2 g3=>?_,λS H' O st e' L'=>(O.bounded (i0:=i) (l:=bx hs) (by have:=(cA.mp hh).1;lia) (by lia) (λj _=>b1v hh j) st).elim⟩;have Bs:sj z hs h S:=⟨O,hn,sz⟩;obtain⟨b1,b2⟩:=Um Bs;have sg:=Ml z;have eQ:=B.eQ;have Xv:=B.t;have Xw:=B.k;have lt:=gh.lt;have lg:=gh.lg;have Xf:=t9 (show(1000:Nat)<=1000 from aT _);refine⟨t,_,rfl,cq.of g1,rfl,_,_,rfl,_,_,rfl,_,_,rfl,_,_,rfl,rfl,_,rfl,_,rfl,_,rfl,wa,_,rfl,ah.of g3,λa1 h1=>?_⟩;have lw:bx (K1 (mE hs) (qE z h) S)=bx hs+1:=by unfold K1;simp
 have ec:P5 ((K1 (mE hs) (qE z h) S).map V.int) bh (av (-1))=((K1 (mE hs) (qE z h) S).take (bx hs)).map V.int:=by
  unfold P5;rw[HT.rp,oY,<-pG];congr 1;have:HT.wc (bx ((K1 (mE hs) (qE z h) S).map V.int)) (bx ((K1 (mE hs) (qE z h) S).map V.int)) (av (-1))=bx hs:=by
   show(if (-1:Int)<0 then ((-1:Int)+(bx ((K1 (mE hs) (qE z h) S).map V.int):Int)).toNat else min (-1:Int).toNat (bx ((K1 (mE hs) (qE z h) S).map V.int)))=bx hs;rw[if_pos (by decide),aH,lw];lia
  rw[this];rfl
 rw[ec];have s1:=af.new h1 (.lst (((K1 (mE hs) (qE z h) S).take (bx hs)).map V.int));refine⟨a1,rfl,⟨_,ah.of ae⟩,λl hl=>(N5 (A3 (ah.of ae)) hl (by rw[aH,cI];lia) (pU l ((K1 (mE hs) (qE z h) S).take (bx hs)) S.d) Ay (λi x H2 ys N' hx e j_ hN=>?_) (λys H2 e j_ len pr=>?_))⟩
 ·obtain⟨x',rfl,_⟩:=LY hx;exact⟨Wk.set (by decide),_,rfl,_,rfl,x',S.d,rfl,b1,b2,λv H3 e3 hv=>hN _ _ e3 (A_ j_ e3 hx hv)⟩
 refine⟨_,rfl,_,rfl,_,S.d,rfl,b1,b2,λu H3 e3 hu=>⟨_,rfl,_,rfl,_,rfl,_,rfl,_,rfl,?_⟩⟩;have i5:=(s1.trans e).trans e3;have la:bx (v7 (mE hs) (qE z h) S)=bx h.1+bx h.2+bx (K5 z):=by unfold v7;simp
 refine⟨hv,h,z,aa,S.d,v7 (mE hs) (qE z h) S,rfl,hz,(HS.fg L e' hH).same i5,ah.of (i5 _ _ g2),la,by lia,by lia,λx hx=>?_,b1,b2,λpt fa ga v H4 tx wd e4 q1 q2 q3 q4 q5 q6 q7 q8=>?_⟩
 ·unfold v7 at hx;obtain⟨v,Lx,rfl⟩:=aY.mp hx;exact a8Y O sz (fF.mp Lx)
 refine⟨(by show 3<=sizeLine;decide),λtt Pj=>?_⟩;have e5:=af.new Pj (.tup [u,.ref l,.ref pt]);have kq:=e4.trans e5;have Ba:H l=bh:=by
  cases q:H l with
  |none=>rfl
  |some o =>
   exfalso;by_cases Rk:l=Pt
   ·rw[Rk] at hl;rcases L' with w'|⟨_,w',_⟩
    ·rw[s1 _ _ w'] at hl;cases hl
    ·rw[s1 _ _ w'] at hl;cases hl
   ·rw[s1 _ _ (e' l o Rk q)] at hl;cases hl
 exact kG i h S _ tt l u (.ref pt) ys hi hh Bs (λb o hb q'=>kq _ _ (i5 _ _ (e' b o hb q'))) ((L'.same i5).same kq) ae (hu.same kq) (kq _ _ (e3 _ _ j_)) Ba (((Ap len pr).same e3).same kq)
  ⟨pt,fa,ga,v,tx,wd,rfl,e5 _ _ q1,e5 _ _ q2,q3.same e5,e5 _ _ q4,q5.same e5,q6.same e5,yA e' L' (ko i5 q7),yA e' L' (ko i5 q8)⟩
end de
namespace L2
open PySem
def fh.mono(h:fh n i)(hn:n<=m):fh m i:=de.fh.mono h hn
def fh.mul(h:fh n i)(k:fh m j):fh (n+m) (i*j):=de.fh.mul h k
def fh.add(h:fh n i)(k:fh n j):fh (n+1) (i+j):=de.fh.add h k
end L2
namespace Fr
theorem c8h{b:Int}(ha:0<a)(hb:0<b):a<=a*b:=by
 have:=jU (show(1:Int)<=b by lia) (cC ha);rw[jF] at this;exact this
theorem e8S(hb:0<b)(hf:0<f)(h1:b∣D)(h2:f∣D):b/gI b f*f∣D:=by
 obtain⟨m,rfl⟩:=jZ (cC hb);obtain⟨n,rfl⟩:=jZ (cC hf);have e:(m:Int)/gI m n*n=((nA m n:Nat):Int):=by
  have e1:nA m n=m/Nat.gcd m n*n:=by
   unfold nA;rw[qX m n,Nat.mul_div_assoc n (Nat.gcd_dvd_left m n),qX]
  rw[e1];unfold gI;rw[Int.natCast_mul,Int.natCast_ediv];rfl
 rw[e,nB];exact Nat.lcm_dvd (nB.mp h1) (nB.mp h2)
theorem b4Y(hD:0<D):(low x D).2∣D:=⟨gI x D,by rw[bX];exact(QM hD).2⟩
def Bb(hb:0<b):(low t b).2<=b:=wG hb (b4Y hb)
end Fr
namespace de
open PySem L2 Fr
theorem Bc(hb:0<b)(h:fh n t):fh n (low t b).1:=by
 obtain⟨h1,_⟩:=QM hb;unfold fh at *;have e:t.natAbs=(gI t b).natAbs*(low t b).1.natAbs:=by rw[<-rV,<-h1]
 have:1<=(gI t b).natAbs:=by lia
 have:=pJ (low t b).1.natAbs this;lia
def UG(K:aF)(H:Hp)(ys:List V)(xs:List Int)(D:Int):Prop:=bx ys=bx xs/\∀i y,ys[i]?=av y->Xc K H y (low (xs.getD i 0) D)
def dk.v(h:dk H ys xs D):UG K H ys xs D:=⟨h.1,λi y hy=>(h.2 i y hy).v⟩
theorem e9U{x D:Int}(hD:0<D)(hx:0<=x):0<=(low x D).1:=by
 obtain⟨h1,_⟩:=QM (t:=x) hD;have hg:=QL (a:=x) hD;by_cases h:0<=(low x D).1
 ·exact h
 ·have:gI x D*(low x D).1<0:=Int.mul_neg_of_pos_of_neg hg (by lia);lia
def OJ(z:aC)(s D:Int):Prop:=((z="one"\/z="less")->s<=D)/\((z="one"\/z="more")->D<=s)
theorem UT:∀{ws:List Int}{m},(∀x∈ws,fh m x)->bx ws<=200->fh (m+200) ws.sum:=λ{ws m}h hl=>by
 have key:∀l:List Int,(∀x∈l,fh m x)->l.sum.natAbs<=bx l*2^m:=λl=>by
  induction l with
  |nil=>intro _;exact dM _
  |cons x r ih =>
   intro h;have h1:x.natAbs<2^m:=h x cY;have h2:=ih λy hy=>h y (bZ _ hy);have h3:=Int.natAbs_add_le x r.sum;rw[dW,eM,mI];lia
 have h3:200*2^m<2^(m+200):=by
  rw[xF,qX];exact Nat.mul_lt_mul_of_pos_left (by decide) (sC (by decide))
 exact gU (bF (key ws h) (pJ _ hl)) h3
def col(rows:List (List Int))(i:Nat):List Int:=rows.map λr=>r.getD i 0
section
variable{P:aM}{w:aL}{K:aF}{mg:aC->Option aE}{base:aJ}{f g:aA}{fd gd:aK}{n:Nat}
def V4(j:Nat)(h:i8):List Int:=if j=0 then h.1 else h.2
def U6(H:Hp)(hs:List i8)(ws:List Int)(D:Int)(j k:Nat)(a:aA):Prop:=∃ys,H a=av (.lst ys)/\bx ys=k/\∀i y,ys[i]?=av y->Ex H y (low (cV (·*·) (col (hs.map (V4 j)) i) ws).sum D)
end
end de
namespace L2
open PySem PySem.Spec PyProof.Rows
end L2
namespace de
open PySem L2 Fr
def L8(hs:List i8)(ws:List Int)(j i:Nat):Int:=(cV (·*·) (col (hs.map (V4 j)) i) ws).sum
theorem GQ:∀{ns ws},(∀x∈ns,fh a x)->(∀x∈ws,fh b x)->∀x∈List.zipWith (·*·) ns ws,fh (a+b) x
 |[],_,_,_,x,hx=>by simp at hx
 |_::_,[],_,_,x,hx=>by simp at hx
 |n::ns,w::ws,h1,h2,x,hx=>by
  rw[eW] at hx;rcases bH.mp hx with e|e
  ·rw[e];exact(h1 n cY).mul (h2 w cY)
  ·exact GQ (λy hy=>h1 y (bZ _ hy)) (λy hy=>h2 y (bZ _ hy)) x e
theorem vd{br:Int}{kt kg:Nat}{h:i8}(g:HG br kt kg h)(hf:br<=2^60)(j:Nat):∀x∈V4 j h,fh 100 x:=λx hx=>by
 have:0<=x/\x<=br:=by
  unfold V4 at hx;by_cases h0:j=0
  ·rw[if_pos h0] at hx;have:=g.t x hx;lia
  ·rw[if_neg h0] at hx;exact g.g x hx
 exact(Gm (n:=61) this.1 (by lia)).mono (by decide)
def nZ(H:Hp)(t:aA)(pt pg:List Int)(ps D:Int):Prop:=∃fa ga u tx wd,H t=av (.tup [.ref fa,.ref ga,u])/\H fa=av (.lst tx)/\dk H tx pt D/\H ga=av (.lst wd)/\dk H wd pg D/\Ex H u (low ps D)
theorem nZ.same(e:af H H')(h:nZ H t pt pg ps D):nZ H' t pt pg ps D:=by
 obtain⟨fa,ga,u,tx,wd,h1,h2,h3,h4,h5,h6⟩:=h;exact⟨fa,ga,u,tx,wd,e _ _ h1,e _ _ h2,h3.same e,e _ _ h4,h5.same e,h6.same e⟩
def e9r(a b c:α):U7 [a,b,c] 0=av a:=A2 rfl
def U9(a b c:α):U7 [a,b,c] 1=av b:=A2 rfl
def e9z(a b c:α):U7 [a,b,c] 2=av c:=A2 rfl
theorem dk.snoc(h:dk H ys xs D)(hy:Ex H y (low x D)):dk H (ys++[y]) (xs++[x]) D:=by
 refine⟨by simp[h.1],λi u hu=>?_⟩;rw[F0];by_cases hi:i<bx ys
 ·rw[dH hi] at hu;rw[if_pos (h.1▸hi)];exact h.2 i u hu
 ·rw[dU (by lia)] at hu;have yz:i-bx ys=0:=by
   cases z:i-bx ys with
   |zero=>rfl
   |succ k=>rw[z] at hu;simp at hu
  rw[yz] at hu;have:y=u:=by simpa using hu
  subst this;rw[if_neg (h.1▸hi),<-h.1,yz];exact hy
theorem Xh:∀{xs ys}{a b:Int},bx xs=bx ys->(cV (·*·) (xs++[a]) (ys++[b])).sum=(cV (·*·) xs ys).sum+a*b
 |[],[],a,b,_=>by simp
 |x::xs,y::ys,a,b,h=>by
  rw[fD,fD,eW,eW,dW,dW,Xh (by simp_all),Int.add_assoc]
structure sr(pt pg:List Int)(ps D:Int)(kt kg:Nat):Prop where
 lt:bx pt=kt
 lg:bx pg=kg
 bt:∀x∈pt,0<=x/\fh 5000 x
 bg:∀x∈pg,0<=x/\fh 5000 x
 bs:fh 5000 ps
 d:0<D
 d2:D<2^4000
def P7(h:i8)(pg:List Int)(ps:Int):Int:=(cV (·*·) h.2 pg).sum+ps
def fo(h:i8)(pt:List Int):Int:=(cV (·*·) h.1 pt).sum
def OK(z:aC)(ps:Int):Prop:=((z="any"\/z="less")->ps<=0)/\((z="any"\/z="more")->0<=ps)
mutual
theorem U_:∀d:dI,d.canLay0=true->cK d d=true
 |.none,_=>by rw[cK]
 |.bool b,_=>by rw[cK];simp
 |.int i,_=>by rw[cK];simp
 |.str x,_=>by rw[cK];simp
 |.list xs,h=>by rw[cK];exact Xi xs (by rw[fU] at h;exact h)
 |.tuple xs,h=>by rw[cK];exact Xi xs (by rw[fU] at h;exact h)
 |.dict dz,h=>by rw[fU] at h;cases h
theorem Xi:∀ds:List dI,cP ds=true->hV ds ds=true
 |[],_=>by rw[hV]
 |d::r,h=>by
  rw[cP,fQ] at h;rw[hV,U_ d h.1,Xi r h.2];rfl
end
def dF(x:Q2):dI:=.tuple [.int x.1,.int x.2]
theorem Xc.dp(h:Xc K H v x):Dp K H v (dF x):=by
 obtain⟨a,rfl,q⟩:=h;exact .tup q (.cons (.int _) (.cons (.int _) .nil))
def yB x:(dF x).canLay0=true:=rfl
theorem d0D x:(dF x).depth<=60:=by
 unfold dF;simp[iY,iC]
theorem zL(hD:0<D):(low x D).1*D=x*(low x D).2:=by
 obtain⟨h1,h2⟩:=QM hD;generalize (low x D).1=a at *;generalize (low x D).2=b at *;generalize gI x D=g at *;rw[h1,h2]
 ac_rfl
end de
namespace Lp
theorem O7:∀{n},(∀k,k<n->g k<=h k)->sumTo g n<=sumTo h n
 |0,_=>dL _
 |n+1,e=>Int.add_le_add (O7 λk hk=>e k (by lia)) (e n (by lia))
theorem Of.weak(O:Of m q A b c S)(hn:∀j,j<q->¬S.T m j<0){y:Nat->Int}(hy:∀j,j<q->0<=y j)(hr:∀i,i<m->sumTo (λj=>A i j*y j) q<=b i*e):S.d*sumTo (λj=>c j*y j) q<=e*S.T m q:=by
 obtain⟨D1,D2⟩:=O.Hv;have nn:∀v,0<=aq m q S v:=Of.jn λj hj=>by have:=hn j hj;lia
 have e1:S.d*sumTo (λj=>c j*y j) q=sumTo (λj=>sumTo (λi=>A i j*aq m q S (q+i)) m*y j-aq m q S j*y j) q:=by
  rw[<-D8];refine aj λj hj=>?_;rw[D1 j hj,fG,xG,bX (c j) S.d,cG]
 have e2:sumTo (λj=>sumTo (λi=>A i j*aq m q S (q+i)) m*y j-aq m q S j*y j) q<=sumTo (λj=>sumTo (λi=>A i j*aq m q S (q+i)) m*y j) q:=by
  refine O7 λj hj=>?_;have:=eO (nn j) (hy j hj);lia
 have e3:sumTo (λj=>sumTo (λi=>A i j*aq m q S (q+i)) m*y j) q=sumTo (λi=>aq m q S (q+i)*sumTo (λj=>A i j*y j) q) m:=by
  have x1:sumTo (λj=>sumTo (λi=>A i j*aq m q S (q+i)) m*y j) q=sumTo (λj=>sumTo (λi=>aq m q S (q+i)*(A i j*y j)) m) q:=by
   refine aj λj hj=>?_;rw[bX,<-D8];refine aj λi hi=>?_
   ac_rfl
  rw[x1,NY];refine aj λi hi=>?_;rw[D8]
 have e4:sumTo (λi=>aq m q S (q+i)*sumTo (λj=>A i j*y j) q) m<=sumTo (λi=>e*(b i*aq m q S (q+i))) m:=by
  refine O7 λi hi=>?_;have:=jU (hr i hi) (nn (q+i));have x:aq m q S (q+i)*(b i*e)=e*(b i*aq m q S (q+i)):=by ac_rfl
  rw[x] at this;exact this
 rw[D8,D2] at e4;rw[e1];rw[e3] at e2;exact xA e2 e4
end Lp
namespace de
open PySem L2 Fr
abbrev x8(l x:List Int):Int:=(cV (·*·) l x).sum
theorem Xj:∀l r x,x8 (l++r) x=x8 l (x.take (bx l))+x8 r (x.drop (bx l))
 |[],r,x=>by simp[x8]
 |a::l,r,[]=>by simp[x8]
 |a::l,r,y::x=>by
  have:=Xj l r x;unfold x8 at *;rw[fD,eW,dW,this,eM,xH,xI,eW,dW];lia
theorem Mn:∀l x,x8 (l.map λy=>-y) x =-x8 l x
 |[],x=>by simp[x8]
 |a::l,[]=>by simp[x8]
 |a::l,y::x=>by
  have:=Mn l x;unfold x8 at *;rw[cS,eW,dW,this,eW,dW,iJ];lia
theorem T6:∀k x,x8 (aQ k 0) x=0
 |0,x=>by simp[x8]
 |k+1,[]=>by simp[x8]
 |k+1,y::x=>by
  have:=T6 k x;unfold x8 at *;rw[eZ,eW,dW,this];lia
theorem T8:∀l x,x8 l x=x8 x l
 |[],x=>by simp[x8]
 |a::l,[]=>by simp[x8]
 |a::l,y::x=>by
  have:=T8 l x;unfold x8 at *;rw[eW,dW,this,eW,dW,bX]
theorem M9:∀n l x,bx l=n->bx x=n->Lp.sumTo (λj=>l.getD j 0*x.getD j 0) n=x8 l x
 |0,l,x,h1,h2=>by
  rw[lM h1];simp[x8,Lp.sumTo]
 |n+1,l,x,h1,h2=>by
  obtain⟨l',a,rfl⟩:∃l' a,l=l'++[a]:=⟨l.dropLast,l.getLast (by intro z;rw[z] at h1;cases h1),(xJ _).symm⟩;obtain⟨x',b,rfl⟩:∃l' a,x=l'++[a]:=⟨x.dropLast,x.getLast (by intro z;rw[z] at h2;cases h2),(xJ _).symm⟩;have l1:bx l'=n:=by simp_all
  have l2:bx x'=n:=by simp_all
  show Lp.sumTo _ n+_=_;have e:Lp.sumTo (λj=>(l'++[a]).getD j 0*(x'++[b]).getD j 0) n=Lp.sumTo (λj=>l'.getD j 0*x'.getD j 0) n:=Lp.aj λj hj=>by
   rw[F0,F0,if_pos (by lia),if_pos (by lia)]
  rw[e,M9 n l' x' l1 l2];show _=(cV (·*·) (l'++[a]) (x'++[b])).sum;rw[Xh (by lia)];show x8 l' x'+(l'++[a]).getD n 0*(x'++[b]).getD n 0=_;rw[F0,F0,if_neg (by lia),if_neg (by lia),l1,l2,gL];rfl
theorem Ku{F:Nat->Int}(h:j<n):((aW n).map F).getD j 0=F j:=by
 rw[bA,aP,cU h];rfl
theorem a9W(O:Lp.Of m q A b c S)(sz:Sz 4000 m q S)(hv:v<q+m):fh 4000 (Lp.aq m q S v):=by
 rcases O.w.all v hv with⟨i,hi,e⟩|⟨j,hj,e⟩
 ·have:Lp.aq m q S v=0:=Lp.dm λk hk=>if_neg λz=>O.w.io i k hi hk (e.trans z.symm);rw[this];exact sC (by decide)
 ·have:Lp.aq m q S v=S.T m j:=by
   unfold Lp.aq;rw[Lp.cz hj λk hk hn=>if_neg λz=>hn (O.w.oo k j hk hj (z.trans e.symm)),if_pos e]
  rw[this];exact sz.1 m j (by lia) (by lia)
theorem Mo(O:Lp.Of m q (Y8 rows) (M2 ow) (M2 goal) S)(hn:∀j,j<q->¬S.T m j<0)(hl:bx rows=m)(hj:j<q):goal.getD j 0*S.d<=x8 (col rows j) (K1 m q S):=by
 have h:=O.Hv.1 j hj;have nn:0<=Lp.aq m q S j:=Lp.Of.jn (λj hj=>by have:=hn j hj;lia) j;have e:Lp.sumTo (λi=>Y8 rows i j*Lp.aq m q S (q+i)) m=x8 (col rows j) (K1 m q S):=by
  rw[<-M9 m (col rows j) (K1 m q S) (by unfold col;rw[aH];exact hl) (by unfold K1;simp)];refine Lp.aj λi hi=>?_;unfold K1;rw[Ku hi];congr 1;unfold Y8 col;rw[bA (l:=xK _ rows),aP,bA (l:=rows),aS (by lia)];rfl
 rw[e] at h;show M2 goal j*S.d<=_;lia
theorem a9o(O:Lp.Of m q (Y8 rows) (M2 ow) (M2 goal) S)(hl:bx ow=m):x8 ow (K1 m q S)=S.T m q:=by
 have h:=O.Hv.2;have e:Lp.sumTo (λi=>M2 ow i*Lp.aq m q S (q+i)) m=x8 ow (K1 m q S):=by
  rw[<-M9 m ow (K1 m q S) hl (by unfold K1;simp)];refine Lp.aj λi hi=>?_;unfold K1;rw[Ku hi];rfl
 rw[e] at h;exact h
theorem U'(hn:∀j,j<q->¬S.T m j<0):∀x∈K1 m q S,0<=x:=λx hx=>by
 unfold K1 at hx;obtain⟨i,_,rfl⟩:=aY.mp hx;exact Lp.Of.jn (λj hj=>by have:=hn j hj;lia) _
theorem a4J:K1 (m+1) q S=(K1 (m+1) q S).take m++[Lp.aq (m+1) q S (q+m)]:=by
 unfold K1;rw[pE,bQ,pK (by simp)];rfl
theorem OM a b c xs:x8 (a++b++c) xs=x8 a (xs.take (bx a))+x8 b ((xs.drop (bx a)).take (bx b))+x8 c (xs.drop (bx a+bx b)):=by
 rw[Xj (a++b) c xs,Xj a b,aX,xL,jT (by lia),List.drop_take,gO]
theorem Y6(a b c:List Int)j:(a++b++c).getD j 0=if j<bx a then a.getD j 0 else if j<bx a+bx b then b.getD (j-bx a) 0 else c.getD (j-(bx a+bx b)) 0:=by
 rw[F0,aX];by_cases h1:j<bx a
 ·rw[if_pos (by lia),if_pos h1,F0,if_pos h1]
 ·by_cases h2:j<bx a+bx b
  ·rw[if_pos h2,if_neg h1,if_pos h2,F0,if_neg h1]
  ·rw[if_neg h2,if_neg h1,if_neg h2]
abbrev oz(h:i8)(xs:List Int):List Int:=xs.take (bx h.1)
abbrev o_(h:i8)(xs:List Int):List Int:=(xs.drop (bx h.1)).take (bx h.2)
abbrev pe(z:aC)(h:i8)(xs:List Int):Int:=x8 (xs.drop (bx h.1+bx h.2)) (K5 z)
theorem Rx(h1:bx g.1=bx h.1)(h2:bx g.2=bx h.2)xs:x8 (A7 z g) xs=P7 g (o_ h xs) (pe z h xs)-fo g (oz h xs):=by
 unfold A7 P7 fo;rw[OM,aH,Mn,h1,h2,T8 (K5 z)];lia
theorem a6H rows r j:col (rows++[r]) j=col rows j++[r.getD j 0]:=by
 unfold col;rw[bQ];rfl
def Mp(h:bx a=bx b):x8 (a++[x]) (b++[y])=x8 a b+x*y:=Xh h
section
variable{z:aC}{hs:List i8}{h:i8}{kt kg:Nat}(hk:∀g∈hs,bx g.1=kt/\bx g.2=kg)
include hk
theorem a5i ws(hj:j<kt):x8 (col (hs.map (A7 z)) j) ws =-L8 hs ws 0 j:=by
 have e:col (hs.map (A7 z)) j=(col (hs.map (V4 0)) j).map λy=>-y:=by
  unfold col;rw[bC,bC,bC];refine fM λg hg=>?_;show(A7 z g).getD j 0 =-(V4 0 g).getD j 0;have:=hk g hg;unfold A7;rw[Y6,aH,if_pos (by lia),Rt];rfl
 rw[e,Mn];rfl
theorem a5j ws(hj:j<kg):x8 (col (hs.map (A7 z)) (kt+j)) ws=L8 hs ws 1 j:=by
 have e:col (hs.map (A7 z)) (kt+j)=col (hs.map (V4 1)) j:=by
  unfold col;rw[bC,bC];refine fM λg hg=>?_;show(A7 z g).getD (kt+j) 0=(V4 1 g).getD j 0;have:=hk g hg;unfold A7;rw[Y6,aH,if_neg (by lia),if_pos (by lia),this.1,gO];rfl
 rw[e];rfl
end
structure c0L(z:aC)(hs:List i8)(h:i8)(S:Lp.Bo)(kt kg:Nat)(ws:List Int):Prop where
 lw:bx ws=bx hs
 nn:∀x∈ws,0<=x/\fh 20000 x
 size:OJ z ws.sum S.d
 takes:∀j,j<kt->L8 hs ws 0 j<=h.1.getD j 0*S.T (mE hs) (qE z h)
 gives:∀j,j<kg->h.2.getD j 0*S.d<=L8 hs ws 1 j
 pos:0<S.T (mE hs) (qE z h)
 le:h∈hs->S.T (mE hs) (qE z h)<=S.d
 ja:∀g∈hs,P7 g (o_ h (v7 (mE hs) (qE z h) S)) (pe z h (v7 (mE hs) (qE z h) S))<=fo g (oz h (v7 (mE hs) (qE z h) S))
 pays:fo h (oz h (v7 (mE hs) (qE z h) S))=S.d
 BQ:P7 h (o_ h (v7 (mE hs) (qE z h) S)) (pe z h (v7 (mE hs) (qE z h) S))=S.T (mE hs) (qE z h)
 pr:sr (oz h (v7 (mE hs) (qE z h) S)) (o_ h (v7 (mE hs) (qE z h) S)) (pe z h (v7 (mE hs) (qE z h) S)) S.d kt kg
 sign:OK z (pe z h (v7 (mE hs) (qE z h) S))
end de
namespace L2
open PySem PySem.Spec PyProof.Rows
theorem c6Y{K}{Ps:List aA}
  (KX:K.In vy.heap) (EL:vy.heap.Ns mainGlobals mg) (hb:vy.heap.Ns builtinsNs mb) (hbb:∀x:aC,x≠"__name__"->mb x=bootBuiltins x) (VJ:vy.heap.NoLimit) (hg:vy.gens=#[])
  (ha:vy.heap.get? a=av {cls:=.type "list",data:=.seq vs.toArray}) (hi:Do vs ns) (hl:ns.length<=sizeLine) (hr:b_ k callerA)
  (hT:∀p∈Ps,∃c,vy.heap.TableAt c p #[]) (hKP:∀p∈Ps,K.lookup p=bh) (BM:QO mg vy.heap)
  (F:∀base,K.In base->base.Ns mainGlobals mg->QO mg base->bf P w K mg base CX k fa fd [x] sp) (Be:∀s u,lU s fd ⟨[u],[]⟩ [(x,u)])
  (iu:∀H,(∀p∈Ps,H p=av (.my #[]))->ah K H a (ns.map V.int)->sp [.ref a] H (λv _=>v=.bl true) λ_ _ _=>False)
  (V1:∀H e s',CX [] H vy (λ_ _ _=>False) e s'->False) :
  codeAny (model P w) callerA (.call (.ref fa) ⟨[.ref a],[]⟩) (λr s'=>r=.ok (.ret (.bool true))/\OldK vy.heap s'.heap/\s'.os=vy.os/\jC s'.gens) vy:=by
 have rv:=a1D hi;have Db:∀p∈Ps,vy.heap.get? p=av {cls:=.none,data:=.fields #[]}:=λp hp=>by
  obtain⟨c,z⟩:=hT p hp;exact z.2
 have core:∀H,(∀b,H b=bh\/(∃o xs,H b=av (.Bw o (.lst xs)))\/(b∈Ps/\H b=av (.my #[])))->(∀p∈Ps,H p=av (.my #[]))->ah K H a (ns.map V.int)->mz H vy.heap->(∀b,H b≠bh->b=a\/b∈Ps)->(H a≠bh->K.lookup a=bh) →
   codeAny (model P w) callerA (.call (.ref fa) ⟨[.ref a],[]⟩) (λr s'=>r=.ok (.ret (.bool true))/\OldK vy.heap s'.heap/\s'.os=vy.os/\jC s'.gens) vy:=by
  intro H hO_ hP hS ck hA hK;have V3:∀{b:aA}{o:Obj},vy.heap.get? b=av o->H b=bh->(rF vy.heap H).get? b=av o:=λe n=>c6Z e n;have TR:∀{b:aA}{o:Obj}{es:Array mZ}{ep:Nat},vy.heap.get? b=av o->o.data=.dict es ep->H b=bh:=λ{b o es ep}e d=>by
   cases q:H b with
   |none=>rfl
   |some u =>
    rcases hA b (by simp_all) with e'|e'
    ·subst e';rw[ha] at e;cases e;have d':=d;cases d'
    ·rw[Db b e'] at e;cases e;have d':=d;cases d'
  have G5:∀{b:aA}{m:aC->Option aE},vy.heap.Ns b m->(rF vy.heap H).Ns b m:=λ{b m} ⟨o,es,ep,e,d,r⟩=>⟨o,es,ep,V3 e (TR e d),d,r⟩;have hKb:=λb o e=>V3 (KX b o e) (by
   cases q:H b with
   |none=>rfl
   |some u =>
    rcases hA b (by simp_all) with e'|e'
    ·subst e';rw[hK (by rw[q];simp)] at e;cases e
    ·rw[hKP b e'] at e;cases e)
  have BM':QO mg (rF vy.heap H):=by
   obtain⟨bm,ob,b1,b2,b3,b4,b5,b6⟩:=BM;refine⟨bm,ob,b1,b2,V3 b3 ?_,b4,b5,b6⟩;cases q:H bm with
   |none=>rfl
   |some u =>
    rcases hA bm (by simp_all) with e'|e'
    ·subst e';rw[ha] at b3;cases b3;exact absurd b4 (by intro z;injection z with z;exact absurd z (by decide))
    ·rw[Db bm e'] at b3;cases b3;cases b4
  have e0:v_ P w K mg (rF vy.heap H) callerA [] vy H:=⟨rfl,⟨hKb,G5 EL,⟨mb,G5 hb,hbb⟩,let ⟨mc,h1,h2⟩:=VJ;⟨mc,G5 h1,h2⟩⟩,λb o e=>c7a e,Nat.le_of_eq (c6X _ _),trivial,λb hb=>absurd (show b∈([]:List aA) from hb) (by simp),ck,.of_eq hg⟩;refine nR ((F _ hKb (G5 EL) BM').run callerA [] vy H ⟨[.ref a],[]⟩ [.ref a] [.ref a] _ _ hr e0 (Be vy (.ref a)) (.cons rfl .nil) (iu H hP hS)) λr s' h=>?_;cases r with
  |error e=>exact(V1 H e s' h).elim
  |ok fl =>
   cases fl with
   |next=>exact eD h
   |brk=>exact eD h
   |cont=>exact eD h
   |ret u =>
    obtain⟨v,H',os,bare,un,Bf,r',q⟩:=h;have q':=q;subst q';obtain rfl:u=pT true:=r';refine⟨rfl,⟨λb o e=>?_,λb o e=>un.there b o e (by simp)⟩,os,bare⟩;rcases hO_ b with q|⟨ob,xs,z⟩|⟨hbP,z⟩
    ·exact .inl (un.keep b o e q (by intro z;exact absurd (show b∈([]:List aA) from z) (by simp)) (by simp))
    ·have z2:=un.pw b ob _ z;obtain⟨e1,_⟩:=ck b _ z;obtain⟨e2,_⟩:=Bf b _ z2;rw[e] at e1;cases e1;exact .inl e2
    ·obtain⟨more,z2⟩:=un.pz b _ z;rw[Db b hbP] at e;cases e;obtain⟨c,ht⟩:=hT b hbP;exact .inr (.inl ⟨ht.isCodeTable,rfl,#[],more,rfl,Bf b _ z2⟩)
 have aP_:a ∉ Ps:=λz=>by
  have:=Db a z;rw[ha] at this;cases this
 cases hk:K.lookup a with
 |some o =>
  have e:=KX a o hk;rw[ha] at e;cases e;refine core (λb=>if b∈Ps then av (.my #[]) else bh) (λb=>?_) (λp hp=>if_pos hp) (.inr ⟨_,vs.toArray,_,hk,rfl,rfl,rfl,by rw[bY,hi.length];exact hl,by simpa using rv⟩) (λb u z=>?_) (λb z=>?_) λz=>absurd (if_neg aP_) z
  ·by_cases hb:b∈Ps
   ·exact .inr (.inr ⟨hb,if_pos hb⟩)
   ·exact .inl (if_neg hb)
  ·by_cases hb:b∈Ps
   ·have z':=(if_pos hb).symm.trans z;cases z';exact Db b hb
   ·have z':=(if_neg hb).symm.trans z;cases z'
  ·by_cases hb:b∈Ps
   ·exact .inr hb
   ·exact absurd (if_neg hb) z
 |none =>
  refine core (λb=>if b=a then av (.Bw {cls:=.type "list",data:=.seq vs.toArray} (.lst (ns.map V.int))) else if b∈Ps then av (.my #[]) else bh) (λb=>?_) (λp hp=>?_) (.inl (.inr ⟨{cls:=.type "list",data:=.seq vs.toArray},if_pos rfl⟩)) (λb u z=>?_) (λb z=>?_) λ_=>hk
  ·by_cases hb:b=a
   ·exact .inr (.inl ⟨_,_,if_pos hb⟩)
   ·by_cases IU:b∈Ps
    ·exact .inr (.inr ⟨IU,(if_neg hb).trans (if_pos IU)⟩)
    ·exact .inl ((if_neg hb).trans (if_neg IU))
  ·have hb:p≠a:=λz=>aP_ (z▸hp);exact(if_neg hb).trans (if_pos hp)
  ·by_cases hb:b=a
   ·have z':=(if_pos hb).symm.trans z;cases z';subst hb;exact⟨ha,by rw[aH];exact hl,vs,_,rv,ha⟩
   ·by_cases IU:b∈Ps
    ·have z':=((if_neg hb).trans (if_pos IU)).symm.trans z;cases z';exact Db b IU
    ·have z':=((if_neg hb).trans (if_neg IU)).symm.trans z;cases z'
  ·by_cases hb:b=a
   ·exact .inl hb
   ·by_cases IU:b∈Ps
    ·exact .inr IU
    ·exact absurd ((if_neg hb).trans (if_neg IU)) z
theorem aao{l:W.OpenLaw}{K:gN->aF}{CX:aL->ze}{sp:aL->Sp}{Ts_:List (aA×Addr)}
  (hn:l.most=av n) (Gb:n<=sizeLine) (zF:d.params.defaults=[]) (hr:b_ k callerA)
  (hY:∀w h,ye w h->(K w.params).In h/\∀t∈Ts_,h.get? t.2=av (oW #[]))
  (hC:∀(w:aL),∀t∈Ts_,No (K w.params) t.1 t.2=true/\(K w.params).lookup t.2=bh)
  (F:∀w mg fa h,(K w.params).In h->h.Ns mainGlobals mg->mg d.name=av (.ref fa) →
   ∃fd,(∀s u,lU s fd ⟨[u],[]⟩ [(x,u)])/\
    ∀base,(K w.params).In base->base.Ns mainGlobals mg->QO mg base->(∀t∈Ts_,oV base t.1 t.2)->bf l.prog w (K w.params) mg base (CX w) k fa fd [x] (sp w))
  (iu:∀w H a(ns:List Int),bx ns<=n->(∀t∈Ts_,H t.2=av (.my #[]))->ah (K w.params) H a (ns.map V.int)->sp w [.ref a] H (λv _=>v=.bl true) λ_ _ _=>False)
  (V1:∀w H s e s',CX w [] H s (λ_ _ _=>False) e s'->False) :
  W.WalkO q loose Ge ye l.row.toRowW d [] (λf vs=>Fa f vs):=by
 refine Att.aan hn zF λw s₀ vy mg mb fa o pm cd doc a vs ns G Y ho hd xo zG uy hints hlen hg=>?_;obtain⟨KX,hTb⟩:=hY w _ Y;obtain⟨fd,hb,hF⟩:=F w mg fa _ KX G.T.g zG;have mem:∀p∈Ts_.map (·.2),∃t∈Ts_,t.2=p:=λp hp=>by
  obtain⟨t,h1,h2⟩:=aY.mp hp;exact⟨t,h1,h2⟩
 refine c6Y KX G.T.g G.T.b G.T.builtins G.T.nolimit hg uy hints (bF hlen Gb) hr (λp hp=>?_) (λp hp=>?_) G.T.bmain (λbase kb nb bm=>hF base kb nb bm λt ht=>On kb (hC w t ht).1) hb (λH hP hS=>iu w H a ns hlen (λt ht=>hP _ (List.mem_map_of_mem ht)) hS) λH e s'=>V1 w H vy e s'
 ·obtain⟨t,h1,rfl⟩:=mem p hp;exact⟨t.1,(On KX (hC w t h1).1).tab (hTb t h1)⟩
 ·obtain⟨t,h1,rfl⟩:=mem p hp;exact(hC w t h1).2
end L2
namespace L2
open PySem
def RA:Z8 (W2 P w) X E0:=λ_ _ _ _ _ _ _ ⟨_,_,_,_,_,_,_,h⟩=>h.elim
def af.ka(e:af H H'):bj P H H':=λb o _ h=>e b o h
def bj.trans(a:bj P H H1)(b:bj P H1 H2):bj P H H2:=λc o n h=>b c o n (a c o n h)
theorem bj.write(e:bj P H H')(h:H a=bh):bj P H (upd H' a o):=λb u n q=>by
 rw[j3 (i7 q h)];exact e b u n q
theorem bj.get(T:cu P pos qual H)(e:bj P H H')(h:H b=av o)(n:∀ps,o≠.my ps):H' b=av o:=e b o (λz=>by
 subst z;rcases T with t|⟨c,t,_⟩
 ·rw[h] at t;exact n _ (bD t)
 ·rw[h] at t;exact n _ (bD t)) h
theorem cu.write(T:cu P pos qual H)(h:H a=av (.lst xs)):cu P pos qual (upd H a o):=by
 rcases T with e|⟨c,e1,e2⟩
 ·exact .inl (by rw[j3 λz=>by rw[z,h] at e;cases e];exact e)
 ·exact .inr ⟨c,by rw[j3 λz=>by rw[z,h] at e1;cases e1];exact e1,by rw[j3 λz=>by rw[z,h] at e2;cases e2];exact e2⟩
end L2
namespace de
open PySem L2 Fr
theorem V8:∀ns:List Int,iC (ns.map gM)<=3
 |[]=>by simp[iC]
 |n::r=>by
  rw[cS,iC];exact kA.mpr ⟨by simp[iY],V8 r⟩
theorem e7c(h:i8):(Y5 h).depth<=8:=by
 unfold Y5 WO;have h1:=V8 h.1;have h2:=V8 h.2;rw[iY,iC,iY,iC,iY,iC];lia
theorem e0U:∀hs:List i8,iC (hs.map Y5)<=8
 |[]=>by simp[iC]
 |h::r=>by
  rw[cS,iC];exact kA.mpr ⟨e7c h,e0U r⟩
theorem vg{j:Nat}(h:j<=1000):((j:Int)).natAbs.log2<1920:=by
 rw[Int.natAbs_natCast];by_cases h0:j=0
 ·subst h0;decide
 ·exact Nat.lt_trans ((mO h0).mpr (gU h (show 1000<2^10 by decide))) (by decide)
def R5(z:aC)(h:i8):List Int:=aQ (bx h.1) 0++h.2++aQ (bx (K5 z)) 0
def V7(z:aC)(h:i8):List Int:=h.1++aQ (bx h.2) 0++(K5 z).map λx=>-x
def L9(z:aC)(hs:List i8)(h:i8):List (List Int):=hs.map (A7 z)++[V7 z h]
theorem c0D:(["sign"]:List aC).Nodup:=by simp
section
variable{P:aM}{w:aL}{K:aF}{mg:aC->Option aE}{base:aJ}{f Pt d:aA}{fd:aK}{n:Nat}{C:aA}
abbrev Xs(z:aC)(hs:List i8)(h:i8)(S:Lp.Bo):Prop:=Lp.Of (bx hs+1) (bx h.1+bx h.2+bx (K5 z)) (Y8 (L9 z hs h)) (M2 (P6 hs)) (M2 (R5 z h)) S
inductive V_(K:aF)(Pt:aA)(vs:List V)(H:Hp)(Q:VK)(dj:XK):Prop|mk:∀ba hv xs hs h z br kt kg m q,vs=[.ref ba,hv,.str z]->O4 z->ah K H ba xs->Bk K H xs hs->HS K H hv h->HG br kt kg h->(∀h∈hs,HG br kt kg h)->br<=2^60->bx hs<=16->kt<=20->kg<=20->m=bx hs+1->q=bx h.1+bx h.2+bx (K5 z)->LT Pt H->(∀S H' t aa wa,Xs z hs h S->(∀j,j<q->¬S.T m j<0)->Sz 4000 m q S->bj Pt H H'->LT Pt H'->H' t=av (.tup [.int (S.T m q),.ref aa,.ref wa,.int S.d]) → H' aa=av (.lst ((v7 m q S).map V.int))->H' wa=av (.lst ((K1 m q S).map V.int))->Q (.ref t) H')->(∀S H',Xs z hs h S->Lp.cM m q S->bj Pt H H'->LT Pt H'->Q .non H')->V_ K Pt vs H Q dj
def Df:p7 ["houses","house","sizes","takes","gives","signs","given","paid"] ["houses","house","sizes"] (i9 LP):={}
def giT{f1 f2:aA}{d1 d2:aK}(N:v8 mg)(G:Sg K w.params mg d)(Cg:C9 P w K mg base n "greatest" ["goal","rows","bounds"] (O5 K C Pt) f1 d1)(Ch:C9 P w K mg base n "house_rows" ["houses","sizes"] (M4 K) f2 d2)
  (hr:b_ n (A.deeper (cD "greatest_given" (i9 LP) s.heap.objs.size f ay))) :
  {t:TS//fu (N8 J8 P w K mg base ["houses","house","sizes","takes","gives","signs","given","paid"] "greatest_given" (i9 LP) f ay A outer s H E).oi (x9 LP) t} :=
 ⟨_,j0 (D3 (pv 1) (K4 rfl (p6 (j9 (i:=3) Df.nd rfl (aI rfl)) (p6 (j9 (i:=4) Df.nd rfl (aI rfl)) A4))))
  (j0 (r6 (i:=5) Df.nd rfl (aI rfl) (v5 C5 rfl N.list fJ (c6 (l8 (Kq K w.params rfl rfl) (C4 (v:=.ref d) rfl G.m rfl) (pv 2) (λ_ _=>rfl)) c7)))
  (t8 (r6 (i:=6) Df.nd rfl (aI rfl) (j8 B9 (j8 B9 (j8 Q6 (v9 (c6 d0 c7)) (j7 j6 rfl N.len bB (c6 (pv 3) c7))) (v5 C5 rfl N.list fJ (c6 (pv 4) c7))) (j8 Q6 (v9 (c6 d0 c7)) (j7 j6 rfl N.len bB (c6 (pv 5) c7)))))
  (t8 (r6 (i:=7) Df.nd rfl (aI rfl) (j8 B9 (j8 B9 (v5 C5 rfl N.list fJ (c6 (pv 3) c7)) (j8 Q6 (v9 (c6 d0 c7)) (j7 j6 rfl N.len bB (c6 (pv 4) c7)))) (N6 ["sign"] [] rfl (C6 (pv 5)) (λ_ _ _ _=>j9 (i:=0) c0D rfl (aI rfl)) (λ_ _ _ _=>Eh V2 (pv 0)))))
  (j4 (o4 (Cg.c hr (c6 (pv 6) (c6 (j8 B9 (Ch.c hr (c6 (pv 0) (c6 (pv 2) c7))) (v9 (c6 (pv 7) c7)))
   (c6 (j8 B9 (j8 Q6 (v9 (c6 d0 c7)) (j7 j6 rfl N.len bB (c6 (pv 0) c7))) (v9 (c6 d0 c7))) c7)))))))))⟩
theorem b6s(hh:HG br kt kg h)(wz:∀h∈hs,HG br kt kg h)(hf:br<=2^60)q :
  ∀v,Lp.Fits (2^60) (bx hs+1+1) (Lp.Vv (bx hs+1) q (Y8 (L9 z hs h)) (M2 (P6 hs)) (M2 (R5 z h)) v):=by
 have ht:∀g:i8,HG br kt kg g->∀x∈g.1,x.natAbs<=2^60:=λg hg x hx=>by have:=hg.t x hx;lia
 have qo:∀g:i8,HG br kt kg g->∀x∈g.2,x.natAbs<=2^60:=λg hg x hx=>by have:=hg.g x hx;lia
 have z0:∀k:Nat,∀x∈List.replicate k (0:Int),x.natAbs<=2^60:=λk x hx=>by rw[(lL.mp hx).2];decide
 have rows:∀r∈L9 z hs h,∀x∈r,x.natAbs<=2^60:=λr hr x hx=>by
  unfold L9 at hr;rcases bJ.mp hr with hr|hr
  ·obtain⟨g,hg,rfl⟩:=aY.mp hr;unfold A7 at hx;rcases bJ.mp hx with hx|hx
   ·rcases bJ.mp hx with hx|hx
    ·obtain⟨y,hy,rfl⟩:=aY.mp hx;have:=ht g (wz g hg) y hy;rw[iV];exact this
    ·exact qo g (wz g hg) x hx
   ·exact Mm z x hx
  ·rw[cJ.mp hr] at hx;unfold V7 at hx;rcases bJ.mp hx with hx|hx
   ·rcases bJ.mp hx with hx|hx
    ·exact ht h hh x hx
    ·exact z0 _ x hx
   ·obtain⟨y,hy,rfl⟩:=aY.mp hx;have:=Mm z y hy;rw[iV];exact this
 have goal:∀x∈R5 z h,x.natAbs<=2^60:=λx hx=>by
  unfold R5 at hx;rcases bJ.mp hx with hx|hx
  ·rcases bJ.mp hx with hx|hx
   ·exact z0 _ x hx
   ·exact qo h hh x hx
  ·exact z0 _ x hx
 have E_:∀x∈P6 hs,x.natAbs<=2^60:=λx hx=>by
  unfold P6 at hx;rcases bJ.mp hx with hx|hx
  ·exact z0 _ x hx
  ·rw[cJ.mp hx];decide
 intro v i _;unfold Lp.Vv;split
 ·split
  ·unfold Y8;refine Q7 (λx hx=>?_) v;rw[bA] at hx;cases e:(L9 z hs h)[i]? with
   |none=>rw[e] at hx;cases hx
   |some r=>rw[e] at hx;exact rows r (bK e) x hx
  ·split
   ·rw[iV];exact Q7 goal v
   ·exact dM _
 ·split
  ·split<;>decide
  ·split
   ·exact Q7 E_ i
   ·exact dM _
end
theorem b3T(F:Aj K "greatest_given" LP f fd)(N:v8 mg)(G:Sg K w.params mg d)(Cg:C9 P w K mg base n "greatest" ["goal","rows","bounds"] (O5 K C Pt) f1 d1)(Ch:C9 P w K mg base n "house_rows" ["houses","sizes"] (M4 K) f2 d2) :
  bf P w K mg base J8 (n+1) f fd ["houses","house","sizes"] (V_ K Pt):=by
 refine F.oa Df λay A outer s H vs Q E hr h=>?_;obtain⟨ba,hv,xs,hs,h,z,br,kt,kg,m,q,rfl,hz,hB,Je,OC,hh,wz,CV,u_,Kr,Ks,rfl,rfl,L,kT,kN⟩:=h;refine⟨_,(giT N G Cg Ch hr).2,?_⟩;obtain⟨ha,ta,ga,rfl,p1,p2,p3⟩:=id OC;obtain⟨t,ht,hT⟩:=G.tt z hz;have xl:bx xs=bx hs:=dE Je;have sg:=Ml z;have Xf:=t9 (show(1000:Nat)<=1000 from aT _);have l1:=hh.lt;have l2:=hh.lg;refine⟨_,rfl,ha,_,rfl,p1,rfl,_,_,rfl,_,_,rfl,rfl,_,rfl,d,z,t,rfl,rfl,G.k,ht,t,_,rfl,.inr (hT _),λsl je=>?_⟩;have e0:=af.new je (.lst ((K5 z).map V.int));have Jf:upd H sl (.lst ((K5 z).map V.int)) sl=av (.lst ((K5 z).map V.int)):=ae;refine⟨λau H1=>∃ea:aA,au=[av (.ref ba),av (.ref ha),av (.str z),av (.ref ta),av (.ref ga),av (.ref sl),av (.ref ea),bh]/\af (upd H sl (.lst ((K5 z).map V.int))) H1/\H1 ea=av (.lst ((R5 z h).map V.int)),?_,?_⟩
 ·refine⟨(by show 1<=sizeLine;decide),λa1 h1=>?_⟩;have s1:=af.new h1 (.lst [.int 0]);refine⟨_,rfl,ta,_,rfl,.inr (s1.cm (e0.cm p2)),a1,_,_,rfl,rfl,ae,by lia,by rw[aH,l1];lia,by rw[aH,l1,cF];simp;lia,λa2 h2=>?_⟩;rw[aH,cF,N9];have s2:=s1.trans (af.new h2 (.lst ((aQ (bx h.1) (0:Int)).map V.int)));refine⟨_,rfl,ga,_,rfl,.inr (s2.cm (e0.cm p3)),λa3 h3=>?_⟩;have s3:=s2.trans (af.new h3 (.lst (h.2.map V.int)));refine⟨a2,a3,_,_,rfl,rfl,(by rw[j3 (i7 ae h3)];exact ae),ae,?_,λa4 h4=>?_⟩
  ·rw[aH,aH,bP,l1,l2];lia
  have s4:=s3.trans (af.new h4 (.lst ((aQ (bx h.1) (0:Int)).map V.int++h.2.map V.int)));refine⟨(by show 1<=sizeLine;decide),λa5 h5=>?_⟩;have s5:=s4.trans (af.new h5 (.lst [.int 0]));have lz:bx ((K5 z).map V.int)=bx (K5 z):=aH _;refine⟨_,rfl,sl,_,rfl,.inl (ah.of (s5 _ _ Jf)),a5,_,_,rfl,rfl,ae,by lia,by rw[lz];lia,by rw[lz,cF];simp;lia,λa6 h6=>?_⟩;rw[lz,cF,N9];refine⟨a4,a6,_,_,rfl,rfl,(af.new h6 (.lst ((aQ (bx (K5 z)) (0:Int)).map V.int))) a4 _ ((af.new h5 (.lst [.int 0])) a4 _ ae),ae,?_,λa7 h7=>?_⟩
  ·rw[aX,aH,aH,aH,bP,bP,l1,l2];lia
  refine⟨a7,rfl,(s5.trans (af.new h6 _)).trans (af.new h7 _),?_⟩;rw[ae];unfold R5;rw[bQ,bQ]
 rintro Eg H1 ⟨ea,rfl,e1,he⟩;have Hr:=e0.trans e1;refine⟨λau H2=>∃pa:aA,au=[av (.ref ba),av (.ref ha),av (.str z),av (.ref ta),av (.ref ga),av (.ref sl),av (.ref ea),av (.ref pa)]/\af H1 H2/\H2 pa=av (.lst ((V7 z h).map V.int)),?_,?_⟩
 ·refine⟨_,rfl,ta,_,rfl,.inr (Hr.cm p2),λa1 h1=>⟨(by show 1<=sizeLine;decide),λa2 h2=>?_⟩⟩;have s2:=(af.new h1 (.lst (h.1.map V.int))).trans (af.new h2 (.lst [.int 0]));have Hy:a1≠a2:=i7 ae h2;refine⟨_,rfl,ga,_,rfl,.inr (s2.cm (Hr.cm p3)),a2,_,_,rfl,rfl,ae,by lia,by rw[aH,l2];lia,by rw[aH,l2,cF];simp;lia,λa3 h3=>?_⟩;rw[aH,cF,N9];have s3:=s2.trans (af.new h3 (.lst ((aQ (bx h.2) (0:Int)).map V.int)));refine⟨a1,a3,_,_,rfl,rfl,(af.new h3 (.lst ((aQ (bx h.2) (0:Int)).map V.int))) a1 _ ((af.new h2 (.lst [.int 0])) a1 _ ae),ae,?_,λa4 h4=>?_⟩
  ·rw[aH,aH,bP,l1,l2];lia
  have s4:=s3.trans (af.new h4 (.lst (h.1.map V.int++(aQ (bx h.2) (0:Int)).map V.int)));refine⟨_,rfl,sl,rfl,⟨_,ah.of (s4 _ _ (e1 _ _ Jf))⟩,λa5 h5=>(O9 (A3 (ah.of (s4 _ _ (e1 _ _ Jf)))) h5 (by rw[aH _];lia) (λx=>.int (-(vI x))) (λj x H' N2 El e2 OD=>?_) ?_)⟩
  ·obtain⟨x',rfl,_⟩:=LY El;exact⟨Wk.set (by decide),_,rfl,_,rfl,OD⟩
  have eg:((K5 z).map V.int).map (λx=>V.int (-(vI x)))=((K5 z).map λx=>-x).map V.int:=by rw[bC,bC];rfl
  rw[eg];refine⟨a4,a5,_,_,rfl,rfl,(by rw[j3 (i7 ae h5)];exact ae),ae,?_,λa6 h6=>?_⟩
  ·rw[aX,aH,aH,aH,aH,bP,l1,l2];lia
  refine⟨a6,rfl,(s4.trans (af.new h5 _)).trans (af.new h6 _),?_⟩;rw[ae];unfold V7;rw[bQ,bQ]
 rintro ir H2 ⟨pa,rfl,e2,hp⟩;have HD:=Hr.trans e2;refine⟨_,rfl,_,rfl,_,rfl,ba,xs,hs,z,kt,kg,rfl,hz,HD.seq hB,Je.same HD,by lia,by lia,by lia,λg hg=>⟨(wz g hg).lt,(wz g hg).lg⟩,λr H3 rs e3 zh lr Hx=>⟨_,rfl,(by show 1<=sizeLine;decide),λa1 h1=>⟨r,a1,_,_,rfl,rfl,(by rw[j3 (i7 zh h1)];exact zh),ae,?_,λa2 h2=>?_⟩⟩⟩
 ·rw[aH,lr];simp;lia
 refine⟨(by show 1<=sizeLine;decide),λa3 h3=>?_⟩;have s3:=((e3.trans (af.new h1 (.lst [.ref pa]))).trans (af.new h2 (.lst (rs.map V.ref++[.ref pa])))).trans (af.new h3 (.lst [.int 0]));refine⟨_,rfl,ba,_,rfl,.inl ((HD.trans s3).seq hB),a3,_,_,rfl,rfl,ae,by lia,by rw[xl];lia,by rw[xl,cF];simp;lia,λa4 h4=>?_⟩;rw[xl,cF,N9];refine⟨(by show 1<=sizeLine;decide),λa5 h5=>?_⟩;refine⟨a4,a5,_,_,rfl,rfl,(by rw[j3 (i7 ae h5)];exact ae),ae,?_,λa6 h6=>?_⟩
 ·rw[aH,bP];simp;lia
 have s6:=((s3.trans (af.new h4 (.lst ((aQ (bx hs) (0:Int)).map V.int)))).trans (af.new h5 (.lst [.int 1]))).trans (af.new h6 (.lst ((aQ (bx hs) (0:Int)).map V.int++[.int 1])));have g3:∀b o,upd (upd H3 a1 (.lst [.ref pa])) a2 (.lst (rs.map V.ref++[.ref pa])) b=av o->upd (upd (upd (upd (upd (upd H3 a1 (.lst [.ref pa])) a2 (.lst (rs.map V.ref++[.ref pa]))) a3 (.lst [.int 0])) a4 (.lst ((aQ (bx hs) (0:Int)).map V.int))) a5 (.lst [.int 1])) a6 (.lst ((aQ (bx hs) (0:Int)).map V.int++[.int 1])) b=av o :=
  (((af.new h3 (.lst [.int 0])).trans (af.new h4 (.lst ((aQ (bx hs) (0:Int)).map V.int)))).trans (af.new h5 (.lst [.int 1]))).trans (af.new h6 (.lst ((aQ (bx hs) (0:Int)).map V.int++[.int 1])))
 have eb:(aQ (bx hs) (0:Int)).map V.int++[.int 1]=(P6 hs).map V.int:=by unfold P6;rw[bQ];rfl
 have hA:af H (upd (upd (upd (upd (upd (upd H3 a1 (.lst [.ref pa])) a2 (.lst (rs.map V.ref++[.ref pa]))) a3 (.lst [.int 0])) a4 (.lst ((aQ (bx hs) (0:Int)).map V.int))) a5 (.lst [.int 1])) a6 (.lst ((aQ (bx hs) (0:Int)).map V.int++[.int 1]))):=HD.trans s6;refine⟨ea,a2,a6,R5 z h,rs.map V.ref++[.ref pa],L9 z hs h,P6 hs,bx hs+1,bx h.1+bx h.2+bx (K5 z),2^60,rfl,ah.of (s6 _ _ (e2 _ _ he)),ah.of (g3 _ _ ae),?_,?_,?_,?_,?_,?_,by lia,by lia,?_,b6s hh wz CV _,Xe _ (by lia),L.same hA,λS H' t' aa wa O hn sz e' L' g1 g2 g4=>kT S H' t' aa wa O hn sz (λb o hb q'=>e' b o hb (hA b o q')) L' g1 g2 g4,λS H' O st e' L'=>kN S H' O st (λb o hb q'=>e' b o hb (hA b o q')) L'⟩
 ·unfold L9;refine aZ.app ((a8R (K:=K) lr Hx).same ((((((af.new h1 (.lst [.ref pa])).trans (af.new h2 (.lst (rs.map V.ref++[.ref pa])))).trans (af.new h3 (.lst [.int 0]))).trans (af.new h4 (.lst ((aQ (bx hs) (0:Int)).map V.int)))).trans (af.new h5 (.lst [.int 1]))).trans (af.new h6 (.lst ((aQ (bx hs) (0:Int)).map V.int++[.int 1]))))) (.cons ⟨pa,rfl,ah.of (s6 _ _ hp)⟩ .nil)
 ·rw[<-eb];exact ah.of ae
 ·unfold L9;simp
 ·unfold P6;simp
 ·unfold R5;simp[sB]
 ·intro r hr;unfold L9 at hr;rcases bJ.mp hr with hr|hr
  ·obtain⟨g,hg,rfl⟩:=aY.mp hr;unfold A7;rw[aX,aX,aH,(wz g hg).lt,(wz g hg).lg,l1,l2]
  ·rw[cJ.mp hr];unfold V7;simp;lia
 ·intro i hi;unfold M2 P6;rw[bA];by_cases h':i<bx hs
  ·rw[dH (by simpa using h'),gD,if_pos h'];exact dL _
  ·rw[dU (by simp;lia)];have:i-(aQ (bx hs) (0:Int)).length=0:=by simp;lia
   rw[this];decide
def J1 a b l x:x8 (a::l) (b::x)=a*b+x8 l x:=rfl
theorem a3m:∀{l p}m,bx l=bx p->(∀x∈l,1<=x)->(∀x∈p,0<=x)->x8 l p<=0->x8 m p=0
 |[],[],m,_,_,_,_=>by rw[T8];simp[x8]
 |a::l,b::p,m,hl,h1,h2,h=>by
  rw[J1] at h;have nn:0<=x8 l p:=by
   have:∀l p,(∀x∈l,1<=x)->(∀x∈p,0<=x)->0<=x8 l p:=λl=>by
    induction l with
    |nil=>intro p _ _;simp[x8]
    |cons a r ih =>
     intro p h1 h2;cases p with
     |nil=>simp[x8]
     |cons b p =>
      rw[J1];have:=ih p (λx hx=>h1 x (.tail _ hx)) λx hx=>h2 x (.tail _ hx);have:=eO (show 0<=a by have:=h1 a (.head _);lia) (h2 b (.head _));lia
   exact this _ _ (λx hx=>h1 x (.tail _ hx)) λx hx=>h2 x (.tail _ hx)
  have hb:=h2 b (.head _);have yh:=fH (h1 a (.head _)) hb;have b0:b=0:=by lia
  subst b0;cases m with
  |nil=>simp[x8]
  |cons c m =>
   rw[J1,a3m m (by simp_all) (λx hx=>h1 x (.tail _ hx)) (λx hx=>h2 x (.tail _ hx)) (by lia)];lia
 |[],_::_,_,h,_,_,_=>by simp at h
 |_::_,[],_,h,_,_,_=>by simp at h
theorem a8S j i:L8 hs ws j i=x8 (hs.map λg=>(V4 j g).getD i 0) ws:=by
 unfold L8 col;rw[bC];rfl
theorem ya(hG:∀g∈hs,HG br kt kg g)(ij:1<=kt)(l:bx ws=bx hs)(n:∀x∈ws,0<=x)(t:L8 hs ws 0 0<=0)f:x8 f ws=0:=by
 rw[a8S] at t;refine a3m f (by grind) (λx hx=>?_) n t;obtain⟨g,hg,rfl⟩:=aY.mp hx;have hl:0<bx g.1:=by rw[(hG g hg).lt];lia
 show 1<=g.1.getD 0 0;rw[bA,aS hl];exact((hG g hg).t _ (eF hl)).1
def km(z:aC)(hs:List i8)(h:i8)(S:Lp.Bo):Prop:=Xs z hs h S/\(∀j,j<qE z h->¬S.T (mE hs) j<0)/\Sz 4000 (mE hs) (qE z h) S
theorem s0{i:Nat}(B:km z hs h S)(hG:∀g∈hs,HG br kt kg g)(hh:hs[i]?=av h)(ij:1<=kt):0<S.T (mE hs) (qE z h):=by
 obtain⟨O,hn,sz⟩:=B;have gh:=hG h (bK hh);have hk:∀g∈hs,bx g.1=kt/\bx g.2=kg:=λg hg=>⟨(hG g hg).lt,(hG g hg).lg⟩;generalize hm:mE hs=m at *;generalize hq:qE z h=q at *;have Au:m=bx hs+1:=hm.symm;have Cu:q=kt+kg+bx (K5 z):=by rw[<-hq];show bx h.1+bx h.2+_=_;rw[gh.lt,gh.lg]
 replace O:Lp.Of m q (Y8 (L9 z hs h)) (M2 (P6 hs)) (M2 (R5 z h)) S:=by rw[Au,<-hq];exact O
 have lr:bx (L9 z hs h)=m:=by unfold L9;simp[Au]
 have AD:∀g∈hs,bx (A7 z g)=q:=λg hg=>by unfold A7;simp[(hk g hg).1,(hk g hg).2,Cu];lia
 have Fb:bx (V7 z h)=q:=by unfold V7;simp[gh.lt,gh.lg];lia
 have Fc:bx (R5 z h)=q:=by unfold R5;simp[gh.lt,gh.lg];lia
 have lb:bx (P6 hs)=m:=by unfold P6;simp[Au]
 have la:bx (v7 m q S)=q:=by unfold v7;simp
 have lw:bx (K1 m q S)=m:=by unfold K1;simp
 have iu:K1 m q S=(K1 m q S).take (bx hs)++[Lp.aq m q S (q+bx hs)]:=by rw[Au];exact a4J
 generalize Xo:(K1 m q S).take (bx hs)=ws at *;generalize Xp:Lp.aq m q S (q+bx hs)=wn at *;have Fd:bx ws=bx hs:=by rw[<-Xo,cI,lw];lia
 have Mx:0<=wn:=U' hn wn (by simp_all);have eT:wn=S.T m q:=by
  have:=a9o O lb;rw[iu] at this;unfold P6 at this;rw[Mp (by simp_all),T6] at this;lia
 have AE:∀j,x8 (col (L9 z hs h) j) (K1 m q S)=x8 (col (hs.map (A7 z)) j) ws+(V7 z h).getD j 0*wn:=λj=>by
  rw[iu];unfold L9;rw[a6H,Mp (by unfold col;rw[aH,aH,Fd])]
 have tk:∀j,j<kt->L8 hs ws 0 j<=h.1.getD j 0*wn:=λj hj=>by
  have:=Mo O hn lr (j:=j) (by lia);rw[AE,a5i hk ws hj] at this;unfold R5 V7 at this;rw[Y6,Y6,bP,if_pos (by rw[gh.lt];lia),if_pos (by rw[gh.lt];lia),M3] at this;lia
 have gv:∀j,j<kg->h.2.getD j 0*S.d<=L8 hs ws 1 j:=λj hj=>by
  have:=Mo O hn lr (j:=kt+j) (by lia);rw[AE,a5j hk ws hj] at this;unfold R5 V7 at this;rw[Y6,Y6,bP,bP,gh.lt,gh.lg,if_neg (by lia),if_pos (by lia),if_neg (by lia),if_pos (by lia),gO,M3] at this;lia
 rw[<-eT];rcases Int.lt_or_le 0 wn with c|c
 ·exact c
 ·have v0:wn=0:=by lia
  have t0:=tk 0 (by lia);rw[v0,cW] at t0;obtain⟨y,hy,y0⟩:=gh.p;obtain⟨j,hj⟩:=iL hy;have g1:=gv j (by have:=(cA.mp hj).1;rw[gh.lg] at this;exact this);rw[bA,hj,a8S,ya hG ij Fd (λx hx=>U' hn x (iu▸fW _ hx)) t0] at g1;have:0<y*S.d:=gJ y0 O.w.pos;change y*S.d<=0 at g1;lia
theorem b0t(hi:hs[i]?=av h)j:Y8 (L9 z hs h) i j+Y8 (L9 z hs h) (bx hs) j=M2 (R5 z h) j:=by
 have e1:(L9 z hs h)[i]?=av (A7 z h):=by
  unfold L9;rw[dH (by rw[aH];exact((cA.mp hi).1)),aP,hi];rfl
 have e2:(L9 z hs h)[bx hs]?=av (V7 z h):=by
  unfold L9;rw[dU (by simp),aH,gL];rfl
 rw[T3 e1,T3 e2];unfold M2 A7 V7 R5;simp only[F0,M3,Rt,aX,aH,bP];by_cases h1:j<bx h.1
 ·rw[if_pos (by lia),if_pos h1,if_pos (by lia),if_pos h1,if_pos (by lia),if_pos h1];lia
 ·by_cases h2:j<bx h.1+bx h.2
  ·rw[if_pos h2,if_neg h1,if_pos h2,if_neg h1,if_pos h2,if_neg h1,gK]
  ·rw[if_neg h2,if_neg h2,if_neg h2];lia
def T':p7 ["book","number","sizes","house","top","amounts","weights","bottom","mix"] ["book","number","sizes"] (i9 RW):={}
theorem f0K:(["weight","top"]:List aC).Nodup:=by decide
inductive V'(K:aF)(CN Pt:aA)(vs:List V)(H:Hp)(Q:VK)(E:XK):Prop|mk:∀ba xs hs number z br kt kg,vs=[.ref ba,.int number,.str z]->O4 z->O6 K H ba xs hs br kt kg->1<=kt->number.natAbs.log2<1920->LT Pt H->(∀(i:Nat)h S H' t ml u v sh,number=(i:Int)->hs[i]?=av h->km z hs h S->bj Pt H H'->LT Pt H'->H' t=av (.tup [u,.ref ml,v])->Ex H' u (low S.d (S.T (mE hs) (qE z h)))->H' ml=av (.lst sh)->H ml=bh → dk H' sh ((K1 (mE hs) (qE z h) S).take (bx hs)) (S.T (mE hs) (qE z h))->S_ H H' v z h (v7 (mE hs) (qE z h) S) (S.T (mE hs) (qE z h))->Q (.ref t) H')->(¬AA (bx xs) number->E (.ref CN) bh H)->V' K CN Pt vs H Q E
theorem e8x(F:Aj K "growth_shown" RW f fd)(Ch:vn P w K mg base n "house_of" ["book","number"] (OA K CN) f1 d1)(Ce:C9 P w K mg base n "greatest_given" ["houses","house","sizes"] (V_ K Pt) f2 d2)
  (Cl:CZ P w K mg base n "lowest" ["top","bottom"] Xd f3 d3) (OR:C9 P w K mg base n "told_prices" ["house","sizes","amounts","bottom"] (va K) f4 d4):bf P w K mg base (W2 P w) (n+1) f fd ["book","number","sizes"] (V' K CN Pt):=by
 refine F.vj T' (λvs H Q E h=>?_) λay A outer s H vs Q E hr h=>?_
 ·obtain⟨ba,xs,hs,number,z,br,kt,kg,rfl,_⟩:=h;rfl
 obtain⟨ba,xs,hs,number,z,br,kt,kg,rfl,hz,B,ij,lm,L,kG,kE⟩:=h;refine⟨_,j0 (r6 (i:=3) T'.nd rfl (aI rfl) (l7 Ch.ok hr rfl Ch.m Ch.k Ch.b .nil V5 (c6 (pv 0) (c6 (pv 1) c7))))
  (fu.oi (j0 (D3 (Ce.c hr (c6 (pv 0) (c6 (pv 3) (c6 (pv 2) c7))))
   (K4 rfl (p6 (j9 (i:=4) T'.nd rfl (fY rfl)) (p6 (j9 (i:=5) T'.nd rfl (aI rfl)) (p6 (j9 (i:=6) T'.nd rfl (aI rfl)) (p6 (j9 (i:=7) T'.nd rfl (aI rfl)) A4))))))
  (j0 (CA (i:=8) ["weight"] [4] T'.nd rfl rfl rfl (C6 (B7 M0 (pv 6) G1 (B8 (Eh V2 d0)))) (λ_ _ _ _=>j9 (i:=0) f0K rfl (aI rfl))
   (λ_ _ _ _=>Cl.c hr (c6 (pv 0) (c6 (pv 1) c7))))
  (j4 (o4 (A9 (c6 (Cl.c hr (c6 (pv 7) (c6 (pv 4) c7))) (c6 (pv 8)
   (c6 (OR.c hr (c6 (pv 3) (c6 (pv 2) (c6 (pv 5) (c6 (pv 4) c7))))) c7))))))))),?_⟩
 refine⟨_,rfl,_,rfl,ba,xs,number,rfl,B.l,lm,λi hv hi hx=>?_,kE⟩;obtain⟨h,hh,hH⟩:=aZ.at B.b hx;have gh:=B.g h (bK hh);refine⟨_,rfl,_,rfl,_,rfl,ba,hv,xs,hs,h,z,br,kt,kg,mE hs,qE z h,rfl,hz,B.l,B.b,hH,gh,B.g,B.br,B.eQ,B.t,B.k,rfl,rfl,L,λS H' t aa wa O hn sz e' L' g1 g2 g3=>?_,λS H' O st e' L'=>(O.bounded (i0:=i) (l:=bx hs) (by have:=(cA.mp hh).1;lia) (by lia) (λj _=>b0t hh j) st).elim⟩;have Bs:km z hs h S:=⟨O,hn,sz⟩;have b1:=s0 Bs B.g hh ij;have b2:S.T (mE hs) (qE z h)<2^8000:=by
  have a1:(S.T (mE hs) (qE z h)).natAbs<2^4000:=sz.1 _ _ (jJ _) (jJ _);rw[show S.T (mE hs) (qE z h)=((S.T (mE hs) (qE z h)).natAbs:Int) by lia]
  exact_mod_cast Nat.lt_trans a1 (xM (by decide) (by decide))
 have sg:=Ml z;have eQ:=B.eQ;have Xv:=B.t;have Xw:=B.k;have lt:=gh.lt;have lg:=gh.lg;have Xf:=t9 (show(1000:Nat)<=1000 from aT _);refine⟨t,_,rfl,cq.of g1,rfl,_,_,rfl,_,_,rfl,_,_,rfl,_,_,rfl,rfl,_,rfl,_,rfl,_,rfl,wa,_,rfl,ah.of g3,λa1 h1=>?_⟩;have lw:bx (K1 (mE hs) (qE z h) S)=bx hs+1:=by unfold K1;simp
 have ec:P5 ((K1 (mE hs) (qE z h) S).map V.int) bh (av (-1))=((K1 (mE hs) (qE z h) S).take (bx hs)).map V.int:=by
  unfold P5;rw[HT.rp,oY,<-pG];congr 1;have:HT.wc (bx ((K1 (mE hs) (qE z h) S).map V.int)) (bx ((K1 (mE hs) (qE z h) S).map V.int)) (av (-1))=bx hs:=by
   show(if (-1:Int)<0 then ((-1:Int)+(bx ((K1 (mE hs) (qE z h) S).map V.int):Int)).toNat else min (-1:Int).toNat (bx ((K1 (mE hs) (qE z h) S).map V.int)))=bx hs;rw[if_pos (by decide),aH,lw];lia
  rw[this];rfl
 rw[ec];have s1:=af.new h1 (.lst (((K1 (mE hs) (qE z h) S).take (bx hs)).map V.int));refine⟨a1,rfl,⟨_,ah.of ae⟩,λl hl=>(N5 (A3 (ah.of ae)) hl (by rw[aH,cI];lia) (pU l ((K1 (mE hs) (qE z h) S).take (bx hs)) (S.T (mE hs) (qE z h))) Ay (λi x H2 ys N' hx e j_ hN=>?_) (λys H2 e j_ len pr=>?_))⟩
 ·obtain⟨x',rfl,_⟩:=LY hx;exact⟨Wk.set (by decide),_,rfl,_,rfl,x',S.T (mE hs) (qE z h),rfl,b1,b2,λv H3 e3 hv=>hN _ _ e3 (A_ j_ e3 hx hv)⟩
 refine⟨_,rfl,_,rfl,_,S.T (mE hs) (qE z h),rfl,b1,b2,λu H3 e3 hu=>⟨_,rfl,_,rfl,_,rfl,_,rfl,_,rfl,?_⟩⟩;have i5:=(s1.trans e).trans e3;have la:bx (v7 (mE hs) (qE z h) S)=bx h.1+bx h.2+bx (K5 z):=by unfold v7;simp
 refine⟨hv,h,z,aa,S.T (mE hs) (qE z h),v7 (mE hs) (qE z h) S,rfl,hz,(HS.fg L e' hH).same i5,ah.of (i5 _ _ g2),la,by lia,by lia,λx hx=>?_,b1,b2,λpt fa ga v H4 tx wd e4 q1 q2 q3 q4 q5 q6 q7 q8=>?_⟩
 ·unfold v7 at hx;obtain⟨v,Lx,rfl⟩:=aY.mp hx;exact a8Y O sz (fF.mp Lx)
 refine⟨(by show 3<=sizeLine;decide),λtt Pj=>?_⟩;have e5:=af.new Pj (.tup [u,.ref l,.ref pt]);have kq:=e4.trans e5;have Ba:H l=bh:=by
  cases q:H l with
  |none=>rfl
  |some o =>
   exfalso;by_cases Rk:l=Pt
   ·rw[Rk] at hl;rcases L' with w'|⟨_,w',_⟩
    ·rw[s1 _ _ w'] at hl;cases hl
    ·rw[s1 _ _ w'] at hl;cases hl
   ·rw[s1 _ _ (e' l o Rk q)] at hl;cases hl
 exact kG i h S _ tt l u (.ref pt) ys hi hh Bs (λb o hb q'=>kq _ _ (i5 _ _ (e' b o hb q'))) ((L'.same i5).same kq) ae (hu.same kq) (kq _ _ (e3 _ _ j_)) Ba (((Ap len pr).same e3).same kq)
  ⟨pt,fa,ga,v,tx,wd,rfl,e5 _ _ q1,e5 _ _ q2,q3.same e5,e5 _ _ q4,q5.same e5,q6.same e5,yA e' L' (ko i5 q7),yA e' L' (ko i5 q8)⟩
end de
namespace Lp
theorem Of.Fg(O:Of m q A b c S)(hl:l<m)(hA:∀j,j<q->A l j=c j)(st:cM m q S):False:=by
 obtain⟨cc,hc,neg,-,no⟩:=st;have K0:=(O.k _).mp (O.w.qp (c:=cc) (by lia));obtain⟨rows,goal⟩:=EW.mp K0;have zc:nc m S cc (q+m+1)=0:=by
  rw[<-O.w.oq];exact O.w.h_ (by lia) (by lia) (by lia)
 have zg:nc m S cc (q+m) =-S.T m cc:=by
  rw[<-O.w.im];exact O.w.jd (by lia) (by lia)
 have nl:0<=nc m S cc (q+l):=by
  rcases O.w.all (q+l) (by lia) with⟨i,hi,e⟩|⟨j,hj,e⟩
  ·rw[<-e,O.w.jd (by lia) (by lia)];have:=no i hi;lia
  ·rw[<-e];by_cases wj:j=cc
   ·subst wj;rw[Wf.yi];exact cC O.w.pos
   ·rw[O.w.h_ (by lia) (by lia) wj];exact dL _
 have rl:=rows l hl;rw[zc,cW,gK] at rl;have e:sumTo (λj=>c j*nc m S cc j) q=sumTo (λj=>A l j*nc m S cc j) q:=aj λj hj=>by rw[hA j hj]
 rw[zg,e] at goal;lia
end Lp
namespace de
open PySem L2 Fr
def vo(z:aC)(g:i8):List Int:=A7 z g++[g.2.sum-g.1.sum]
def P1(z:aC)(h:i8):List Int:=aQ (bx h.1+bx h.2+bx (K5 z)) 0++[1]
def P4(z:aC)(hs:List i8)(h:i8):List (List Int):=hs.map (vo z)++[(vo z h).map λx=>-x,P1 z h]
def zo(hs:List i8):List Int:=aQ (bx hs) 0++[0,1]
abbrev mF(hs:List i8):Nat:=bx hs+2
abbrev qF(z:aC)(h:i8):Nat:=bx h.1+bx h.2+bx (K5 z)+1
abbrev OfF(z:aC)(hs:List i8)(h:i8)(S:Lp.Bo):Prop:=Lp.Of (mF hs) (qF z h) (Y8 (P4 z hs h)) (M2 (zo hs)) (M2 (P1 z h)) S
def RF(z:aC)(hs:List i8)(h:i8)(S:Lp.Bo):Prop:=OfF z hs h S/\(∀j,j<qF z h->¬S.T (mF hs) j<0)/\Sz 4000 (mF hs) (qF z h) S
theorem b6p:(["takes","gives"]:List aC).Nodup:=by decide
theorem b6q:(["row","floor"]:List aC).Nodup:=by decide
theorem b8B:(["one"]:List aC).Nodup:=by simp
section
variable{P:aM}{w:aL}{K:aF}{mg:aC->Option aE}{base:aJ}{f Pt d:aA}{fd:aK}{n:Nat}{C:aA}
inductive Bg(K:aF)(Pt:aA)(vs:List V)(H:Hp)(Q:VK)(dj:XK):Prop|mk:∀(ba:aA)(xs:List V)(hs:List i8)(i:Nat)(h:i8)(z:aC)(br:Int)(kt kg:Nat),vs=[.ref ba,.int i,.str z]->O4 z->O6 K H ba xs hs br kt kg->br<=2^50->hs[i]?=av h->LT Pt H->(∀S H' t aa wa,RF z hs h S->bj Pt H H'->LT Pt H'->H' t=av (.tup [.int (S.T (mF hs) (qF z h)),.ref aa,.ref wa,.int S.d]) → H' aa=av (.lst ((v7 (mF hs) (qF z h) S).map V.int))->H' wa=av (.lst ((K1 (mF hs) (qF z h) S).map V.int))->Q (.ref t) H')->Bg K Pt vs H Q dj
def Dh:p7 ["houses","number","sizes","rows","floors","firm","goal"] ["houses","number","sizes"] (i9 LQ):={}
def flT{f1 f2:aA}{d1 d2:aK}(N:v8 mg)(Cg:C9 P w K mg base n "greatest" ["goal","rows","bounds"] (O5 K C Pt) f1 d1)(Ch:C9 P w K mg base n "house_rows" ["houses","sizes"] (M4 K) f2 d2)
  (hr:b_ n (A.deeper (cD "greatest_floor" (i9 LQ) s.heap.objs.size f ay))) :
  {t:TS//fu (N8 J8 P w K mg base ["houses","number","sizes","rows","floors","firm","goal"] "greatest_floor" (i9 LQ) f ay A outer s H E).oi (x9 LQ) t} :=
 ⟨_,j0 (r6 (i:=3) Dh.nd rfl (aI rfl) (Ch.c hr (c6 (pv 0) (c6 (pv 2) c7))))
  (t8 (CA (i:=4) ["takes","gives"] [] Dh.nd rfl rfl rfl (C6 (pv 0)) (λ_ _ _ _=>IX K (n:=2) rfl rfl (p6 (j9 (i:=0) b6p rfl (aI rfl)) (p6 (j9 (i:=1) b6p rfl (aI rfl)) A4)))
   (λ_ _ _ _=>j8 IH (j7 (Gj K rfl rfl) rfl N.sum xR (c6 (pv 1) c7)) (j7 (Gj K rfl rfl) rfl N.sum xR (c6 (pv 0) c7))))
  (t8 (CA (i:=3) ["row","floor"] [] Dh.nd rfl rfl rfl (QI true true K rfl rfl N.zip (c6 (pv 3) (c6 (pv 4) c7))) (λ_ _ _ _=>IX K (n:=2) rfl rfl (p6 (j9 (i:=0) b6q rfl (aI rfl)) (p6 (j9 (i:=1) b6q rfl (aI rfl)) A4)))
   (λ_ _ _ _=>j8 B9 (pv 0) (v9 (c6 (pv 1) c7))))
  (t8 (CA (i:=5) ["one"] [] Dh.nd rfl rfl rfl (C6 (l8 j5 (pv 3) (pv 1) (λ_ _=>rfl))) (λ_ _ _ _=>j9 (i:=0) b8B rfl (aI rfl)) (λ_ _ _ _=>Eh V2 (pv 0)))
  (t8 (r6 (i:=6) Dh.nd rfl (aI rfl) (j8 B9 (j8 Q6 (v9 (c6 d0 c7)) (j8 IH (j7 j6 rfl N.len bB (c6 (pv 5) c7)) d0)) (v9 (c6 d0 c7))))
  (j4 (o4 (Cg.c hr (c6 (pv 6) (c6 (j8 B9 (pv 3) (v9 (c6 (pv 5) (c6 (pv 6) c7))))
   (c6 (j8 B9 (j8 Q6 (v9 (c6 d0 c7)) (j7 j6 rfl N.len bB (c6 (pv 0) c7))) (v9 (c6 d0 (c6 d0 c7)))) c7))))))))))⟩
end
theorem Xu:∀{l:List Int}{M},(∀x∈l,x.natAbs<=M)->l.sum.natAbs<=bx l*M
 |[],_,_=>by simp
 |a::r,M,h=>by
  have h1:=h a (.head _);have h2:=Xu (l:=r) (M:=M) λx hx=>h x (.tail _ hx);rw[dW,eM,mI];lia
theorem a6Z(hg:HG br kt kg g)(hf:br<=2^50)(Kr:kt<=20)(Ks:kg<=20):∀x∈vo z g,x.natAbs<=2^60:=λx hx=>by
 have ht:∀x∈g.1,x.natAbs<=2^50:=λx hx=>by have:=hg.t x hx;lia
 have qo:∀x∈g.2,x.natAbs<=2^50:=λx hx=>by have:=hg.g x hx;lia
 unfold vo A7 at hx;rcases bJ.mp hx with hx|hx
 ·rcases bJ.mp hx with hx|hx
  ·rcases bJ.mp hx with hx|hx
   ·obtain⟨y,hy,rfl⟩:=aY.mp hx;have:=ht y hy;rw[iV];lia
   ·have:=qo x hx;lia
  ·exact Mm z x hx
 ·rw[cJ.mp hx];have h1:=Xu ht;have h2:=Xu qo;rw[hg.lt] at h1;rw[hg.lg] at h2;have h5:20*2^50+20*2^50<=(2:Nat)^60:=by decide
  lia
theorem Mu:bx (vo z g)=bx g.1+bx g.2+bx (K5 z)+1:=by unfold vo A7;simp[sB]
theorem Wa(hh:HG br kt kg h)(wz:∀h∈hs,HG br kt kg h)(hf:br<=2^50)(Kr:kt<=20)(Ks:kg<=20)q :
  ∀v,Lp.Fits (2^60) (mF hs+1) (Lp.Vv (mF hs) q (Y8 (P4 z hs h)) (M2 (zo hs)) (M2 (P1 z h)) v):=by
 have z0:∀k:Nat,∀x∈List.replicate k (0:Int),x.natAbs<=2^60:=λk x hx=>by rw[(lL.mp hx).2];decide
 have goal:∀x∈P1 z h,x.natAbs<=2^60:=λx hx=>by
  unfold P1 at hx;rcases bJ.mp hx with hx|hx
  ·exact z0 _ x hx
  ·rw[cJ.mp hx];decide
 have rows:∀r∈P4 z hs h,∀x∈r,x.natAbs<=2^60:=λr hr x hx=>by
  unfold P4 at hr;rcases bJ.mp hr with hr|hr
  ·obtain⟨g,hg,rfl⟩:=aY.mp hr;exact a6Z (wz g hg) hf Kr Ks x hx
  ·simp only[bH,dJ,or_false] at hr;rcases hr with rfl|rfl
   ·obtain⟨y,hy,rfl⟩:=aY.mp hx;have:=a6Z hh hf Kr Ks y hy;rw[iV];exact this
   ·exact goal x hx
 have E_:∀x∈zo hs,x.natAbs<=2^60:=λx hx=>by
  unfold zo at hx;rcases bJ.mp hx with hx|hx
  ·exact z0 _ x hx
  ·simp only[bH,dJ,or_false] at hx;rcases hx with rfl|rfl<;>decide
 intro v i _;unfold Lp.Vv;split
 ·split
  ·unfold Y8;refine Q7 (λx hx=>?_) v;rw[bA] at hx;cases e:(P4 z hs h)[i]? with
   |none=>rw[e] at hx;cases hx
   |some r=>rw[e] at hx;exact rows r (bK e) x hx
  ·split
   ·rw[iV];exact Q7 goal v
   ·exact dM _
 ·split
  ·split<;>decide
  ·split
   ·exact Q7 E_ i
   ·exact dM _
theorem a8q j:Y8 (P4 z hs h) (bx hs+1) j=M2 (P1 z h) j:=by
 have:(P4 z hs h)[bx hs+1]?=av (P1 z h):=by
  unfold P4;rw[dU (by simp),aH,gO];rfl
 rw[T3 this];rfl
theorem b3p{rs:List aA}{hs:List i8}(hl:bx rs=bx hs)(h:∀(i:Nat)a g,rs[i]?=av a->hs[i]?=av g->H' a=av (.lst ((vo z g).map V.int))):si K H' (rs.map V.ref) (hs.map (vo z)):=by
 induction hs generalizing rs with
 |nil =>
  cases rs with
  |nil=>exact .nil
  |cons a r=>simp at hl
 |cons g hs ih =>
  cases rs with
  |nil=>simp at hl
  |cons a r=>exact .cons ⟨a,rfl,ah.of (h 0 a g rfl rfl)⟩ (ih (by simp_all) λi b g' h1 h2=>h (i+1) b g' (by simpa using h1) (by simpa using h2))
theorem b2V(F:Aj K "greatest_floor" LQ f fd)(N:v8 mg)(Cg:C9 P w K mg base n "greatest" ["goal","rows","bounds"] (O5 K C Pt) f1 d1)(Ch:C9 P w K mg base n "house_rows" ["houses","sizes"] (M4 K) f2 d2) :
  bf P w K mg base J8 (n+1) f fd ["houses","number","sizes"] (Bg K Pt):=by
 refine F.oa Dh λay A outer s H vs Q E hr h=>?_;obtain⟨ba,xs,hs,i,h,z,br,kt,kg,rfl,hz,B,hf,hh,L,k⟩:=h;refine⟨_,(flT N Cg Ch hr).2,?_⟩;have xl:=dE B.b;have eQ:=B.eQ;have Xv:=B.t;have Xw:=B.k;have sg:=Ml z;have gh:=B.g h (bK hh);have nj:i<bx hs:=(cA.mp hh).1;have Xf:=t9 (show(1000:Nat)<=1000 from aT _);have AD:∀g∈hs,bx (vo z g)=kt+kg+bx (K5 z)+1:=λg hg=>by rw[Mu,(B.g g hg).lt,(B.g g hg).lg]
 refine⟨_,rfl,_,rfl,ba,xs,hs,z,kt,kg,rfl,hz,B.l,B.b,by lia,by lia,by lia,λg hg=>⟨(B.g g hg).lt,(B.g g hg).lg⟩,λr H1 rs e1 GN lr Hx=>⟨λau H2=>∃fl:aA,au=[av (.ref ba),av (.int i),av (.str z),av (.ref r),av (.ref fl),bh,bh]/\af H1 H2/\H2 fl=av (.lst ((hs.map λg=>g.2.sum-g.1.sum).map V.int)),?_,?_⟩⟩
 ·refine⟨_,rfl,ba,rfl,⟨_,e1.seq B.l⟩,λl hl=>(N5 (A3 (e1.seq B.l)) hl (by lia) (λj y _=>∃g,hs[j]?=av g/\y=.int (g.2.sum-g.1.sum)) (λ_ _ _ _ r _=>r) (λj x H2 ys N' hx e j_ hN=>?_) (λys H2 e j_ len pr=>?_))⟩
  ·obtain⟨g,hg,⟨a,ta,ga,rfl,p1,p2,p3⟩⟩:=aZ.at B.b hx;have e':=e1.trans e;refine⟨a,_,rfl,e'.cm p1,rfl,_,_,rfl,_,_,rfl,rfl,?_,?_⟩
   ·refine⟨by simp,λk w ek=>?_⟩;have:¬k<2:=λhk=>by
     unfold c_ at ek;rw[dH (by simpa using hk),gD] at ek;split at ek<;>cases ek
    rw[dP (by lia),dP (by lia)];exact ek
   exact⟨_,rfl,ga,_,rfl,.inr (e'.cm p3),_,rfl,ta,_,rfl,.inr (e'.cm p2),_,_,rfl,rfl,hN _ _ (af.refl _) ⟨g,hg,rfl⟩⟩
  ·refine⟨l,rfl,e,?_⟩;rw[j_];congr 2;refine dR λj=>?_;by_cases hj:j<bx ys
   ·obtain⟨g,g1,g2⟩:=pr j _ (aS hj);rw[aS hj,g2,aP,aP,g1];rfl
   ·rw[bW (by lia),bW (by rw[aH,aH];lia)]
 rintro Eg H2 ⟨fl,rfl,e2,LN⟩;refine⟨λau H3=>∃(ra:aA)(mq:List aA),au=[av (.ref ba),av (.int i),av (.str z),av (.ref ra),av (.ref fl),bh,bh]/\af H2 H3/\H3 ra=av (.lst (mq.map V.ref))/\bx mq=bx hs/\∀(j:Nat)a g,mq[j]?=av a->hs[j]?=av g->H3 a=av (.lst ((vo z g).map V.int)),?_,?_⟩
 ·refine⟨_,rfl,_,rfl,r,fl,rfl,⟨_,ah.of (e2 _ _ GN)⟩,⟨_,ah.of LN⟩,λl hl=>?_⟩;refine QJ (b1:=true) (b2:=true) (ah.of (e2 _ _ GN)) (ah.of LN) hl (by rw[aH,lr];lia) (λj y H3=>∃a g,y=.ref a/\a≠l/\hs[j]?=av g/\H3 a=av (.lst ((vo z g).map V.int)))
   (λj y H3 H4 ⟨a,g,h1,h2,h3,h4⟩ e=>⟨a,g,h1,h2,h3,e a _ h2 h4⟩) (λj x y H3 zs N' hx hy e j_ hN=>?_) (λzs H3 e j_ len pr=>?_)
  ·obtain⟨ra,Et,rfl⟩:∃ra,rs[j]?=av ra/\x=.ref ra:=by
    rw[aP] at hx;cases q1:rs[j]? with
    |none=>rw[q1] at hx;cases hx
    |some v=>rw[q1] at hx;cases hx;exact⟨v,rfl,rfl⟩
   have EN:j<bx hs:=by rw[<-lr];exact(cA.mp Et).1
   have hg:hs[j]?=av hs[j]:=aS EN;have uw:=Hx j ra _ Et hg;have hyv:y=.int (hs[j].2.sum-hs[j].1.sum):=by
    rw[aP,aP,hg] at hy;exact(bD hy).symm
   subst hyv;generalize hs[j]=g at *;have gg:=B.g g (bK hg);refine⟨_,rfl,_,rfl,(by show 1<=sizeLine;decide),λa1 h1=>⟨ra,a1,_,_,rfl,rfl,(by rw[j3 (i7 (e _ _ (e2 _ _ uw)) h1)];exact e _ _ (e2 _ _ uw)),ae,?_,λa2 h2=>?_⟩⟩
   ·rw[aH];unfold A7;simp[gg.lt,gg.lg];lia
   have s2:=(af.new h1 (.lst [V.int (g.2.sum-g.1.sum)])).trans (af.new h2 (.lst ((A7 z g).map V.int++[V.int (g.2.sum-g.1.sum)])));refine hN _ _ s2 ⟨a2,g,rfl,λzz=>?_,hg,?_⟩
   ·rw[zz,(af.new h1 (.lst [V.int (g.2.sum-g.1.sum)])) _ _ j_] at h2;cases h2
   ·rw[ae];unfold vo;rw[bQ];rfl
  ·have Wy:zs=(zs.map IY).map V.ref:=by
    rw[bC];refine dR λj=>?_;rw[aP];cases qj:zs[j]? with
    |none=>rfl
    |some y =>
     obtain⟨a,_,rfl,_⟩:=pr j y qj;rfl
   refine⟨l,zs.map IY,rfl,e,by rw[j_];rw[<-Wy],by rw[aH,len,aH,aH,aH,lr,Nat.min_self],λj a g hj hg=>?_⟩;rw[aP] at hj;cases qj:zs[j]? with
   |none=>rw[qj] at hj;cases hj
   |some y =>
    obtain⟨a',g',rfl,_,h3,h4⟩:=pr j y qj;rw[qj] at hj;have:a'=a:=bD hj;subst this;rw[hg] at h3;cases h3;exact h4
 rintro ir H3 ⟨ra,mq,rfl,e3,Et,OP,OQ⟩;have Ek:i<bx mq:=by lia
 have IZ:mq[i]?=av mq[i]:=aS Ek;generalize mq[i]=ri at IZ;have uw:=OQ i ri h IZ hh;refine⟨λau H4=>∃fa:aA,au=[av (.ref ba),av (.int i),av (.str z),av (.ref ra),av (.ref fl),av (.ref fa),bh]/\af H3 H4/\H4 fa=av (.lst (((vo z h).map λx=>-x).map V.int)),?_,?_⟩
 ·refine⟨_,rfl,_,rfl,ra,_,_,.ref ri,rfl,rfl,ah.of Et,A2 (by rw[aP,IZ];rfl),ri,rfl,⟨_,ah.of uw⟩,λl hl=>(O9 (A3 (ah.of uw)) hl (by rw[aH,AD h (bK hh)];lia) (λx=>.int (-(vI x))) (λj x H' N2 El e2 OD=>?_) ?_)⟩
  ·obtain⟨x',rfl,_⟩:=LY El;exact⟨Wk.set (by decide),_,rfl,_,rfl,OD⟩
  have eg:((vo z h).map V.int).map (λx=>V.int (-(vI x)))=((vo z h).map λx=>-x).map V.int:=by rw[bC,bC];rfl
  rw[eg];exact⟨l,rfl,af.new hl _,ae⟩
 rintro zx H4 ⟨fa,rfl,e4,RG⟩;have RH:bx (((vo z h).map λx=>-x).map V.int)=kt+kg+bx (K5 z)+1:=by rw[aH,aH,AD h (bK hh)]
 refine⟨λau H5=>∃ga:aA,au=[av (.ref ba),av (.int i),av (.str z),av (.ref ra),av (.ref fl),av (.ref fa),av (.ref ga)]/\af H4 H5/\H5 ga=av (.lst ((P1 z h).map V.int)),?_,?_⟩
 ·refine⟨(by show 1<=sizeLine;decide),λa1 h1=>?_⟩;have s1:=af.new h1 (.lst [.int 0]);have ek:((kt+kg+bx (K5 z)+1:Nat):Int)-1=((bx h.1+bx h.2+bx (K5 z):Nat):Int):=by rw[gh.lt,gh.lg];lia
  refine⟨_,rfl,fa,_,rfl,.inl (ah.of (s1 _ _ RG)),_,_,rfl,rfl,a1,_,_,rfl,rfl,ae,by rw[RH,ek];lia,by rw[RH,ek,gh.lt,gh.lg];lia,by rw[RH,ek,cF,gh.lt,gh.lg];simp;lia,λa2 h2=>?_⟩;rw[RH,ek,cF,N9];have s2:=s1.trans (af.new h2 (.lst ((aQ (bx h.1+bx h.2+bx (K5 z)) (0:Int)).map V.int)));refine⟨(by show 1<=sizeLine;decide),λa3 h3=>?_⟩;have s3:=s2.trans (af.new h3 (.lst [.int 1]));refine⟨a2,a3,_,_,rfl,rfl,(by rw[j3 (i7 ae h3)];exact ae),ae,?_,λa4 h4=>?_⟩
  ·rw[aH,bP,gh.lt,gh.lg];simp;lia
  refine⟨a4,rfl,s3.trans (af.new h4 _),?_⟩;rw[ae];unfold P1;rw[bQ];rfl
 rintro Xx H5 ⟨ga,rfl,e5,Av⟩;have RI:=e4.trans e5;refine⟨_,rfl,_,rfl,_,rfl,_,rfl,(by show 2<=sizeLine;decide),λa1 h1=>?_⟩;refine⟨ra,a1,_,_,rfl,rfl,(by rw[j3 (i7 (RI _ _ Et) h1)];exact RI _ _ Et),ae,?_,λa2 h2=>?_⟩
 ·rw[aH,OP];simp;lia
 have s2:=(af.new h1 (.lst [V.ref fa,V.ref ga])).trans (af.new h2 (.lst (mq.map V.ref++[V.ref fa,V.ref ga])));refine⟨(by show 1<=sizeLine;decide),λa3 h3=>?_⟩;have s3:=s2.trans (af.new h3 (.lst [.int 0]));have e05:=e1.trans (e2.trans (e3.trans RI));refine⟨_,rfl,ba,_,rfl,.inl ((e05.trans s3).seq B.l),a3,_,_,rfl,rfl,ae,by lia,by rw[xl];lia,by rw[xl,cF];simp;lia,λa4 h4=>?_⟩;rw[xl,cF,N9];refine⟨(by show 2<=sizeLine;decide),λa5 h5=>?_⟩;have s5:=(s3.trans (af.new h4 (.lst ((aQ (bx hs) (0:Int)).map V.int)))).trans (af.new h5 (.lst [.int 0,.int 1]));refine⟨a4,a5,_,_,rfl,rfl,(by rw[j3 (i7 ae h5)];exact ae),ae,?_,λa6 h6=>?_⟩
 ·rw[aH,bP];simp;lia
 have s6:=s5.trans (af.new h6 (.lst ((aQ (bx hs) (0:Int)).map V.int++[.int 0,.int 1])));have eb:(aQ (bx hs) (0:Int)).map V.int++[.int 0,.int 1]=(zo hs).map V.int:=by unfold zo;rw[bQ];rfl
 have hA:=e05.trans s6;refine⟨ga,a2,a6,P1 z h,mq.map V.ref++[V.ref fa,V.ref ga],P4 z hs h,zo hs,mF hs,qF z h,2^60,rfl,ah.of (s6 _ _ Av),ah.of ((((af.new h3 (.lst [.int 0])).trans (af.new h4 (.lst ((aQ (bx hs) (0:Int)).map V.int)))).trans (af.new h5 (.lst [.int 0,.int 1]))).trans (af.new h6 (.lst ((aQ (bx hs) (0:Int)).map V.int++[.int 0,.int 1]))) _ _ ae),?_,?_,?_,?_,?_,?_,by show bx hs+2<900;lia,by show bx h.1+bx h.2+bx (K5 z)+1<900;rw[gh.lt,gh.lg];lia,?_,Wa gh B.g hf Xv Xw _,Xe _ (by show bx hs+2<20;lia),L.same hA,
  λS H' t' aa wa O hn sz e' L' q1 q2 q3=>k S H' t' aa wa ⟨O,hn,sz⟩ (λb o hb q'=>e' b o hb (hA b o q')) L' q1 q2 q3,λS H' O st e' L'=>(O.Fg (l:=bx hs+1) (by show bx hs+1<bx hs+2;lia) (λj _=>a8q j) st).elim⟩
 ·unfold P4;refine aZ.app ((b3p (K:=K) OP OQ).same (RI.trans s6)) (.cons ⟨fa,rfl,ah.of (s6 _ _ (e5 _ _ RG))⟩ (.cons ⟨ga,rfl,ah.of (s6 _ _ Av)⟩ .nil))
 ·rw[<-eb];exact ah.of ae
 ·unfold P4;simp
 ·unfold zo;simp
 ·unfold P1;simp
 ·intro r' jx;unfold P4 at jx;rcases bJ.mp jx with jx|jx
  ·obtain⟨g,hg,rfl⟩:=aY.mp jx;rw[AD g hg];show _=bx h.1+bx h.2+bx (K5 z)+1;rw[gh.lt,gh.lg]
  ·simp only[bH,dJ,or_false] at jx;rcases jx with rfl|rfl
   ·rw[aH,Mu]
   ·unfold P1;simp
 ·intro j hj;unfold M2 zo;rw[bA];by_cases h':j<bx hs
  ·rw[dH (by simpa using h'),gD,if_pos h'];exact dL _
  ·rw[dU (by simp;lia),bP];have om:j<bx hs+2:=hj;have:j-bx hs=0\/j-bx hs=1:=by lia
   rcases this with q'|q'<;>rw[q']<;>decide
def Mv(z:aC)(hs:List i8)(h:i8):Prop:=∀S,RF z hs h S->0<S.T (mF hs) (qF z h)
theorem Xz:∀{l x y},bx x=bx y->x8 l (cV (·+·) x y)=x8 l x+x8 l y
 |[],x,y,_=>by simp[x8]
 |a::l,[],[],_=>by simp[x8]
 |a::l,b::x,c::y,h=>by
  have:=Xz (l:=l) (by simpa using h);unfold x8 at *;simp only[eW,dW];rw[this,kZ];lia
 |a::l,[],c::y,h=>by simp at h
 |a::l,b::x,[],h=>by simp at h
theorem G6:∀{l}{k}{f},bx l=k->x8 l (aQ k f)=l.sum*f
 |[],k,f,_=>by simp[x8]
 |a::l,0,f,h=>by simp at h
 |a::l,k+1,f,h=>by
  have:=G6 (f:=f) (by simpa using h);unfold x8 at *;rw[eZ,eW,dW,this,dW,fG]
abbrev AF(xs:List Int)(f:Int):List Int:=xs.map (·+f)
theorem b1E(h:bx l=bx xs):x8 l (AF xs f)=x8 l xs+l.sum*f:=by
 have e:AF xs f=cV (·+·) xs (aQ (bx xs) f):=by
  unfold AF;refine dR λi=>?_;by_cases hi:i<bx xs
  ·rw[aP,mX,gD,if_pos hi,aS hi];rfl
  ·rw[bW (by simp;lia),bW (by simp;lia)]
 rw[e,Xz (by simp),G6 h]
theorem RJ(h1:bx g.1=bx h.1)(h2:bx g.2=bx h.2)(hl:bx xs=bx h.1+bx h.2+bx (K5 z)) :
  x8 (vo z g) (xs++[fl])=P7 g (AF (o_ h xs) fl) (pe z h xs)-fo g (AF (oz h xs) fl):=by
 unfold vo;rw[Mp (by unfold A7;simp[h2];lia),Rx h1 h2];unfold P7 fo;have e1:x8 g.2 (AF (o_ h xs) fl)=x8 g.2 (o_ h xs)+g.2.sum*fl:=b1E (by grind);have e2:x8 g.1 (AF (oz h xs) fl)=x8 g.1 (oz h xs)+g.1.sum*fl:=b1E (by grind);dsimp only[x8] at *;rw[e1,e2,pA];lia
theorem XA xs fl(hl:bx xs=bx h.1+bx h.2+bx (K5 z)):x8 (P1 z h) (xs++[fl])=fl:=by
 unfold P1;rw[Mp (by simp[hl]),T6,lH,lE]
theorem b6v(i:Nat)(hg:hs[i]?=av g):(P4 z hs h)[i]?=av (vo z g):=by
 unfold P4;rw[dH (by rw[aH];exact((cA.mp hg).1)),aP,hg];rfl
theorem b5Y:(P4 z hs h)[bx hs]?=av ((vo z h).map λx=>-x):=by
 unfold P4;rw[dU (by simp),aH,gL];rfl
theorem RK(hi:i<=bx hs):(zo hs).getD i 0=0:=by
 unfold zo;rw[F0,bP];by_cases h1:i<bx hs
 ·rw[if_pos h1,M3]
 ·rw[if_neg h1,show i-bx hs=0 by lia];rfl
theorem a7m{i:Nat}(B:RF z hs h S)(hk:∀g∈hs,bx g.1=kt/\bx g.2=kg)(hh:hs[i]?=av h)(lt:bx pt=bx h.1)(lg:bx pg=bx h.2)(tp:∀x∈pt,0<x)(gp:∀x∈pg,0<x)(ja:∀g∈hs,P7 g pg 0<=fo g pt)(Xy:P7 h pg 0=fo h pt):0<S.T (mF hs) (qF z h):=by
 obtain⟨O,hn,sz⟩:=B;have kh:=hk h (bK hh);obtain⟨sx,sl,snn,sv⟩:∃sx,bx sx=bx (K5 z)/\(∀x∈sx,0<=x)/\x8 sx (K5 z)=0 :=
  ⟨List.replicate (bx (K5 z)) 0,by simp,λx hx=>by rw[(lL.mp hx).2];exact dL _,T6 ..⟩
 have OT:bx (pt.map (·-1)++pg.map (·-1)++sx)=bx h.1+bx h.2+bx (K5 z):=by simp[lg];lia
 have e1:AF (oz h (pt.map (·-1)++pg.map (·-1)++sx)) 1=pt:=by
  unfold oz AF;rw[dC,pK (by simp[lt]),bC];refine(fM λx _=>?_).trans (xS _);show x-1+1=x;lia
 have e2:AF (o_ h (pt.map (·-1)++pg.map (·-1)++sx)) 1=pg:=by
  unfold o_ AF;rw[dC,xT (by simp[lt]),pK (by simp[lg]),bC];refine(fM λx _=>?_).trans (xS _);show x-1+1=x;lia
 have e3:pe z h (pt.map (·-1)++pg.map (·-1)++sx)=0:=by
  unfold pe;rw[xT (by simp[lt,lg])];exact sv
 generalize Hl:pt.map (·-1)++pg.map (·-1)++sx=xs at *;have OS:∀x∈xs++[1],0<=x:=λx hx=>by
  rcases bJ.mp hx with hx|hx
  ·rw[<-Hl] at hx;rcases bJ.mp hx with hx|hx
   ·rcases bJ.mp hx with hx|hx
    ·obtain⟨y,hy,rfl⟩:=aY.mp hx;have:=tp y hy;lia
    ·obtain⟨y,hy,rfl⟩:=aY.mp hx;have:=gp y hy;lia
   ·exact snn x hx
  ·rw[cJ.mp hx];decide
 have lq:bx (xs++[1])=qF z h:=by rw[aX,OT];rfl
 have toD:∀{row:List Int}{i:Nat},(P4 z hs h)[i]?=av row->bx row=qF z h->Lp.sumTo (λj=>Y8 (P4 z hs h) i j*(xs++[1]).getD j 0) (qF z h)=x8 row (xs++[1]):=λ{row i}hr hl=>by
  rw[<-M9 (qF z h) row (xs++[1]) hl lq];exact Lp.aj λj _=>by rw[T3 hr]
 have key:=O.weak hn (y:=λj=>(xs++[1]).getD j 0) (e:=1) (λj hj=>?_) λk i_=>?_
 ·have eg:Lp.sumTo (λj=>M2 (P1 z h) j*(xs++[1]).getD j 0) (qF z h)=1:=by
   have:=M9 (qF z h) (P1 z h) (xs++[1]) (by unfold P1;simp) lq;rw[XA _ _ OT] at this;exact this
  rw[eg] at key;have:=O.w.pos;lia
 ·rw[bA,aS (lq▸hj)];exact OS _ (eF _)
 ·have Rz:k<bx hs+2:=i_;show _<=M2 (zo hs) k*1;rw[jF];by_cases c1:k<bx hs
  ·have HI:=hk hs[k] (eF c1);rw[toD (b6v k (aS c1)) (by rw[Mu,HI.1,HI.2,kh.1.symm,kh.2.symm]),RJ (by rw[HI.1,kh.1]) (by rw[HI.2,kh.2]) OT,e1,e2,e3];show _<=(zo hs).getD k 0;rw[RK (by lia)];have:=ja hs[k] (eF c1);lia
  ·by_cases c2:k=bx hs
   ·subst c2;rw[toD b5Y (by rw[aH,Mu]),Mn,RJ (h:=h) rfl rfl OT,e1,e2,e3];show _<=(zo hs).getD (bx hs) 0;rw[RK (aT _)];have:=Xy;lia
   ·have c3:k=bx hs+1:=by lia
    subst c3;have hr:(P4 z hs h)[bx hs+1]?=av (P1 z h):=by
     unfold P4;rw[dU (by simp),aH,gO];rfl
    rw[toD hr (by unfold P1;simp),XA _ _ OT];show(1:Int)<=(zo hs).getD (bx hs+1) 0;unfold zo;rw[F0,bP,if_neg (by lia),gO];decide
theorem b4h(B:RF z hs h S):0<S.T (mF hs) (qF z h) ↔ Mv z hs h :=
 ⟨λhp S' B'=>by rw[<-B.1.one B'.1 B.2.1 B'.2.1];exact hp,λR=>R S B⟩
end de
namespace L2
open PySem
theorem b3K(T:cu P pos qual H1)(hp:H1 p=bh)(hz:n<sizeLine)F
  (step:∀i H ys N,i<n->bj P H1 H->cu P pos qual H->H p=av (.lst ys)->(∀H3,bj P H H3->cu P pos qual H3->N (F i) H3)->tc ((c_ 1 fr σ).set 0 (av (.int (i:Int)))) H N)
  (hd:∀H,bj P H1 H->cu P pos qual H->H p=av (.lst (((aW n).filter F).map λ(i:Nat)=>V.int (i:Int)))->D H):LF 1 fr (N7 0) tc (JB 0) σ (Hd 0 n) H1 p D:=by
 refine⟨λi m ys H=>m=n-i/\i<=n/\ys=((aW i).filter F).map (λ(i:Nat)=>V.int (i:Int))/\bj P H1 H/\cu P pos qual H/\H p=av (.lst ys),⟨n,by simp,dM _,rfl,(af.new hp _).ka,T.same (af.new hp _),ae⟩,?_⟩;rintro i m ys H ⟨rfl,hi,rfl,e,L,hH⟩;by_cases fk:i<n
 ·refine .inr ⟨fk,λx H' y=>?_⟩;obtain⟨rfl,rfl⟩:=y;rw[lH];have tk:(aW (i+1)).filter F=(aW i).filter F++[i].filter F:=by rw[pE,wS]
  refine⟨Wk.set (by decide),step i _ _ _ fk e L hH λH3 e3 L3=>?_⟩;have h3:=e3.get L hH nofun;cases hq:F i with
  |false =>
   rw[if_neg cX];refine⟨n-(i+1),by lia,rfl,fk,?_,e.trans e3,L3,h3⟩;rw[tk];simp[hq]
  |true =>
   rw[if_pos rfl];refine⟨.int (i:Int),?_,h3,?_,n-(i+1),by lia,rfl,fk,?_,(e.trans e3).write hp,L3.write h3,ae⟩
   ·show((c_ 1 fr σ).set 0 (av (.int (i:Int))))[0]?=av (av (.int (i:Int)));rw[eK (by simp[c_])]
   ·have h1:=oX F (aW i);rw[gZ] at h1;rw[aH];lia
   ·rw[tk];simp[hq]
 ·have:i=n:=by lia
  subst this;exact .inl ⟨Nat.le_refl _,hd H e L hH⟩
end L2
namespace de
open PySem L2 Fr
open Classical in
def Jg(z:aC)(hs:List i8):List Nat:=(aW (bx hs)).filter λi=>decide (Mv z hs (hs.getD i ([],[])))
theorem b4X(h:i∈Jg z hs):i<bx hs:=by
 unfold Jg at h;exact fF.mp (lI.mp h).1
theorem d0p(hh:hs[i]?=av h):i∈Jg z hs ↔ Mv z hs h:=by
 have hd:hs.getD i ([],[])=h:=by rw[bA,hh];rfl
 unfold Jg;rw[lI,fF,hd];simp[(cA.mp hh).1]
theorem Wb:∀{l:List Int},(∀x∈l,0<=x)->(∃x∈l,0<x)->0<l.sum
 |[],_,⟨_,h,_⟩=>by cases h
 |a::r,h,⟨x,hx,hp⟩=>by
  have ha:=h a (.head _);have nn:0<=r.sum:=by
   have:∀{l:List Int},(∀x∈l,0<=x)->0<=l.sum:=λ{l}=>by
    induction l with
    |nil=>intro _;exact dL _
    |cons b s ih =>
     intro g;have h1:=g b (.head _);have h2:=ih λy hy=>g y (.tail _ hy);rw[dW];lia
   exact this λy hy=>h y (.tail _ hy)
  rw[dW];rcases bH.mp hx with rfl|hx
  ·lia
  ·have:=Wb (λy hy=>h y (.tail _ hy)) ⟨x,hx,hp⟩;lia
theorem c7N{α:Type}{T G:α->Int}:∀{l},l≠[]->(∀x∈l,0<G x)->∃h∈l,∀g∈l,T h*G g<=T g*G h
 |[],h,_=>absurd rfl h
 |[a],_,_=>⟨a,.head _,λg hg=>by rw[cJ.mp hg];exact dL _⟩
 |a::b::r,_,hp=>by
  obtain⟨h,hm,hl⟩:=c7N (by simp) λx hx=>hp x (.tail _ hx);by_cases c:T h*G a<=T a*G h
  ·refine⟨h,.tail _ hm,λg hg=>?_⟩;rcases bH.mp hg with rfl|hg
   ·exact c
   ·exact hl g hg
  ·refine⟨a,.head _,λg hg=>?_⟩;rcases bH.mp hg with rfl|hg
   ·exact dL _
   ·refine mW ?_ (hp h (.tail _ hm));have e1:T a*G h*G g<=T h*G a*G g:=fH (by lia) (cC (hp g (.tail _ hg)));have e2:T h*G g*G a<=T g*G h*G a:=fH (hl g hg) (cC (hp a (.head _)));have x1:T a*G g*G h=T a*G h*G g:=by ac_rfl
    lia
theorem c8H(hG:∀g∈hs,HG br kt kg g)(ij:1<=kt)(mm:hs≠[]):∃i,i∈Jg z hs:=by
 have pT_:=λg hg=>by
  have h:=hG g hg;refine Wb (λx hx=>by have:=(h.t x hx).1;lia) ?_;have hl:0<bx g.1:=by rw[h.lt];lia
  exact⟨g.1[0],eF hl,by have:=(h.t _ (eF hl)).1;lia⟩
 have pG_:=λg hg=>Wb (λx hx=>((hG g hg).g x hx).1) (hG g hg).p;obtain⟨h,hm,hl⟩:=c7N mm pG_;obtain⟨i,hi⟩:=iL hm;have v1:∀g∈hs,fo g (aQ kt h.2.sum)=g.1.sum*h.2.sum:=λg hg=>G6 (hG g hg).lt;have v2:∀g∈hs,P7 g (aQ kg h.1.sum) 0=g.2.sum*h.1.sum:=λg hg=>by
  have:x8 g.2 (aQ kg h.1.sum)=g.2.sum*h.1.sum:=G6 (hG g hg).lg;unfold P7;dsimp only[x8] at this;rw[this,gK]
 refine⟨i,(d0p hi).mpr λS B=>a7m B (λg hg=>⟨(hG g hg).lt,(hG g hg).lg⟩) hi (pt:=aQ kt h.2.sum) (pg:=aQ kg h.1.sum) (by rw[bP,(hG h hm).lt]) (by rw[bP,(hG h hm).lg]) (λx hx=>by rw[(lL.mp hx).2];exact pG_ h hm) (λx hx=>by rw[(lL.mp hx).2];exact pT_ h hm) (λg hg=>?_) ?_⟩
 ·rw[v1 g hg,v2 g hg];have:=hl g hg;rw[bX g.2.sum];exact this
 ·rw[v1 h hm,v2 h hm,bX]
inductive RL(K:aF)(Pt:aA)(vs:List V)(H:Hp)(Q:VK)(dj:XK):Prop|mk:∀(ba:aA)(xs:List V)(hs:List i8)(z:aC)(br:Int)(kt kg:Nat),vs=[.ref ba,.str z]->O4 z->O6 K H ba xs hs br kt kg->br<=2^50->LT Pt H->(∀H' r,bj Pt H H'->LT Pt H'->H r=bh->H' r=av (.lst ((Jg z hs).map λ(i:Nat)=>V.int (i:Int)))->Q (.ref r) H')->RL K Pt vs H Q dj
def c0R:p7 ["book","sizes"] ["book","sizes"] (i9 VL):={}
theorem c1h:(["number","book","sizes"]:List aC).Nodup:=by decide
theorem b3q(F:Aj K "rim_of" VL f fd)(N:v8 mg)(Cf:C9 P w K mg base n "greatest_floor" ["houses","number","sizes"] (Bg K Pt) f1 d1):bf P w K mg base J8 (n+1) f fd ["book","sizes"] (RL K Pt):=by
 refine F.oa c0R λay A outer s H vs Q E hr h=>?_;obtain⟨ba,xs,hs,z,br,kt,kg,rfl,hz,B,hf,L,k⟩:=h;refine⟨_,j4 (o4 (zI ["number"] [0,1] rfl (R8 rfl N.range (c6 (j7 j6 rfl N.len bB (c6 (pv 0) c7)) c7)) (λ_ _ _ _=>j9 (i:=0) c1h rfl (aI rfl))
  (λ_ _ _ _=>l5 Ej (l8 (zO K rfl) (Cf.c hr (c6 (pv 1) (c6 (pv 0) (c6 (pv 2) c7)))) d0 λ_ _=>rfl) d0 (r9 _)) λ_ _ _ _=>pv 0)),?_⟩
 have xl:=dE B.b;have eQ:=B.eQ;have Xf:=t9 (show(1000:Nat)<=1000 from aT _);have hk:∀g∈hs,bx g.1=kt/\bx g.2=kg:=λg hg=>⟨(B.g g hg).lt,(B.g g hg).lg⟩;refine⟨_,rfl,ba,_,rfl,.inl B.l,_,rfl,by lia,by lia,?_⟩;rw[xl,cF];intro p hp;refine b3K (n:=bx hs) L hp (by lia) _ (λi H2 ys N' hi e LX oy hN=>?_) (λH2 e LX oy=>k H2 p e LX hp oy);have hh:hs[i]?=av hs[i]:=aS hi;refine⟨_,rfl,_,rfl,_,rfl,ba,xs,hs,i,hs[i],z,br,kt,kg,rfl,hz,⟨ah.fg L e B.l,Bk.fg L e B.b,B.g,B.br,B.eQ,B.t,B.k⟩,hf,hh,LX,λS H3 t aa wa BF e3 L3 ht _ _=>⟨t,_,0,_,rfl,rfl,cq.of ht,A2 (j:=0) rfl,_,_,rfl,rfl,_,rfl,?_⟩⟩;have hd:hs.getD i ([],[])=hs[i]:=by rw[bA,hh];rfl
 have eb:decide (S.T (mF hs) (qF z hs[i])>0)=(λi=>@decide (Mv z hs (hs.getD i ([],[]))) (xU _)) i:=by
  have:=b4h BF;show _=@decide (Mv z hs (hs.getD i ([],[]))) (xU _);rw[hd];by_cases c:0<S.T (mF hs) (qF z hs[i])
  ·have c2:=this.mp c;rw[decide_eq_true (show S.T (mF hs) (qF z hs[i])>0 from c)];simp[c2]
  ·have c2:¬Mv z hs hs[i]:=λq=>c (this.mpr q);rw[decide_eq_false (show ¬S.T (mF hs) (qF z hs[i])>0 from c)];simp[c2]
 rw[eb];exact hN H3 e3 L3
end de
namespace de
open PySem L2 Fr
def XE:fu X l λ_ _ _=>False:=λ_ _ _ _ _ _ h=>h.elim
structure ku(z:aC)(hs:List i8)(h:i8)(kt kg:Nat)(A B:Int):Prop where
 s:∃S,sj z hs h S/\A=S.T (mE hs) (qE z h)/\B=S.d
 a:fh 20000 A
 b:0<B
 c:B<2^8000
 n:A.natAbs<2^1200/\B.natAbs<2^1200
def ik(z:aC)(hs:List i8)(h:i8)(kt kg:Nat):Prop:=∃S,OE z hs h S/\Lp.cM (mE hs) (qE z h) S
theorem b6u:∀k,k<18->Lp.ow (2^60) (k+1)<2^1200:=by decide
theorem sj.u(B:sj z hs h S)(hG:∀g∈hs,HG br kt kg g)(gh:HG br kt kg h)(hf:br<=2^60)(eQ:bx hs<=16):ku z hs h kt kg (S.T (mE hs) (qE z h)) S.d:=by
 have hM:=S7 (z:=z) gh hG hf (qE z h);have hb:=b6u (bx hs+1) (by lia);obtain⟨b1,b2⟩:=Um B;exact⟨⟨S,B,rfl,rfl⟩,(B.2.2.1 _ _ (by lia) (by lia)).mono (by decide),b1,b2,gU (B.1.w.Hu hM (aT _) (aT _)) hb,gU (B.1.w.Ht hM) hb⟩
theorem ku.fr(x:ku z hs h kt kg A B)(y:ku z hs h kt kg A' B'):Fr.low A B=Fr.low A' B':=by
 obtain⟨S,a,rfl,rfl⟩:=x.s;obtain⟨S',b,rfl,rfl⟩:=y.s;rw[a.1.one b.1 a.2.1 b.2.1]
theorem ik.not(N:ik z hs h kt kg)(x:ku z hs h kt kg A B):False:=by
 obtain⟨S,O,st⟩:=N;obtain⟨S',b,_⟩:=x.s;exact O.two b.1 st b.2.1
def S8{α:Type}(l:List α)(i:Nat):List α:=l.take i++l.drop (i+1)
theorem XF(h:g∈S8 l i):g∈l:=by
 rcases bJ.mp h with h|h
 ·exact fV h
 ·exact fK h
theorem b3A:bx (S8 l i)<=bx l:=by unfold S8;simp;lia
theorem aZ.take:∀{eX}{gi:List β}i,bR F eX gi->bR F (eX.take i) (gi.take i)
 |_,_,0,_=>.nil
 |_,_,_+1,.nil=>.nil
 |_,_,i+1,.cons r t=>.cons r (aZ.take i t)
theorem aZ.drop:∀{eX}{gi:List β}i,bR F eX gi->bR F (eX.drop i) (gi.drop i)
 |_,_,0,h=>h
 |_,_,_+1,.nil=>.nil
 |_,_,i+1,.cons _ t=>aZ.drop i t
theorem aZ.app:∀{eX m₁}{gi m₂:List β},bR F eX gi->bR F m₁ m₂->bR F (eX++m₁) (gi++m₂)
 |_,_,_,_,.nil,h=>h
 |_,_,_,_,.cons r t,h=>.cons r (aZ.app t h)
def Bk.out i(B:Bk K H xs hs):Bk K H (S8 xs i) (S8 hs i):=aZ.app (aZ.take i B) (aZ.drop (i+1) B)
inductive d1L(K:aF)(Pt:aA)(vs:List V)(H:Hp)(Q:VK)(dj:XK):Prop|mk:∀ba hv xs hs h z br kt kg,vs=[.ref ba,hv,.str z]->O4 z->O6 K H ba xs hs br kt kg->1<=kt->HS K H hv h->HG br kt kg h->LT Pt H->(∀A B H' u,ku z hs h kt kg A B->bj Pt H H'->LT Pt H'->Ex H' u (low A B)->Q u H')->(∀H',ik z hs h kt kg->bj Pt H H'->LT Pt H'->Q .non H')->d1L K Pt vs H Q dj
theorem d0H(F:bf P w K mg base J8 n f fd ["houses","house","sizes"] (Ru K Pt)):bf P w K mg base J8 n f fd ["houses","house","sizes"] (d1L K Pt):=F.imp λvs H Q E h=>by
 obtain⟨ba,hv,xs,hs,h,z,br,kt,kg,rfl,hz,B,ij,hH,gh,L,kG,kN⟩:=h;exact⟨ba,hv,xs,hs,h,z,br,kt,kg,rfl,hz,B,hH,gh,L,λS H' u Bs e L' hu=>kG _ _ H' u (Bs.u B.g gh B.br B.eQ) e L' hu,λS H' O st e L'=>kN H' ⟨S,O,st⟩ e L'⟩
inductive d0z(K:aF)(CN Pt:aA)(vs:List V)(H:Hp)(Q:VK)(E:XK):Prop|mk:∀(ba:aA)(xs:List V)(hs:List i8)(number:Int)(z:aC)(br:Int)(kt kg:Nat),vs=[.ref ba,.int number,.str z]->O4 z->O6 K H ba xs hs br kt kg->1<=kt->number.natAbs.log2<1920->LT Pt H->(∀(i:Nat)h A B H' u,number=(i:Int)->hs[i]?=av h->ku z hs h kt kg A B->bj Pt H H'->LT Pt H'->Ex H' u (low A B)->Q u H')->(¬AA (bx xs) number->E (.ref CN) bh H)->d0z K CN Pt vs H Q E
theorem c8n(F:bf P w K mg base (W2 P w) n f fd ["book","number","sizes"] (OI K CN Pt)):bf P w K mg base (W2 P w) n f fd ["book","number","sizes"] (d0z K CN Pt):=F.imp λvs H Q E h=>by
 obtain⟨ba,xs,hs,number,z,br,kt,kg,rfl,hz,B,ij,lm,L,kG,kE⟩:=h;exact⟨ba,xs,hs,number,z,br,kt,kg,rfl,hz,B,lm,L,λi h S H' u hi hh Bs e L' hu=>kG i h _ _ H' u hi hh (Bs.u B.g (B.g h (bK hh)) B.br B.eQ) e L' hu,kE⟩
inductive XG(K:aF)(CN:aA)(vs:List V)(H:Hp)(Q:VK)(E:XK):Prop|mk:∀a xs m,vs=[.ref a,.int m]->ah K H a xs->bx xs<=1000->m.natAbs.log2<1920->(∀(i:Nat)l H',m=(i:Int)->i<bx xs->af H H'->H l=bh->H' l=av (.lst (S8 xs i))->Q (.ref l) H')->(¬AA (bx xs) m->E (.ref CN) bh H)->XG K CN vs H Q E
def c0U:p7 ["houses","number"] ["houses","number"] (i9 VH):={}
theorem a8I(F:Aj K "without" VH f fd)(Ch:vn P w K mg base n "house_of" ["book","number"] (OA K CN) f1 d1):bf P w K mg base (W2 P w) (n+1) f fd ["houses","number"] (XG K CN):=by
 refine F.ob c0U λay A outer s H vs Q E hr h=>?_;obtain⟨a,xs,m,rfl,hS,hl,hm,q,hE⟩:=h;refine⟨_,j0 (R3 (l7 Ch.ok hr rfl Ch.m Ch.k Ch.b .nil V5 (c6 (pv 0) (c6 (pv 1) c7))))
  (fu.oi (j4 (o4 (j8 B9 (B7 M0 (pv 0) G1 (B8 (pv 1))) (B7 M0 (pv 0) (B8 (j8 D4 (pv 1) d0)) G1))))),?_⟩
 refine⟨_,rfl,_,rfl,a,xs,m,rfl,hS,hm,λi x hi hx=>?_,hE⟩;subst hi;have nj:=(cA.mp hx).1;refine⟨_,rfl,_,rfl,_,rfl,a,_,rfl,hS,λa1 h1=>?_⟩;rw[NS _ _ (by lia)];have s1:=af.new h1 (.lst (xs.take i));refine⟨_,rfl,_,rfl,_,_,rfl,rfl,_,rfl,a,_,rfl,s1.seq hS,λa2 h2=>?_⟩;rw[show((i:Int)+1)=((i+1:Nat):Int) by lia,NT _ _ (by lia)];have s2:=af.new h2 (.lst (xs.drop (i+1)));refine⟨a1,a2,_,_,rfl,rfl,s2 _ _ ae,ae,?_,λp hp=>?_⟩
 ·have:=t9 (show(1000:Nat)<=1000 from aT _);simp;lia
 refine q i p _ rfl nj ((s1.trans s2).trans (af.new hp (.lst (xs.take i++xs.drop (i+1))))) ?_ ae;cases e:H p with
 |none=>rfl
 |some o=>rw[s2 _ _ (s1 _ _ e)] at hp;cases hp
inductive G8(K:aF)(CN Pt:aA)(vs:List V)(H:Hp)(Q:VK)(E:XK):Prop|mk:∀ba xs hs number z br kt kg,vs=[.ref ba,.int number,.str z]->O4 z->O6 K H ba xs hs br kt kg->1<=kt->number.natAbs.log2<1920->LT Pt H->(∀(i:Nat)h A B H' u,number=(i:Int)->hs[i]?=av h->ku z (S8 hs i) h kt kg A B->bj Pt H H'->LT Pt H'->Ex H' u (low A B)->Q u H')->(∀(i:Nat)h H',number=(i:Int)->hs[i]?=av h->ik z (S8 hs i) h kt kg->bj Pt H H'->LT Pt H'->Q .non H')->(¬AA (bx xs) number->E (.ref CN) bh H)->G8 K CN Pt vs H Q E
def OU:p7 ["book","number","sizes","house"] ["book","number","sizes"] (i9 VI):={}
theorem c9V(F:Aj K "share_of_others" VI f fd)(Ch:vn P w K mg base n "house_of" ["book","number"] (OA K CN) f1 d1)(Cw:vn P w K mg base n "without" ["houses","number"] (XG K CN) f2 d2)
  (Ce:C9 P w K mg base n "held_against" ["houses","house","sizes"] (Ru K Pt) f3 d3):bf P w K mg base (W2 P w) (n+1) f fd ["book","number","sizes"] (G8 K CN Pt):=by
 refine F.ob OU λay A outer s H vs Q E hr h=>?_;obtain⟨ba,xs,hs,number,z,br,kt,kg,rfl,hz,B,ij,lm,L,kG,kN,kE⟩:=h;refine⟨_,j0 (r6 (i:=3) OU.nd rfl (aI rfl) (l7 Ch.ok hr rfl Ch.m Ch.k Ch.b .nil V5 (c6 (pv 0) (c6 (pv 1) c7))))
  (j4 (o4 (l7 (d0H Ce.ok) hr rfl Ce.m Ce.k Ce.b .nil v6 (c6 (l7 Cw.ok hr rfl Cw.m Cw.k Cw.b .nil V5 (c6 (pv 0) (c6 (pv 1) c7))) (c6 (pv 3) (c6 (pv 2) c7)))))),?_⟩
 have xl:bx xs=bx hs:=dE B.b;have eQ:=B.eQ;refine⟨_,rfl,_,rfl,ba,xs,number,rfl,B.l,lm,λi hv hi hx=>?_,kE⟩;obtain⟨h,hh,hH⟩:=aZ.at B.b hx;have nj:=(cA.mp hx).1;refine⟨_,rfl,_,rfl,ba,xs,number,rfl,B.l,by lia,lm,λi' l H1 Ek _ e1 hl jl=>?_,λbad=>absurd ⟨by lia,by lia⟩ bad⟩;have:i'=i:=by lia
 subst this;refine⟨_,rfl,_,rfl,l,hv,_,S8 hs i',h,z,br,kt,kg,rfl,hz,⟨ah.of jl,Bk.same e1 (B.b.out i'),λg hg=>B.g g (XF hg),B.br,bF b3A eQ,B.t,B.k⟩,ij,hH.same e1,B.g h (bK hh),L.same e1,λA B H' u x e' L' hu=>kG i' h A B H' u hi hh x (e1.ka.trans e') L' hu,λH' x e' L'=>kN i' h H' hi hh x (e1.ka.trans e') L'⟩
end de
namespace L2
open PySem PySem.Spec PyProof.Rows
theorem d1n(h:∀b,Q b s):wpAny (model prog w) A (Ps c) Q E s:=by
 unfold Ps;exact aN (wpAny_stack_any λst=>bG (h _))
end L2
namespace L2
open PySem PySem.Spec PyProof.Rows
abbrev Itz(b1 b2:Bool)(K:aF)(l1 l2:aA):It:=ie (QD b1 b2 K l1 l2)
theorem f0B{b1 b2:Bool}{P:aM}{w:aL}{K:aF}{z ti to j1 j2 l1 l2:aA}(D:jO z ti to j1 j2 l1 l2) :
  dT P w K (QD b1 b2 K l1 l2) [z,ti,to,j1,j2] z (λi h=>∃f0 f1,dK b1 b2 z ti to j1 j2 l1 l2 f0 f1 i h) where
 obj:=λi h ⟨_,_,st⟩=>st.obj
 keep:=λi h h' ⟨_,_,st⟩ k=>⟨_,_,st.keep k⟩
 item:=by
  intro X hP hw hK i bz s σ H A Q E I hf ⟨_,_,st⟩ hg q;subst hP hw hK;unfold gH;exact aN (Px D I hf st hg λh' pO pP x H' c0 c1 I1 r y fr k=>bG (q _ h' x H' I1 r y ⟨_,_,c1⟩ fr k))
 done:=by
  intro X hP hw hK i bz s σ H A Q E hh I ⟨_,_,st⟩ hg q;subst hP hw hK;unfold gH;exact aN (f0a hh D I st hg q)
abbrev ez1(h:aJ)(z:aA):aJ:=h.push {cls:=.type "enumerate",data:=.fields #[.none,.bool false,.ref z,rawInt 0,.none,.none]}
theorem d2p z ti to :
  Meets (iH.«enumerate.__new__» ⟨[.type "enumerate",.ref z],[]⟩) (λ_ R s=>eV s.heap z ti to .none/\R (.ok (.ret (.ref s.heap.objs.size))) {s with heap:=ez1 s.heap z}) :=
 .of_wp λprog w A R s h=>by
  obtain⟨hp,g,d,tk,os⟩:=s;obtain⟨e1,h⟩:=h;have NB:=sub_enumerate;have m1:=e1
  wp_walk using wE m1,d1n
  intro c;cases c
  ·wp_walk using wE m1
   exact⟨_,rfl,h⟩
  ·wp_walk using wE m1
   exact⟨_,rfl,h⟩
theorem d1l(l1:eV s.heap z ti to .none)
  (q:∀h',IsEnum h' s.heap.objs.size z 0 .none->(∀c o,s.heap.get? c=av o->h'.get? c=av o)->Q (.ref s.heap.objs.size) {s with heap:=h'}) :
  wpAny (model prog w) A (call (.type "enumerate") [.ref z]) Q E s:=by
 refine callType_new F.called_enumerate (by decide) (F.typeCall_enumerate_1 _) (F.newCall_enumerate_1 _) (λob=>F.args_object_init_2 ob _) F.entry_enumerate_new (d2p z ti to) ⟨l1,?_⟩;have p1:(ez1 s.heap z).get? s.heap.objs.size=av _:=dG _ rfl;exact⟨⟨_,p1,rfl⟩,q _ p1 λc o m=>bL _ m⟩
def iEz(b1 b2:Bool)(K:aF)(ta:TA):TI:=λσ H R=>ta σ H λvs H1=>∃l1 l2,vs=[.ref l1,.ref l2]/\(∃xs,xt b1 K H1 l1 xs)/\(∃ys,xt b2 K H1 l2 ys)/\R (Itz b1 b2 K l1 l2) H1
theorem d2G b1 b2 K{p pos p2 pX pos'}{elts}{x1}(hK:X.K=K)(hg:Gl X "enumerate")(hm:X.mg "enumerate"=bh)(hg2:Gl X "zip")(uL:X.mg "zip"=bh)(ha:PA X [a,b] ta)
  (hs:starEach [a,b] X.env=[(false,eval a X.env),(false,eval b X.env)]:=by rfl) (II:starEach [b] X.env=[(false,eval b X.env)]:=by rfl)
  (Pk:starEach [.Call (.Name "zip" p2) [a,b] [] pX] X.env=[(false,eval (.Call (.Name "zip" p2) [a,b] [] pX) X.env)]:=by rfl) (hs4:starEach ([]:List aR) X.env=[]:=by rfl) :
  PI X (.Tuple elts x1 pos') (.Call (.Name "enumerate" p) [.Call (.Name "zip" p2) [a,b] [] pX] [] pos) (iEz b1 b2 K ta):=by
 subst hK;intro bz s σ H R I h;refine Call_ (JD I hg hm boot_enumerate (nJ ?_ rfl rfl));rw[Pk];refine Calls.spliced_cons (Call_ (JD I hg2 uL boot_zip (nJ (D7 (ha pX bz s σ H _ I h) λus s1 ⟨vs,H1,I1,r1,q1⟩=>?_) (by lia) (by rw[II];rfl))));obtain⟨l1,l2,e,⟨xs,q1⟩,⟨ys,q2⟩,q⟩:=q1;subst e;obtain⟨u1,u2,rfl,UQ,UR⟩:=Lw r1;cases UQ;cases UR;obtain⟨NJ,QG,p1,_⟩:=I1.CG q1;obtain⟨Cy,QH,p2,_⟩:=I1.CG q2;refine b5o p1 p2 λh1 z1 z2 z3 z4 z5 k1=>(bG (d1l z1 λh2 e1 k2=>(wF e1 ?_)));have z1s:s1.heap.objs.size+4<h1.objs.size:=bN z1;refine⟨h1.objs.size,[h1.objs.size,s1.heap.objs.size+4,s1.heap.objs.size+2,s1.heap.objs.size+3,s1.heap.objs.size,s1.heap.objs.size+1],_,_,H1,rfl,(I1.kept (t':=s1.toks) λc o m=>k2 c o (k1 c o m)),f0g (f0B (b7W _ _ _ p1.lt p2.lt)) λhb=>?_,⟨⟨_,e1⟩,_,_,k2 _ _ z1,.inl rfl,k2 _ _ z2,⟨_,_,k2 _ _ z3⟩,z4.at' λo m=>k2 _ o m,z5.at' λo m=>k2 _ o m⟩,λb hb=>?_,q⟩
 ·simp only[bH,dJ,or_false] at hb;rcases hb with y|y|y|y|y<;>(have y:(_:Nat)=_:=y;lia)
 ·have ou:s1.heap.objs.size<=b:=by grind
  exact I1.xy ou (I1.ck.fresh ou)
def UL(H:Hp)(xs ys:List V)(is:List Nat)(ts:List V):Prop:=aZ (λ(i:Nat)v=>∃t x y,v=V.ref t/\xs[i]?=av x/\ys[i]?=av y/\H t=av (.tup [.int (i:Int),x,y])) is ts
theorem UL.same(h:UL H xs ys is ts)(e:∀b zs,H b=av (.tup zs)->H' b=av (.tup zs)):UL H' xs ys is ts:=by
 induction h with
 |nil=>exact .nil
 |cons r _ ih =>
  obtain⟨t,x,y,h1,h2,h3,h4⟩:=r;exact .cons ⟨t,x,y,h1,h2,h3,e _ _ h4⟩ ih
theorem UL.snoc{i:Nat}(h:UL H xs ys is ts)(h2:xs[i]?=av x)(h3:ys[i]?=av y)(h4:H t=av (.tup [.int (i:Int),x,y])):UL H xs ys (is++[i]) (ts++[.ref t]):=by
 induction h with
 |nil=>exact .cons ⟨t,x,y,rfl,h2,h3,h4⟩ .nil
 |cons r _ ih=>exact .cons r ih
theorem d1f(hi:i<n)(hj:j<n)(hk:k<n):Wk (c_ n fr σ) ((((c_ n fr σ).set i (av v)).set j (av u)).set k (av x)):=by
 refine⟨by simp,λm w e=>?_⟩;have:¬m<n:=λhm=>by
  unfold c_ at e;rw[dH (by simp_all),gD] at e;split at e<;>cases e
 rw[dP (by lia),dP (by lia),dP (by lia)];exact e
theorem d2z{K}(h1:xt b1 K H1 l1 xs)(h2:xt b2 K H1 l2 ys)(hp:H1 p=bh)(hz:bx xs<sizeLine)q
  (step:∀i x y H(N:Bool->Hp->Prop),xs[i]?=av x->ys[i]?=av y->af H1 H->N (q i) H->tc ((((c_ 3 fr σ).set 0 (av (.int (i:Int)))).set 1 (av x)).set 2 (av y)) H N)
  (hd:∀ts H,af H1 H->H p=av (.lst ts)->UL H xs ys ((aW (min (bx xs) (bx ys))).filter q) ts->D H) :
  LF 3 fr (MW K 2 (JE (N7 0) (JE (MW K 2 (JE (N7 1) (JE (N7 2) PQ))) PQ))) tc (uh (Z2 (JB 0) (Z2 (JB 1) (Z2 (JB 2) yb)))) σ (Itz b1 b2 K l1 l2) H1 p D:=by
 refine⟨λi m ts H=>m=min (bx xs) (bx ys)-i/\i<=min (bx xs) (bx ys)/\af H1 H/\H p=av (.lst ts)/\UL H xs ys ((aW i).filter q) ts,⟨_,rfl,dM _,af.new hp _,ae,.nil⟩,?_⟩;rintro i m ts H ⟨rfl,hi,e,hH,ch⟩;by_cases fk:i<min (bx xs) (bx ys)
 ·have hx:xs[i]?=av xs[i]:=aS (by lia);have hy:ys[i]?=av ys[i]:=aS (by lia);refine .inr ⟨⟨xs,ys,_,_,e.CG h1,e.CG h2,hx,hy⟩,λu H' G9=>?_⟩;obtain⟨pp,_,_,⟨r,a,b,hr,rfl,rfl,yh⟩,hpp,rfl,rfl⟩:=G9;obtain⟨ha,hb⟩:=yh xs ys (e.CG h1) (e.CG h2);have s2:=af.new hpp (.tup [.int (i:Int),.ref r]);have MO:=(af.new hr (.tup [a,b])).trans s2;have tk:(aW (i+1)).filter q=(aW i).filter q++[i].filter q:=by rw[pE,wS]
  refine⟨pp,_,rfl,cq.of ae,rfl,_,_,rfl,_,_,rfl,r,_,rfl,cq.of (s2 _ _ ae),rfl,_,_,rfl,_,_,rfl,rfl,rfl,d1f (by decide) (by decide) (by decide),step i a b _ _ ha hb (e.trans MO) ?_⟩;have h3:=MO _ _ hH;have ch3:=ch.same λb zs k=>MO b _ k;cases hq:q i with
  |false =>
   rw[if_neg cX];refine⟨_,by lia,rfl,fk,e.trans MO,h3,?_⟩
   ·rw[tk];simpa[hq] using ch3
  |true =>
   rw[if_pos rfl];have ln:bx ts=bx ((aW i).filter q):=ch.length.symm;have l2':=oX q (aW i);rw[gZ] at l2';refine⟨.int (i:Int),?_,a,?_,b,?_,(by show 3<=sizeLine;decide),λt ht=>?_⟩
   ·rw[dP (by lia),dP (by lia),eK (by simp[c_])]
   ·rw[dP (by lia),eK (by simp[c_])]
   ·rw[eK (by simp[c_])]
   have s3:=af.new ht (.tup [.int (i:Int),a,b]);have h4:=s3 _ _ h3;refine⟨h4,by lia,_,by lia,rfl,fk,((e.trans MO).trans s3).write hp,ae,?_⟩
   ·rw[tk];have:=((ch3.same λb zs k=>s3 b _ k).snoc ha hb (ae));have fin:=this.same (H':=upd (upd (upd (upd H r (.tup [a,b])) pp (.tup [.int (i:Int),.ref r])) t (.tup [.int (i:Int),a,b])) p (.lst (ts++[.ref t]))) λc zs k=>by rw[j3 (J7 k h4 nofun)];exact k
    simpa[hq] using fin
 ·have:i=min (bx xs) (bx ys):=by lia
  subst this;refine .inl ⟨⟨xs,ys,e.CG h1,e.CG h2,by lia⟩,hd ts H e hH ch⟩
abbrev TJ:=St->Hp->(Hp->Prop)->Prop
def PJ(X:Cx)(es:List aR)(t:TJ):Prop :=
 ∀bz s(σ:St)H out Q,Inv X bz σ H s->out.length+2000*es.length<=100000->t σ H Q →
  wpAny (model X.prog X.w) X.A (joinParts out (evalEach es X.env)) (λu s'=>∃x tk H',u=jB x tk/\Inv X bz σ H' s'/\Q H') X.xe s
theorem b2S:PJ X [] λ_ H Q=>Q H:=by
 intro bz s σ H out Q I hl h;refine vL (rJ ⟨_,_,H,rfl,I.tok _,h⟩ ?_);rw[bE];simp at hl;lia
theorem NG(h:PJ X es t)(ha:a.length<=1000:=by decide):PJ X (.Constant (.str a) j p1::es) t:=by
 intro bz s σ H out Q I hl ht;refine oM (kP (D7 (l9 bz s σ H (λv H'=>v=.str a/\H'=H) I ⟨rfl,rfl⟩) λu s1 ⟨v,H1,I1,r,hv,hH⟩=>?_));subst hv;subst hH;obtain⟨tk,rfl⟩:=r;simp only[eM] at hl;have e0:(out++a).length=out.length+a.length:=kQ ..;exact⟨by rw[e0,bE];lia,h bz s1 σ H1 (out++a) Q I1 (by lia) ht⟩
theorem UJ(he:PE X e te)(h:PJ X es t):PJ X (.FormattedValue e (-1) bh p2::es) λσ H Q=>te σ H λv H1=>∃i,v=.int i/\i.natAbs.log2<1920/\t σ H1 Q:=by
 intro bz s σ H out Q I hl ht;refine oM (kP (oG (D7 (he bz s σ H _ I ht) λu s2 ⟨v,H2,I2,r,i,hv,hi,q⟩=>?_)));subst hv;obtain⟨Nw,rfl⟩:=r;refine oH hi ?_;simp only[eM] at hl;have h1:=oJ (a:=i) (k:=1920) (by decide) hi;have e0:(out++cN (toString i)).length=out.length+(toString i).length:=by rw[kQ,oK]
 exact⟨by rw[e0,bE];lia,h bz _ σ H2 _ Q (I2.tok _) (by lia) q⟩
def tFg(t:TJ):TE:=λσ H Q=>t σ H λH1=>∀x,Q (.str x) H1
theorem a7G(h:PJ X (v1::v2::es) t)(hl:es.length<=20:=by decide):PE X (.JoinedStr (v1::v2::es) p3) (tFg t):=by
 intro bz s σ H Q I ht;refine rH (D7 (h bz s σ H eI _ I ?_ ht) λu s' ⟨x,tk,H',e1,I',q⟩=>?_)
 ·show 0+2000*(es.length+1+1)<=100000;lia
 ·subst e1;exact⟨.str x,H',I',⟨_,rfl⟩,q x⟩
end L2
namespace L2
open PySem
theorem d2n K(h:X.K=K)(hr:b_ k X.A):gw X (compareOp .NotEq) (Pn K):=by subst h;exact JU hr
end L2
namespace de
open PySem L2 Fr
theorem Wc:∀{l}{l':List β}{i:Nat}{a},bR F l l'->l[i]?=av a->∃b,l'[i]?=av b/\F a b
 |_,_,_,_,.nil,e=>by simp at e
 |_,_,0,_,.cons r _,e=>by simp at e;subst e;exact⟨_,rfl,r⟩
 |_,_,i+1,x,.cons _ t,e=>by
  obtain⟨b,h1,h2⟩:=Wc t (by simpa using e);exact⟨b,by simpa using h1,h2⟩
def XH(l:Int)(ns:List Int):Prop:=∀x∈ns,l<=x/\x<=1000000000
def ef(h:i8)(m n:Int):Prop:=((bx h.1:Int)=m/\XH 1 h.1)/\((bx h.2:Int)=n/\XH 0 h.2)/\∃x∈h.2,0<x
def OV(h:i8):Prop:=bx h.1<=1000/\bx h.2<=1000
theorem ef.hg{kt kg:Nat}(g:ef h kt kg):HG (10^9) kt kg h:=⟨by have:=g.1.1;lia,by have:=g.2.1.1;lia,λx hx=>⟨(g.1.2 x hx).1,(g.1.2 x hx).2⟩,λx hx=>⟨(g.2.1.2 x hx).1,(g.2.1.2 x hx).2⟩,g.2.2⟩
theorem a4m:K6 X (.builtin "isinstance") (λvs H Q=>∃a xs n b,vs=[.ref a,.ty n]/\cq X.K H a xs/\bU X.K (.type "tuple") (.type n)=av b/\Q (.bl b) H):=by
 intro bz s σ H vs us Q I r h;obtain⟨a,xs,n,b,rfl,hs,e,q⟩:=h;obtain⟨u,v,rfl,ru,rv⟩:=Lw r;cases rv;cases (show u=cZ a from ru);have hx:∃o,s.heap.get? a=av o/\o.cls=.type "tuple":=by
  rcases hs with hs|⟨o,cx,n,h1,h2,_⟩
  ·obtain⟨_,_,_,p⟩:=(show dh H s.heap a (.tup xs) from hs.ok I.ck);obtain⟨o,h1,h2,_⟩:=p;exact⟨o,h1,h2⟩
  ·exact⟨o,I.ix a o h1,h2⟩
 exact fX tI I.ix hx e (λz=>nomatch z) λtk=>⟨.bl b,H,I.tok _,rfl,q⟩
inductive Wd(vs:List V)(H:Hp)(Q:VK)(dj:XK):Prop|mk:∀i,vs=[.int i]->Q (.bl true) H->Wd vs H Q dj
def b6Y:p7 ["thing"] ["thing"] (i9 VP):={}
theorem b5H(F:Aj K "is_whole" VP f fd)(T:v8 mg):bf P w K mg base J8 (n+1) f fd ["thing"] Wd:=by
 refine F.oa b6Y λay A outer s H vs Q E hr h=>?_;obtain⟨i,rfl,q⟩:=h;refine⟨_,j4 (o4 (b1G (j7 Uz rfl T.En gB (c6 (pv 0) (c6 (Ln (v:=.ty "int") rfl T.int lJ rfl) c7)))
  (b1I (b6x (j7 Uz rfl T.En gB (c6 (pv 0) (c6 (Ln (v:=.ty "bool") rfl T.bool An rfl) c7))))))),?_⟩
 exact⟨_,rfl,_,_,"int",true,rfl,.int i,U5 _,_,rfl,J3 ⟨_,rfl,_,_,"bool",false,rfl,.int i,a5G,_,rfl,q⟩⟩
inductive We(K:aF)(vs:List V)(H:Hp)(Q:VK)(dj:XK):Prop|mk:∀a ns m l,vs=[.ref a,.int m,.int l]->cq K H a (ns.map V.int)->bx ns<=1000->(∀b H',af H H'->(b=true ↔ ((bx ns:Int)=m/\XH l ns))->Q (.bl b) H')->We K vs H Q dj
def b7f:p7 ["thing","many","least"] ["thing","many","least"] (i9 Z9):={}
theorem b6O:(["amount","least"]:List aC).Nodup:=by decide
theorem b3s{N:VK}(h:N (.bl b) H)(e:b'=b):N (.bl b') H:=by simp_all
theorem b4J(F:Aj K "are_amounts" Z9 f fd)(T:v8 mg)(C:∃t,mg "MOST_AMOUNT"=av (.int 1000000000 t))(G:CZ P w K mg base n "is_whole" ["thing"] Wd g gd):bf P w K mg base J8 (n+1) f fd ["thing","many","least"] (We K):=by
 refine F.oa b7f λay A outer s H vs Q E hr h=>?_;obtain⟨a,ns,m,l,rfl,hS,hz,q⟩:=h;obtain⟨tm,Bh⟩:=C;refine⟨_,j0 (w6 (PW.pt (U0 (S6 (X6 (j7 a4m rfl T.En gB (c6 (pv 0) (c6 (Ln (v:=.ty "tuple") rfl T.tuple hU rfl) c7))))) (R9 (l5 Ei (j7 j6 rfl T.len bB (c6 (pv 0) c7)) (pv 1) (r9 _))))) (j4 (o4 JC)) r8)
  (j4 (o4 (j7 (a7g rfl) rfl T.all xV (c6
   (N6 ["amount"] [2] rfl (IE (pv 0)) (λ_ _ _ _=>j9 (i:=0) b6O rfl (aI rfl))
    (λ_ _ _ _=>b1G (G.c hr (c6 (pv 0) c7)) (b1I (b1L EJ EJ (pv 1) (pv 0) (C4 (v:=.int 1000000000) rfl Bh ⟨_,rfl⟩))))) c7)))),?_⟩
 refine⟨_,rfl,a,_,"tuple",true,rfl,hS,U5 _,_,rfl,M7 ⟨_,rfl,a,_,rfl,.inr hS,_,rfl,rfl,_,rfl,y6 (λc=>?_) (λc=>?_)⟩⟩
 ·refine q _ _ (af.refl _) ?_;have c':¬(bx ns:Int)=m:=λh=>by simp[h] at c
  simp[c']
 ·have c':(bx ns:Int)=m:=by simpa using c
  refine⟨_,rfl,a,rfl,⟨_,hS⟩,λp hp=>(O9 (U3 hS) hp (by rw[aH _];exact t9 hz) (λx=>.bl (decide (l<=vI x/\vI x<=1000000000))) (λi x H' N hx e hN=>?_) ?_)⟩
  ·obtain⟨k,rfl⟩:=T0 hx;refine⟨Wk.set (by decide),_,rfl,k,rfl,_,rfl,J3 ⟨_,rfl,_,rfl,_,_,rfl,rfl,_,rfl,y6 (λc=>?_) (λc=>?_)⟩⟩
   ·exact⟨_,_,rfl,rfl,b3s hN (by simp[vI,of_decide_eq_true c])⟩
   ·exact b3s hN (by simp[vI,of_decide_eq_false (eN.mpr c)])
  ·refine⟨p,ns.map (λi=>decide (l<=i/\i<=1000000000)),rfl,.inl (ah.of (by rw[ae,bC,bC];rfl)),q _ _ (af.new hp _) ?_⟩;rw[List.all_map,fE];constructor
   ·intro z;exact⟨c',λx hx=>by simpa using z x hx⟩
   ·intro z x hx;simpa using z.2 x hx
inductive RO(K:aF)(vs:List V)(H:Hp)(Q:VK)(dj:XK):Prop|mk:∀v h m n,vs=[v,.int m,.int n]->HS K H v h->OV h->(∀b H',af H H'->(b=true ↔ ef h m n)->Q (.bl b) H')->RO K vs H Q dj
def AG:p7 ["thing","many_takes","many_gives","takes","gives"] ["thing","many_takes","many_gives"] (i9 VQ):={}
theorem b7j:(["give"]:List aC).Nodup:=by simp
theorem b4A(F:Aj K "is_house" VQ f fd)(T:v8 mg)(G:CZ P w K mg base n "are_amounts" ["thing","many","least"] (We K) g gd) :
  bf P w K mg base J8 (n+1) f fd ["thing","many_takes","many_gives"] (RO K):=by
 refine F.oa AG λay A outer s H vs Q E hr h=>?_;obtain⟨v,h,m,l,rfl,⟨a,t,gv,rfl,h0,h1,h2⟩,⟨hz1,RP⟩,q⟩:=h;refine⟨_,j0 (w6 (PW.pt (U0 (S6 (X6 (j7 a4m rfl T.En gB (c6 (pv 0) (c6 (Ln (v:=.ty "tuple") rfl T.tuple hU rfl) c7))))) (R9 (l5 Ei (j7 j6 rfl T.len bB (c6 (pv 0) c7)) d0 (r9 _))))) (j4 (o4 JC)) r8)
  (j0 (D3 (pv 0) (K4 rfl (p6 (j9 (i:=3) AG.nd rfl (aI rfl)) (p6 (j9 (i:=4) AG.nd rfl (aI rfl)) A4))))
  (j0 (w6 (S6 (PW.pt (Gv (X6 (G.c hr (c6 (pv 3) (c6 (pv 1) (c6 d0 c7))))) (T4 (X6 (G.c hr (c6 (pv 4) (c6 (pv 2) (c6 d0 c7)))))))))
   (j4 (o4 JC)) r8)
  (j4 (o4 (j7 (a7F rfl) rfl T.any xN (c6 (N6 ["give"] [] rfl (IE (pv 4)) (λ_ _ _ _=>j9 (i:=0) b7j rfl (aI rfl)) (λ_ _ _ _=>Z3 Ej (pv 0) d0 (r9 _))) c7)))))),?_⟩
 refine⟨_,rfl,a,_,"tuple",true,rfl,h0,U5 _,_,rfl,M7 ⟨_,rfl,a,_,rfl,.inr h0,rfl,_,rfl,b8R rfl ⟨_,rfl,a,_,rfl,h0,rfl,_,_,rfl,_,_,rfl,rfl,_,rfl,_,rfl,t,h.1,m,1,rfl,h1,hz1,λb1 H1 e1 i1=>⟨_,rfl,y6 (λc1=>?_) (λc1=>?_)⟩⟩⟩⟩
 ·refine⟨_,rfl,_,rfl,gv,h.2,l,0,rfl,e1.cm h2,RP,λb2 H2 e2 i2=>⟨_,rfl,y6 (λc2=>?_) (λc2=>?_)⟩⟩
  ·refine q _ _ (e1.trans e2) ?_;have:¬b2=true:=by simpa using c2
   constructor
   ·intro z;cases z
   ·intro z;exact absurd (i2.mpr z.2.1) this
  ·have Mw:b2=true:=by simpa using c2
   have Oy:=e1.trans e2;refine⟨_,rfl,gv,rfl,⟨_,Oy.cm h2⟩,λp hp=>(O9 (U3 (Oy.cm h2)) hp (by rw[aH _];exact t9 RP) (λx=>.bl (decide (0<vI x))) (λi x H' N hx e hN=>?_) ?_)⟩
   ·obtain⟨k,rfl⟩:=T0 hx;exact⟨Wk.set (by decide),_,rfl,_,_,rfl,rfl,hN⟩
   ·refine⟨p,h.2.map (λi=>decide (0<i)),rfl,.inl (ah.of (by rw[ae,bC,bC];rfl)),q _ _ (Oy.trans (af.new hp _)) ?_⟩;rw[lN,mK];constructor
    ·rintro⟨x,hx,z⟩;exact⟨i1.mp c1,i2.mp Mw,x,hx,by simpa using z⟩
    ·rintro⟨_,_,x,hx,z⟩;exact⟨x,hx,by simpa using z⟩
 ·refine J3 (q _ _ e1 ?_);constructor
  ·intro z;cases z
  ·intro z;exact absurd (i1.mpr z.1) c1
inductive Wg(K:aF)(CB:aA)(vs:List V)(H:Hp)(Q:VK)(E:XK):Prop|mk:∀v h m n,vs=[v,.int m,.int n]->HS K H v h->OV h->m.natAbs.log2<1920->n.natAbs.log2<1920->(ef h m n->∀H',af H H'->Q .non H')->(¬ef h m n->∀H',af H H'->E (.ref CB) bh H')->Wg K CB vs H Q E
def b1j:p7 ["thing","many_takes","many_gives"] ["thing","many_takes","many_gives"] (i9 X7):={}
theorem b0s{g:aA}{gd:aK}(F:Aj K "refuse_unfit" X7 f fd)(kB:X4 K CB)(mB:mg "NoBook"=av (.ref CB))(G:CZ P w K mg base n "is_house" ["thing","many_takes","many_gives"] (RO K) g gd) :
  bf P w K mg base (W2 P w) (n+1) f fd ["thing","many_takes","many_gives"] (Wg K CB):=by
 refine F.ob b1j λay A outer s H vs Q E hr h=>?_;obtain⟨v,h,m,l,rfl,hH,hz,hm,hl,q,hE⟩:=h;refine⟨_,j4 (w6 (S6 (X6 (G.c hr (c6 (pv 0) (c6 (pv 1) (c6 (pv 2) c7)))))) (j4 (T7 kB rfl mB hr.hd (c6 (a7G (NG (UJ (pv 1) (NG (UJ (pv 2) (NG b2S)))))) c7))) r8),?_⟩;refine⟨_,rfl,_,rfl,_,rfl,v,h,m,l,rfl,hH,hz,λb H1 e1 i1=>⟨_,rfl,?_⟩⟩;cases b with
 |true=>exact M7 (q (i1.mp rfl) H1 e1)
 |false =>
  refine J3 ?_;exact⟨_,rfl,m,rfl,hm,_,rfl,l,rfl,hl,λx=>⟨(by show 1<=1000;decide),hE (λz=>by have:=i1.mpr z;cases this) H1 e1⟩⟩
inductive Wz(K:aF)(CB CT:aA)(vs:List V)(H:Hp)(Q:VK)(E:XK):Prop|mk:∀l v xs h m n,vs=[.ref l,v,.int m,.int n]->H l=av (.lst xs)->bx xs<=1000->HS K H v h->OV h->m.natAbs.log2<1920->n.natAbs.log2<1920->(ef h m n->bx xs<16->∀r H',af H H'->H r=bh->H' r=av (.lst (xs++[v]))->Q (.ref r) H')->(¬ef h m n->∀H',af H H'->E (.ref CB) bh H')->(ef h m n->16<=bx xs->∀H',af H H'->E (.ref CT) bh H')->Wz K CB CT vs H Q E
def b1c:p7 ["houses","house","many_takes","many_gives"] ["houses","house","many_takes","many_gives"] (i9 V0):={}
theorem a8p(F:Aj K "with_one_more" V0 f fd)(T:v8 mg)(kT:X4 K CT)(mT:mg "TooMany"=av (.ref CT))(C:∃t,mg "MOST_HOUSES"=av (.int 16 t))
  (G:vn P w K mg base n "refuse_unfit" ["thing","many_takes","many_gives"] (Wg K CB) g gd):bf P w K mg base (W2 P w) (n+1) f fd ["houses","house","many_takes","many_gives"] (Wz K CB CT):=by
 refine F.ob b1c λay A outer s H vs Q E hr h=>?_;obtain⟨l,v,xs,h,m,k,rfl,hl,hz,hH,hs,hm,hk,q,hB,hT⟩:=h;obtain⟨tm,hmh⟩:=C;refine⟨_,j0 (R3 (l7 G.ok hr rfl G.m G.k G.b .nil V5 (c6 (pv 1) (c6 (pv 2) (c6 (pv 3) c7)))))
  (j0 (w6 (l5 Qb (j7 j6 rfl T.len bB (c6 (pv 0) c7)) (C4 (v:=.int 16) rfl hmh ⟨_,rfl⟩) (r9 _)) (j4 (T7 kT rfl mT hr.hd (c6 (a7G (NG (UJ (C4 (v:=.int 16) rfl hmh ⟨_,rfl⟩) (NG b2S)))) c7))) r8)
  (fu.oi (j4 (o4 (j8 B9 (pv 0) (v9 (c6 (pv 1) c7))))))),?_⟩
 refine⟨_,rfl,_,rfl,_,rfl,v,h,m,k,rfl,hH,hs,hm,hk,λg1 H1 e1=>⟨_,rfl,l,xs,rfl,.inl (ah.of (e1 _ _ hl)),_,_,rfl,rfl,_,rfl,y6 (λc=>?_) (λc=>?_)⟩,hB⟩
 ·have c':16<=bx xs:=by have:=of_decide_eq_true c;lia
  exact⟨16,rfl,by decide,λx=>⟨(by show 1<=1000;decide),hT g1 c' H1 e1⟩⟩
 ·have c':bx xs<16:=by have:=of_decide_eq_false (eN.mpr c);lia
  refine⟨_,rfl,_,rfl,(by show 1<=sizeLine;decide),λb1 Kk=>?_⟩;have s2:=af.new Kk (.lst [v]);refine⟨l,b1,_,_,rfl,rfl,s2 _ _ (e1 _ _ hl),ae,?_,λp hp=>?_⟩
  ·have:=t9 (show(1000:Nat)<=1000 from aT _);simp;lia
  exact q g1 c' p _ (e1.trans (s2.trans (af.new hp (.lst (xs++[v]))))) ((e1.trans s2).free hp) ae
def d2x:p7 ["ahead","behind"] ["ahead","behind"] (i9 RZ):={}
theorem W5:(["number","was","now"]:List aC).Nodup:=by decide
abbrev ky(K:aF)(H:Hp):List V->List Q2->Prop:=bR λv q=>Xc K H v q
def chI(ps qs:List Q2):List Nat:=(aW (min (bx ps) (bx qs))).filter λi=>decide (ps.getD i (0,0)≠qs.getD i (0,0))
inductive W8(K:aF)(vs:List V)(H:Hp)(Q:VK)(dj:XK):Prop|mk:∀l1 l2 xs ys ps qs,vs=[.ref l1,.ref l2]->ah K H l1 xs->ah K H l2 ys->ky K H xs ps->ky K H ys qs->bx xs<=1000->(∀l ts H',af H H'->H l=bh->H' l=av (.lst ts)->UL H' xs ys (chI ps qs) ts->Q (.ref l) H')->W8 K vs H Q dj
theorem d2w x y:cK (dF x) (dF y)=decide (x=y):=by
 unfold dF;rw[cK,hV,hV,hV,cK,cK,Rw];obtain⟨a,b⟩:=x;obtain⟨c,d⟩:=y;by_cases h1:a=c
 ·by_cases h2:b=d
  ·subst h1 h2;simp
  ·simp[h2]
 ·simp[h1]
theorem c9b(F:Aj K "changes" RZ f fd)(T:v8 mg):bf P w K mg base J8 (n+1) f fd ["ahead","behind"] (W8 K):=by
 refine F.oa d2x λay A outer s H vs Q E hr h=>?_;obtain⟨l1,l2,xs,ys,ps,qs,rfl,h1,h2,f1,f2,hz,q⟩:=h;refine⟨_,j4 (o4 (zI ["number","was","now"] [] rfl (d2G true true K rfl rfl T.enum rfl T.zip (c6 (pv 0) (c6 (pv 1) c7)))
   (λ_ _ _ _=>IX K (n:=2) rfl rfl (p6 (j9 (i:=0) W5 rfl (aI rfl)) (p6 (IX K (n:=2) rfl rfl (p6 (j9 (i:=1) W5 rfl (aI rfl)) (p6 (j9 (i:=2) W5 rfl (aI rfl)) A4))) A4)))
   (λ_ _ _ _=>l5 (d2n K rfl hr) (pv 1) (pv 2) (r9 _)) λ_ _ _ _=>A9 (c6 (pv 0) (c6 (pv 1) (c6 (pv 2) c7))))),?_⟩
 refine⟨_,rfl,_,rfl,l1,l2,rfl,⟨_,h1⟩,⟨_,h2⟩,λp hp=>(d2z (b1:=true) (b2:=true) h1 h2 hp (t9 hz) (λi=>decide (ps.getD i (0,0)≠qs.getD i (0,0))) (λi x y H' N hx hy e hN=>?_) (λts H' e dy ch=>?_))⟩
 ·obtain⟨pq,e1,r1⟩:=Wc f1 hx;obtain⟨qq,e2,r2⟩:=Wc f2 hy;have g1:ps.getD i (0,0)=pq:=by rw[bA,e1];rfl
  have g2:qs.getD i (0,0)=qq:=by rw[bA,e2];rfl
  rw[g1,g2] at hN;refine⟨_,rfl,_,rfl,dF pq,dF qq,Xc.dp (Xc.same e r1),Xc.dp (Xc.same e r2),yB _,yB _,bF (sF _ _) (d0D _),_,rfl,?_⟩;rw[d2w];have:(!decide (pq=qq))=decide (pq≠qq):=by simp
  rw[this];exact hN
 ·rw[f1.length,f2.length] at ch;exact q p ts H' e hp dy ch
end de
namespace L2
open PySem PySem.Spec PyProof.Rows
end L2
namespace de
open PySem L2 Fr
end de
namespace L2
open PySem
def Sl(o:Option HO):Prop:=∀u,o=av u->(∀zs,u≠.tup zs)/\∀a b,u≠.Bw a b
structure zp(X:aA->Prop)(H H':Hp):Prop where
 k:∀b o,¬X b->H b=av o->H' b=av o
 m:∀x,X x->Sl (H x)
def zp.tup(e:zp X H H')(h:H a=av (.tup xs)):H' a=av (.tup xs):=e.k a _ (λx=>(e.m a x _ h).1 xs rfl) h
theorem zp.KD(e:zp X H H')(h:cq K H a xs):cq K H' a xs:=by
 rcases h with(h|⟨o,h⟩)|h
 ·exact .inl (.inl (e.tup h))
 ·exact .inl (.inr ⟨o,e.k a _ (λx=>(e.m a x _ h).2 _ _ rfl) h⟩)
 ·exact .inr h
theorem S3(h:o=av (.lst xs)):Sl o:=λu e=>by
 rw[h] at e;obtain rfl:=bD e;exact⟨λzs z=>HO.noConfusion z,λa b z=>HO.noConfusion z⟩
theorem Sn(h:o=av (.ins C dx fs)):Sl o:=λu e=>by
 rw[h] at e;obtain rfl:=bD e;exact⟨λzs z=>HO.noConfusion z,λa b z=>HO.noConfusion z⟩
theorem Pd(T:cu P pos qual H):Sl (H P):=λu e=>by
 rcases T with t|⟨c,t,_⟩<;>(rw[t] at e;obtain rfl:=bD e;exact⟨λzs z=>HO.noConfusion z,λa b z=>HO.noConfusion z⟩)
end L2
namespace de
open PySem L2 Fr
theorem HS.jw(e:zp X H H')(x:HS K H v h):HS K H' v h:=by
 obtain⟨a,t,g,h0,h1,h2,h3⟩:=x;exact⟨a,t,g,h0,e.KD h1,e.KD h2,e.KD h3⟩
def Bk.jw(e:zp X H H')(x:Bk K H vs hs):Bk K H' vs hs:=aZ.imp' (λ_ _ r=>HS.jw e r) x
theorem Ex.jw{v}(e:zp X H H')(x:Ex H v q):Ex H' v q:=by
 obtain⟨a,rfl,h⟩:=x;exact⟨a,rfl,e.tup h⟩
abbrev Xa(kt kg:Nat)(z:aC)(ta wa pa:aA):List (aC×V):=[("many_takes",.int (kt:Int)),("many_gives",.int (kg:Int)),("sizes",.str z),("there",.ref ta),("worth",.ref wa),("past",.ref pa)]
structure TK(K:aF)(C:aA):Prop where
 cl:z_ K C
 nT:dg K C "many_takes"
 nG:dg K C "many_gives"
 nS:dg K C "sizes"
 nH:dg K C "there"
 nW:dg K C "worth"
 nP:dg K C "past"
abbrev So:=List i8×List Q2
def Bj(K:aF)(H:Hp)(lo:List aA)(ta wa:aA)(L:So):Prop:=ta∈lo/\wa∈lo/\(∃xs,H ta=av (.lst xs)/\Bk K H xs L.1)/\∃ys,H wa=av (.lst ys)/\bR (Ex H) ys L.2
def HF(K:aF)(H:Hp)(lo:List aA):List V->List So->Prop:=bR λv L=>∃t ta wa,v=.ref t/\H t=av (.tup [.ref ta,.ref wa])/\Bj K H lo ta wa L
structure h8(K:aF)(C:aA)(H:Hp)(p:aA)(kt kg:Nat)(z:aC)(L:So)(past:List So)(pa:aA)(lo:List aA):Prop where
 no:pa ∉ lo
 ls:∀b∈lo,∃xs,H b=av (.lst xs)
 ex:∃dx ta wa pv,H p=av (.ins C dx (Xa kt kg z ta wa pa))/\Bj K H lo ta wa L/\H pa=av (.lst pv)/\HF K H lo pv past
theorem Bj.jw(e:zp X H H')(n:∀b∈lo,¬X b)(s:∀b∈lo,b∈gu)(h:Bj K H lo ta wa L):Bj K H' gu ta wa L:=by
 obtain⟨h1,h2,⟨xs,h3,h4⟩,ys,h5,h6⟩:=h;exact⟨s _ h1,s _ h2,⟨xs,e.k _ _ (n _ h1) h3,h4.jw e⟩,ys,e.k _ _ (n _ h2) h5,aZ.imp' (λ_ _ r=>Ex.jw e r) h6⟩
def HF.jw{pv}(e:zp X H H')(n:∀b∈lo,¬X b)(s:∀b∈lo,b∈gu)(h:HF K H lo pv past):HF K H' gu pv past :=
 aZ.imp' (λ_ _ ⟨t,ta,wa,h1,h2,h3⟩=>⟨t,ta,wa,h1,e.tup h2,h3.jw e n s⟩) h
theorem h8.jw(e:zp X H H')(n:∀b∈lo,¬X b)(np:¬X p)(na:¬X pa)(h:h8 K C H p kt kg z L past pa lo):h8 K C H' p kt kg z L past pa lo:=by
 obtain⟨dx,ta,wa,pv,h1,h2,h3,h4⟩:=h.ex;exact⟨h.no,λb hb=>by obtain⟨xs,q⟩:=h.ls b hb;exact⟨xs,e.k _ _ (n b hb) q⟩,dx,ta,wa,pv,e.k _ _ np h1,h2.jw e n λ_ h=>h,e.k _ _ na h3,h4.jw e n λ_ h=>h⟩
def h8.same(e:af H H')(h:h8 K C H p kt kg z L past pa lo):h8 K C H' p kt kg z L past pa lo :=
 h.jw ⟨λb o _ q=>e b o q,λ_ x=>x.elim⟩ (λ_ _ x=>x) (λx=>x) λx=>x
def Bl(z:aC)(hs:List i8)(kt kg:Nat)(qs:List Q2):Prop:=bx qs=bx hs/\∀(i:Nat)h q,hs[i]?=av h->qs[i]?=av q->∃A B,ku z hs h kt kg A B/\q=low A B
section
variable{P:aM}{w:aL}{K:aF}{mg:aC->Option aE}{base:aJ}{f C CN CB CT CL Pt:aA}{fd:aK}{n:Nat}
inductive HQ(K:aF)(C:aA)(vs:List V)(H:Hp)(Q:VK)(dj:XK):Prop|mk:∀(p dx:aA)(kt kg:Nat)(z:aC),vs=[.ref p,.int (kt:Int),.int (kg:Int),.str z]->H p=av (.ins C dx [])->(∀H' pa lo,h8 K C H' p kt kg z ([],[]) [] pa lo->(∀b o,b≠p->H b=av o->H' b=av o)->H pa=bh->(∀b∈lo,H b=bh)->Q .non H')->HQ K C vs H Q dj
def d1g:p7 ["self","takes","gives","sizes"] ["self","takes","gives","sizes"] (i9 D0):={}
theorem d0y(F:df K "__init__" "Kept.__init__" D0 f fd)(T:TK K C):bf P w K mg base J8 (n+1) f fd ["self","takes","gives","sizes"] (HQ K C):=by
 refine F.oa d1g λay A outer s H vs Q E hr h=>?_;obtain⟨p,dx,kt,kg,z,rfl,hp,q⟩:=h;refine⟨_,j0 (GA (pv 0) (pv 1) rfl) (j0 (GA (pv 0) (pv 2) rfl) (j0 (GA (pv 0) (pv 3) rfl) (j0 (GA (pv 0) (v9 c7) rfl) (j0 (GA (pv 0) (v9 c7) rfl) (j4 (GA (pv 0) (v9 c7) rfl)))))),_,rfl,_,rfl,p,C,dx,_,rfl,hp,T.cl,T.nT,by decide,_,rfl,_,rfl,p,C,dx,_,rfl,ae,T.cl,T.nG,(by show 1<1000;decide),?_⟩;rw[Ju];refine⟨_,rfl,_,rfl,p,C,dx,_,rfl,ae,T.cl,T.nS,(by show 2<1000;decide),?_⟩;rw[Ju];refine⟨by decide,λta GO=>?_⟩;have n1:=i7 ae GO;refine⟨_,rfl,p,C,dx,_,rfl,by rw[j3 n1];exact ae,T.cl,T.nH,(by show 3<1000;decide),by decide,λwa i4=>?_⟩;have n2:p≠wa:=i7 ae i4;refine⟨_,rfl,p,C,dx,_,rfl,by rw[j3 n2];exact ae,T.cl,T.nW,(by show 4<1000;decide),by simp,λpa jt=>?_⟩;have n3:p≠pa:=i7 ae jt;refine⟨_,rfl,p,C,dx,_,rfl,by rw[j3 n3];exact ae,T.cl,T.nP,(by show 5<1000;decide),?_⟩;have w1:wa≠ta:=λz0=>by
  subst z0;rw[j3 n2.symm,ae] at i4;cases i4
 have w2:pa≠wa:=λz0=>by
  subst z0;rw[j3 n3.symm,ae] at jt;cases jt
 have w3:pa≠ta:=λz0=>by
  subst z0;rw[j3 n3.symm,j3 w1.symm,j3 n3.symm,ae] at jt;cases jt
 have f1:H ta=bh:=by rw[j3 n1.symm] at GO;exact GO
 have f2:H wa=bh:=by rw[j3 n2.symm,j3 w1,j3 n2.symm] at i4;exact i4
 have f3:H pa=bh:=by rw[j3 n3.symm,j3 w2,j3 n3.symm,j3 w3,j3 n3.symm] at jt;exact jt
 refine q _ pa [ta,wa] ⟨?_,λb hb=>?_,dx,ta,wa,[],ae,⟨.head _,.tail _ (.head _),⟨[],?_,.nil⟩,[],?_,.nil⟩,?_,.nil⟩ (λb o hb e=>?_) f3 λb hb=>?_
 ·intro hb;rcases bH.mp hb with z0|hb
  ·exact w3 z0
  ·exact w2 (cJ.mp hb)
 ·rcases bH.mp hb with rfl|hb
  ·exact⟨[],by rw[j3 n1.symm,j3 w3.symm,j3 n1.symm,j3 w1.symm,j3 n1.symm,ae]⟩
  ·rw[cJ.mp hb];exact⟨[],by rw[j3 n2.symm,j3 w2.symm,j3 n2.symm,ae]⟩
 ·rw[j3 n1.symm,j3 w3.symm,j3 n1.symm,j3 w1.symm,j3 n1.symm,ae]
 ·rw[j3 n2.symm,j3 w2.symm,j3 n2.symm,ae]
 ·rw[j3 n3.symm,ae]
 ·rw[j3 hb,j3 (i7 e f3),j3 hb,j3 (i7 e f2),j3 hb,j3 (i7 e f1),j3 hb];exact e
 ·rcases bH.mp hb with rfl|hb
  ·exact f1
  ·rw[cJ.mp hb];exact f2
def Sq(Pt p pa:aA)(H H':Hp):Prop:=∀b o,b≠p->b≠Pt->b≠pa->H b=av o->H' b=av o
structure Xg(z:aC)(kt kg:Nat):Prop where
 z:O4 z
 t1:1<=kt
 t4:kt<=4
 g4:kg<=4
inductive Xk(K:aF)(C Pt:aA)(vs:List V)(H:Hp)(Q:VK)(dj:XK):Prop|mk:∀p ha pa kt kg z L past lo xs hs,vs=[.ref p,.ref ha]->h8 K C H p kt kg z L past pa lo->Xg z kt kg->H ha=av (.lst xs)->Bk K H xs hs->(∀g∈hs,HG (10^9) kt kg g)->bx hs<=16->ha≠pa->bx past<=1000->LT Pt H->(∀H' wa qs,h8 K C H' p kt kg z (hs,qs) (past++[L]) pa (ha::wa::lo)->Bl z hs kt kg qs->H wa=bh->Sq Pt p pa H H'->LT Pt H'->Q .non H')->Xk K C Pt vs H Q dj
def jj:p7 ["self","houses","worth"] ["self","houses"] (i9 b8):={}
theorem d1p:(["number","self","houses"]:List aC).Nodup:=by decide
def d2E{f1:aA}{d1:aK}(T:v8 mg)(Cs:vn P w K mg base n "share" ["book","number","sizes"] (OI K CN Pt) f1 d1)(hr:b_ n (A.deeper (cD "Kept.turn_to" (i9 b8) s.heap.objs.size f ay))) :
  {t:TS//fu (N8 J8 P w K mg base ["self","houses","worth"] "Kept.turn_to" (i9 b8) f ay A outer s H E).oi (x9 b8) t} :=
 ⟨_,t8 (CA (i:=2) ["number"] [0,1] jj.nd rfl rfl rfl (R8 rfl T.range (c6 (j7 j6 rfl T.len bB (c6 (pv 1) c7)) c7)) (λ_ _ _ _=>j9 (i:=0) d1p rfl (aI rfl))
   (λ_ _ _ _=>l7 (c8n Cs.ok) hr rfl Cs.m Cs.k Cs.b .nil RA (c6 (pv 2) (c6 (pv 0) (c6 (Vf K rfl (pv 1) rfl) c7)))))
  (j0 (R3 (K7 iK jW jX P2 (y4 (pv 0) rfl) (c6 (A9 (c6 (y4 (pv 0) rfl) (c6 (y4 (pv 0) rfl) c7))) c7)))
  (j0 (GA (pv 0) (pv 1) rfl)
  (j4 (GA (pv 0) (pv 2) rfl))))⟩
end
end de
namespace L2
open PySem
theorem cu.ne(T:cu P pos qual H)(h:H b=av o)(n:∀ps,o≠.my ps):b≠P:=λz=>by
 subst z;rcases T with t|⟨c,t,_⟩
 ·rw[h] at t;exact n _ (bD t)
 ·rw[h] at t;exact n _ (bD t)
theorem c9B(T:cu P pos qual H1)(hp:H1 p=bh)(hz:n<sizeLine)(R:Nat->V->Hp->Prop)
  (hR:∀i y H H',cu P pos qual H->(∃zs,H p=av (.lst zs))->R i y H->(∀b o,b≠p->b≠P->H b=av o->H' b=av o)->R i y H')
  (step:∀i H ys N,i<n->bj P H1 H->cu P pos qual H->H p=av (.lst ys)->(∀v H3,bj P H H3->cu P pos qual H3->R i v H3->N v H3)->te ((c_ 1 fr σ).set 0 (av (.int (i:Int)))) H N)
  (hd:∀ys H,bj P H1 H->cu P pos qual H->H p=av (.lst ys)->bx ys=n->(∀i y,ys[i]?=av y->R i y H)->D H):IJ 1 fr (N7 0) te σ (Hd 0 n) H1 p D:=by
 refine⟨λi m ys H=>m=n-i/\i<=n/\bj P H1 H/\cu P pos qual H/\H p=av (.lst ys)/\bx ys=i/\∀j y,ys[j]?=av y->R j y H,⟨n,by simp,dM _,(af.new hp _).ka,T.same (af.new hp _),ae,rfl,λj y e=>by simp at e⟩,?_⟩;rintro i m ys H ⟨rfl,hi,e,L,hH,len,pr⟩;by_cases fk:i<n
 ·refine .inr ⟨fk,λx H' y=>?_⟩;obtain⟨rfl,rfl⟩:=y;rw[lH];refine⟨Wk.set (by decide),step i _ _ _ fk e L hH λv H3 e3 L3 r3=>?_⟩;have h3:=e3.get L hH nofun;refine⟨h3,by lia,n-(i+1),by lia,rfl,fk,(e.trans e3).write hp,L3.write h3,ae,by rw[aX,len];rfl,λj y ey=>?_⟩;have up:∀b o,b≠p->b≠P->H3 b=av o->upd H3 p (.lst (ys++[v])) b=av o:=λb o hb _ q=>by rw[j3 hb];exact q
  by_cases hj:j<bx ys
  ·rw[dH hj] at ey;exact hR j y _ _ L ⟨_,hH⟩ (pr j y ey) λb o hb hP q=>up b o hb hP (e3 _ _ hP q)
  ·rw[dU (by lia)] at ey;have om:j-bx ys=0:=by
    cases q:j-bx ys with
    |zero=>rfl
    |succ k=>rw[q] at ey;simp at ey
   rw[om] at ey;have:j=i:=by lia
   subst this;simp at ey;subst ey;exact hR j v _ _ L3 ⟨_,h3⟩ r3 up
 ·have:i=n:=by lia
  subst this;exact .inl ⟨Nat.le_refl _,hd ys H e L hH len pr⟩
end L2
namespace de
open PySem L2 Fr
theorem d2j{R:Nat->Q2->Prop}:(∀i y,ys[i]?=av y->∃q,R i q/\Ex H y q)->∃qs,bR (Ex H) ys qs/\∀i q,qs[i]?=av q->R i q:=by
 induction ys generalizing R with
 |nil=>exact λ_=>⟨[],.nil,λi q e=>by simp at e⟩
 |cons y ys ih =>
  intro h;obtain⟨q,r,hq⟩:=h 0 y rfl;obtain⟨qs,p,k⟩:=ih λi z e=>h (i+1) z (by simp_all);refine⟨q::qs,.cons hq p,λi q' e=>?_⟩;cases i with
  |zero=>simp at e;subst e;exact r
  |succ i=>exact k i q' (by simp_all)
theorem d0i(F:df K "turn_to" "Kept.turn_to" b8 f fd)(T:v8 mg)(aw:TK K C)(Cs:vn P w K mg base n "share" ["book","number","sizes"] (OI K CN Pt) f1 d1) :
  bf P w K mg base J8 (n+1) f fd ["self","houses"] (Xk K C Pt):=by
 refine F.oa jj λay A outer s H vs Q E hr h=>?_;obtain⟨p,ha,pa,kt,kg,z,L,past,lo,xs,hs,rfl,gm,ft,yF,hB,hG,u_,Xl,wb,jk,q⟩:=h;refine⟨_,(d2E T Cs hr).2,?_⟩;obtain⟨dx,ta,wa,pv,hp,Xm,jt,Fj⟩:=gm.ex;have xl:=dE hB;have small:=t9 (show xs.length<=1000 by lia);refine⟨λau H'=>∃wl ys qs,au=[av (.ref p),av (.ref ha),av (.ref wl)]/\bj Pt H H'/\LT Pt H'/\H wl=bh/\H' wl=av (.lst ys)/\bR (Ex H') ys qs/\Bl z hs kt kg qs,?_,?_⟩
 ·refine⟨_,rfl,ha,_,rfl,.inl (ah.of yF),_,rfl,by lia,by lia,λwl XZ=>(c9B jk XZ small (λi y H'=>∃q h A B,(hs[i]?=av h/\ku z hs h kt kg A B/\q=low A B)/\Ex H' y q) (λi y H1 H2 L1 hz r k=>?_) (λi H1 ys N' hi e1 L1 Fm hN=>?_) λys H1 e1 L1 Fm len pr=>?_)⟩
  ·obtain⟨zs,Wy⟩:=hz;obtain⟨q,h,A,B,x,a,rfl,r⟩:=r;exact⟨q,h,A,B,x,a,rfl,k _ _ (J7 r Wy nofun) (L1.ne r nofun) r⟩
  ·have bin:O6 K H1 ha xs hs (10^9) kt kg:=⟨ah.of (e1.get jk yF nofun),Bk.fg jk e1 hB,hG,by decide,u_,by have:=ft.t4;lia,by have:=ft.g4;lia⟩;refine⟨_,rfl,_,rfl,_,rfl,p,C,dx,_,_,rfl,e1.get jk hp nofun,aw.cl,aw.nS,rfl,ha,xs,hs,(i:Int),z,10^9,kt,kg,rfl,ft.z,bin,ft.t1,vg (by lia),L1,λi' h' A' B' H7 u' Ek Kp Xn e7 su Bm=>?_,λbad=>absurd ⟨by lia,by lia⟩ bad⟩;have:i'=i:=by lia
   subst this;exact hN _ _ e7 su ⟨_,h',A',B',⟨Kp,Xn,rfl⟩,Bm⟩
  ·obtain⟨qs,pq,kq_⟩:=d2j (H:=H1) (ys:=ys) (R:=λi q=>∃h A B,hs[i]?=av h/\ku z hs h kt kg A B/\q=low A B) λi y e=>by
    obtain⟨q,h,A,B,x,r⟩:=pr i y e;exact⟨q,⟨h,A,B,x⟩,r⟩
   refine⟨wl,ys,qs,rfl,e1,L1,XZ,Fm,pq,by rw[<-pq.length,len,xl];simp,λi h q hh hq=>?_⟩;obtain⟨h',A,B,Kp,X,e⟩:=kq_ i q hq;rw[hh] at Kp;cases Kp;exact⟨A,B,X,e⟩
 intro Eg H1 cw;refine E8 λG_ cy=>?_;obtain⟨wl,ys,qs,rfl,e1,L1,XZ,qf,pq,SD⟩:=cw;subst cy;have g1:∀{b:aA}{o:HO},H b=av o->(∀ps,o≠.my ps)->H1 b=av o:=λh n=>e1.get jk h n;have Fm:=g1 hp nofun;have Fn:=g1 jt nofun;refine⟨_,rfl,p,C,dx,_,_,rfl,Fm,aw.cl,aw.nP,rfl,.inl ⟨rfl,_,ah.of Fn⟩,_,rfl,p,C,dx,_,_,rfl,Fm,aw.cl,aw.nH,rfl,_,rfl,p,C,dx,_,_,rfl,Fm,aw.cl,aw.nW,rfl,(by show 2<=sizeLine;decide),λt ht=>?_⟩;have s2:=af.new ht (.tup [V.ref ta,V.ref wa]);have lpv:pv.length=past.length:=Fj.length;refine⟨pa,_,_,rfl,rfl,s2 _ _ Fn,gU (show pv.length<=1000 by lia) (by decide),?_⟩;have Pf:p≠pa:=J7 hp jt nofun;refine⟨_,rfl,_,rfl,p,C,dx,_,rfl,by rw[j3 Pf];exact s2 _ _ Fm,aw.cl,aw.nH,(by show 6<1000;decide),_,rfl,_,rfl,p,C,dx,_,rfl,ae,aw.cl,aw.nW,(by show 6<1000;decide),?_⟩;rw[Ju];have nwp:wl≠p:=J7 qf Fm nofun;have Xq:wl≠pa:=λz0=>by subst z0;rw[jt] at XZ;cases XZ
 have nwt:wl≠t:=i7 qf ht;have nhp:ha≠p:=J7 yF hp nofun;have fr:zp (λb=>b=p\/b=pa\/b=Pt) H (upd (upd (upd H1 t (HO.tup [V.ref ta,V.ref wa])) pa (HO.lst (pv++[V.ref t]))) p (HO.ins C dx (Z6 "worth" (V.ref wl) (Z6 "there" (V.ref ha) (Xa kt kg z ta wa pa))))):=by
  refine⟨λb o hx e=>?_,λx hx=>?_⟩
  ·have n1:b≠p:=λz=>hx (.inl z);have n2:b≠pa:=λz=>hx (.inr (.inl z));have n3:b≠Pt:=λz=>hx (.inr (.inr z));rw[j3 n1,j3 n2];exact s2 _ _ (e1 _ _ n3 e)
  ·rcases hx with rfl|rfl|rfl
   ·exact Sn hp
   ·exact S3 jt
   ·exact Pd jk
 have HR:zp (λb=>b=p\/b=pa) H1 (upd (upd (upd H1 t (HO.tup [V.ref ta,V.ref wa])) pa (HO.lst (pv++[V.ref t]))) p (HO.ins C dx (Z6 "worth" (V.ref wl) (Z6 "there" (V.ref ha) (Xa kt kg z ta wa pa))))):=by
  refine⟨λb o hx e=>?_,λx hx=>?_⟩
  ·rw[j3 λz=>hx (.inl z),j3 λz=>hx (.inr z)];exact s2 _ _ e
  ·rcases hx with rfl|rfl
   ·exact Sn Fm
   ·exact S3 Fn
 have Er:∀b∈lo,¬(b=p\/b=pa\/b=Pt):=λb hb hx=>by
  obtain⟨zs,hz⟩:=gm.ls b hb;rcases hx with rfl|rfl|rfl
  ·rw[hp] at hz;cases hz
  ·exact gm.no hb
  ·exact jk.ne hz nofun rfl
 refine q _ wl qs ⟨?_,λb hb=>?_,dx,ha,wl,pv++[.ref t],ae,⟨.head _,.tail _ (.head _),⟨xs,fr.k _ _ (λhx=>hx.elim nhp λhx=>hx.elim Xl (jk.ne yF nofun)) yF,hB.jw fr⟩,ys,HR.k _ _ (λhx=>hx.elim nwp Xq) qf,aZ.imp' (λ_ _ r=>Ex.jw HR r) pq⟩,?_,?_⟩ SD XZ (λb o n1 n2 n3 e=>fr.k b o (λhx=>hx.elim n1 λhx=>hx.elim n3 n2) e) ?_
 ·intro hb;rcases bH.mp hb with z0|hb
  ·exact Xl z0.symm
  ·rcases bH.mp hb with z0|hb
   ·exact Xq z0.symm
   ·exact gm.no hb
 ·rcases bH.mp hb with rfl|hb
  ·exact⟨xs,HR.k _ _ (λhx=>hx.elim nhp Xl) (g1 yF nofun)⟩
  ·rcases bH.mp hb with rfl|hb
   ·exact⟨ys,HR.k _ _ (λhx=>hx.elim nwp Xq) qf⟩
   ·obtain⟨zs,hz⟩:=gm.ls b hb;exact⟨zs,fr.k _ _ (Er b hb) hz⟩
 ·rw[j3 Pf.symm,ae]
 ·refine aZ.app (Fj.jw fr Er λb hb=>.tail _ (.tail _ hb)) (.cons ⟨t,ta,wa,rfl,?_,Xm.jw fr Er λb hb=>.tail _ (.tail _ hb)⟩ .nil);rw[j3 ((i7 Fm ht).symm),j3 ((i7 Fn ht).symm),ae]
 ·rcases(L1.same s2).write (o:=.lst (pv++[V.ref t])) (s2 _ _ Fn) with x|⟨c,x,y⟩
  ·exact .inl (by rw[j3 (λz0=>by rw[z0,j3 Pf,s2 _ _ Fm] at x;cases x)];exact x)
  ·exact .inr ⟨c,by rw[j3 (λz0=>by rw[z0,j3 Pf,s2 _ _ Fm] at x;cases x)];exact x,by rw[j3 (λz0=>by rw[z0,j3 Pf,s2 _ _ Fm] at y;cases y)];exact y⟩
end de
namespace HT
open PySem PySem.Spec PyProof.Rows L2
section
variable{prog:aM}{w:aL}{A:aV}{E:aE->aG->Prop}{s:aG}
end
end HT
namespace L2
open PySem PySem.Spec PyProof.Rows
section
variable{X:Cx}
theorem d0X(xs:List V)(h:xs≠[]):P5 xs bh (av (-1))=xs.take (bx xs-1)/\P5 xs (av (-1)) bh=xs.drop (bx xs-1):=by
 have hl:0<bx xs:=vC.mpr h;have e:∀d,HT.wc (bx xs) d (av (-1))=bx xs-1:=λd=>by
  show(if (-1:Int)<0 then ((-1:Int)+(bx xs:Int)).toNat else min (-1:Int).toNat (bx xs))=_;rw[if_pos (by decide)];lia
 constructor
 ·unfold P5;rw[e,HT.rp,oY,Nat.sub_zero]
 ·unfold P5;rw[e,HT.rp,fZ];rw[eJ];lia
end
end L2
namespace de
open PySem L2 Fr
def d1Y(K:aF)(H:Hp)(l:aA)(ps qs:List Q2):Prop:=∃xs ys ts,ky K H xs ps/\ky K H ys qs/\H l=av (.lst ts)/\UL H xs ys (chI ps qs) ts
structure Bn(P:aM)(w:aL)(K:aF)(mg:aC->Option aE)(base:aJ)(CX:ze)(n:Nat)(C:aA)(m:aC)(ps:List aC)(sp:Sp)(f:aA)(fd:aK):Prop where
 ok:bf P w K mg base CX n f fd ps sp
 bd:Binds K fd ps []
 me:Ly K C m f
def ky.same(e:af H H')(h:ky K H xs ps):ky K H' xs ps:=aZ.imp' (λ_ _ r=>Xc.same e r) h
def HW(h:bR (Ex H) xs ps):ky K H xs ps:=aZ.imp' (λ_ _ r=>Ex.v r) h
def I0{l':List β}(h:bR F l l'):l.length=l'.length:=h.length
theorem Sq.free(l:Sq Pt p pa H H')(hp:H' p≠bh)(jt:H' pa≠bh)(T:LT Pt H')(h:H' x=bh):H x=bh:=by
 cases q:H x with
 |none=>rfl
 |some o =>
  have n3:x≠Pt:=λz=>by
   subst z;rcases T with t|⟨c,t,_⟩<;>(rw[h] at t;cases t)
  rw[l x o (λz=>hp (z▸h)) n3 (λz=>jt (z▸h)) q] at h;cases h
theorem c7s{α:Type}{l:List α}(h:bx l=k+1):∃a x,l=a++[x]/\bx a=k:=by
 refine⟨l.dropLast,l.getLast (by intro z;rw[z] at h;simp at h),(xJ _).symm,by rw[List.length_dropLast];lia⟩
theorem c7i:∀{a}{b}{x}{y:β},bR F (a++[x]) (b++[y])->bR F a b/\F x y
 |[],[],_,_,.cons r _=>⟨.nil,r⟩
 |[],_::b,_,_,.cons _ t=>by have:=t.length;simp at this
 |_::a,[],_,_,.cons _ t=>by have:=t.length;simp at this
 |_::a,_::b,_,_,.cons r t=>by
  obtain⟨h1,h2⟩:=c7i t;exact⟨.cons r h1,h2⟩
def d0d(e:af H H')(h:UL H xs ys is ts):UL H' xs ys is ts:=h.same λb zs q=>e b _ q
inductive Xt(K:aF)(C CB CT Pt:aA)(vs:List V)(H:Hp)(Q:VK)(E:XK):Prop|mk:∀p pa v h kt kg z L past lo,vs=[.ref p,v]->h8 K C H p kt kg z L past pa lo->Xg z kt kg->HS K H v h->OV h->(∀g∈L.1,HG (10^9) kt kg g)->bx L.1<=16->bx L.2=bx L.1->bx past<=1000->LT Pt H->(ef h kt kg->bx L.1<16->∀H' ha wa r cl u qs x,h8 K C H' p kt kg z (L.1++[h],qs++[x]) (past++[L]) pa (ha::wa::lo)->Bl z (L.1++[h]) kt kg (qs++[x])->H ha=bh->H wa=bh->Sq Pt p pa H H'->LT Pt H' → H r=bh->H' r=av (.tup [u,.ref cl])->Ex H' u x->H cl=bh->d1Y K H' cl L.2 qs->cl≠ha->cl≠wa->Q (.ref r) H')->(¬ef h kt kg->∀H',af H H'->E (.ref CB) bh H')->(ef h kt kg->16<=bx L.1->∀H',af H H'->E (.ref CT) bh H')->Xt K C CB CT Pt vs H Q E
def jo:p7 ["self","house","ahead"] ["self","house"] (i9 Se):={}
theorem d0M(F:df K "come" "Kept.come" Se f fd)(aw:TK K C)(Ct:Bn P w K mg base J8 n C "turn_to" ["self","houses"] (Xk K C Pt) f1 d1)
  (Co:vn P w K mg base n "with_one_more" ["houses","house","many_takes","many_gives"] (Wz K CB CT) f2 d2) (gW:CZ P w K mg base n "changes" ["ahead","behind"] (W8 K) f3 d3) :
  bf P w K mg base (W2 P w) (n+1) f fd ["self","house"] (Xt K C CB CT Pt):=by
 refine F.ob jo λay A outer s H vs Q E hr h=>?_;obtain⟨p,pa,v,h,kt,kg,z,L,past,lo,rfl,gm,ft,hH,hs,hG,u_,hql,wb,jk,q,hB,hT⟩:=h;refine⟨_,j0 (r6 (i:=2) jo.nd rfl (aI rfl) (y4 (pv 0) rfl))
  (j0 (R3 (TQ (pv 0) aw.cl Ct.me Ct.ok hr Ct.bd .nil v6 (c6 (l7 Co.ok hr rfl Co.m Co.k Co.b .nil V5 (c6 (y4 (pv 0) rfl) (c6 (pv 1) (c6 (y4 (pv 0) rfl) (c6 (y4 (pv 0) rfl) c7))))) c7)))
  (fu.oi (j4 (o4 (A9 (c6 (l8 j5 (y4 (pv 0) rfl) (Eh V2 d0) (λ_ _=>rfl)) (c6 (gW.c hr (c6 (pv 2) (c6 (B7 M0 (y4 (pv 0) rfl) G1 (B8 (Eh V2 d0))) c7))) c7))))))),?_⟩
 obtain⟨dx,ta,wa,GS,hp,Xm,jt,Fj⟩:=gm.ex;obtain⟨XB,HX,⟨xs,GO,vq⟩,ys,i4,Wu⟩:=Xm;have xl:bx xs=bx L.1:=dE vq;refine⟨_,rfl,p,C,dx,_,_,rfl,hp,aw.cl,aw.nW,rfl,_,rfl,p,dx,_,rfl,hp,rfl,_,rfl,p,C,dx,_,_,rfl,hp,aw.cl,aw.nH,rfl,_,rfl,_,rfl,p,C,dx,_,_,rfl,hp,aw.cl,aw.nT,rfl,_,rfl,p,C,dx,_,_,rfl,hp,aw.cl,aw.nG,rfl,ta,v,xs,h,(kt:Int),(kg:Int),rfl,GO,by lia,hH,hs,vg (by have:=ft.t4;lia),vg (by have:=ft.g4;lia),λg1 ui r H1 e1 BO GN=>?_,λbad H1 e1=>hB bad H1 e1,λg1 ui H1 e1=>hT g1 (by lia) H1 e1⟩;have XC:r≠pa:=λz0=>by subst z0;rw[jt] at BO;cases BO
 refine⟨p,r,pa,kt,kg,z,L,past,lo,xs++[v],L.1++[h],rfl,gm.same e1,ft,GN,aZ.app (Bk.same e1 vq) (.cons (hH.same e1) .nil),λg hg=>?_,by rw[aX,fR];lia,XC,wb,jk.same e1,λH2 wl qs XD SD XZ lf L2=>?_⟩
 ·rcases bJ.mp hg with hg|hg
  ·exact hG g hg
  ·rw[cJ.mp hg];exact g1.hg
 have XN:Sq Pt p pa H H2:=λb o n1 n2 n3 q0=>lf b o n1 n2 n3 (e1 _ _ q0);have Bp:bx qs=bx L.1+1:=by rw[SD.1,aX];rfl
 obtain⟨qs0,x,rfl,ql0⟩:=c7s Bp;obtain⟨mv,ta2,wa2,pv2,oy,⟨m1,m2,_,ys2,Bq,Br⟩,Fo,_⟩:=XD.ex;have yl2:bx ys2=bx L.1+1:=by rw[I0 Br,Bp]
 obtain⟨qg,u,rfl,yl0⟩:=c7s yl2;obtain⟨Rq,hu⟩:=c7i Br;have Bu:bR (Ex H2) ys L.2:=aZ.imp' (λv q ⟨a,h1,h2⟩=>⟨a,h1,XN a _ (J7 h2 hp nofun) (jk.ne h2 nofun) (J7 h2 jt nofun) h2⟩) Wu;have G9:bx ys=bx L.2:=I0 Wu;refine⟨_,rfl,p,C,mv,_,_,rfl,oy,aw.cl,aw.nW,rfl,_,rfl,wa2,_,_,_,rfl,rfl,ah.of Bq,d0q qg u,_,rfl,_,rfl,p,C,mv,_,_,rfl,oy,aw.cl,aw.nW,rfl,_,rfl,_,rfl,wa2,_,rfl,ah.of Bq,λc0 hc0=>?_⟩;rw[(d0X (qg++[u]) (by simp)).1];have ec:(qg++[u]).take (bx (qg++[u])-1)=qg:=by simp
 rw[ec];have s3:=af.new hc0 (.lst qg);refine⟨wa,c0,ys,qg,L.2,qs0,rfl,ah.of (s3 _ _ (XN wa _ (J7 i4 hp nofun) (jk.ne i4 nofun) (λz0=>gm.no (z0▸HX)) i4)),ah.of ae,ky.same s3 (HW Bu),ky.same s3 (HW Rq),by lia,λcl ts H4 e4 XP xr ch=>⟨(by show 2<=sizeLine;decide),λrt YB=>?_⟩⟩;have s5:=af.new YB (.tup [u,V.ref cl]);have yG:=s3.trans (e4.trans s5);have free:∀{b:aA},H2 b=bh->H b=bh:=λh=>e1.free (lf.free (by rw[oy];nofun) (by rw[Fo];nofun) L2 h);have vt:H2 cl=bh:=s3.free XP;have ncl:∀b∈r::wl::lo,cl≠b:=λb hb z0=>by
  subst z0;obtain⟨zs,hz⟩:=XD.ls cl hb;rw[hz] at vt;cases vt
 exact q g1 (by lia) _ r wl rt cl u qs0 x (XD.same yG) SD BO (e1.free XZ) (λb o n1 n2 n3 q0=>yG _ _ (XN b o n1 n2 n3 q0)) (L2.same yG) (free ((s3.trans e4).free YB)) ae (hu.same yG) (free vt) ⟨ys,qg,ts,ky.same yG (HW Bu),ky.same yG (HW Rq),s5 _ _ xr,d0d s5 ch⟩ (ncl r (.head _)) (ncl wl (.tail _ (.head _)))
inductive XQ(K:aF)(C:aA)(vs:List V)(H:Hp)(Q:VK)(dj:XK):Prop|mk:∀p pa kt kg z L past lo,vs=[.ref p]->h8 K C H p kt kg z L past pa lo->(∀l xs H',af H H'->H l=bh->H' l=av (.lst xs)->Bk K H' xs L.1->Q (.ref l) H')->XQ K C vs H Q dj
def c9H:p7 ["self"] ["self"] (i9 R0):={}
theorem c8U(F:df K "houses" "Kept.houses" R0 f fd)(T:v8 mg)(aw:TK K C):bf P w K mg base J8 (n+1) f fd ["self"] (XQ K C):=by
 refine F.oa c9H λay A outer s H vs Q E hr h=>?_;obtain⟨p,pa,kt,kg,z,L,past,lo,rfl,gm,q⟩:=h;refine⟨_,j4 (o4 (v5 C5 rfl T.list fJ (c6 (y4 (pv 0) rfl) c7))),?_⟩;obtain⟨dx,ta,wa,GS,hp,⟨XB,HX,⟨xs,GO,vq⟩,ys,i4,Wu⟩,jt,Fj⟩:=gm.ex;refine⟨_,rfl,p,C,dx,_,_,rfl,hp,aw.cl,aw.nH,rfl,ta,xs,rfl,.inl (ah.of GO),λl hl=>?_⟩;have s1:=af.new hl (.lst xs);exact q l xs _ s1 hl ae (Bk.same s1 vq)
end de
namespace L2
open PySem
mutual
inductive Dq(K:aF)(H:Hp)(F:aA->Prop):V->dI->Prop
 |non:Dq K H F .non .none
 |int (i:Int):Dq K H F (.int i) (.int i)
 |lst {a:aA} {xs:List V} {ds:List dI}:F a->H a=av (.lst xs)->dY K H F xs ds->Dq K H F (.ref a) (.list ds)
 |tup {a:aA} {xs:List V} {ds:List dI}:cq K H a xs->dY K H F xs ds->Dq K H F (.ref a) (.tuple ds)
inductive dY(K:aF)(H:Hp)(F:aA->Prop):List V->List dI->Prop
 |nil:dY K H F [] []
 |cons {x:V} {xs:List V} {d:dI} {ds:List dI}:Dq K H F x d->dY K H F xs ds->dY K H F (x::xs) (d::ds)
end
section
variable{K:aF}{H H':Hp}{F HY:aA->Prop}
mutual
theorem Dq.dp:∀{x:V}{d:dI},Dq K H F x d->Dp K H x d
 |_,_,.non=>.non
 |_,_,.int i=>.int i
 |_,_,.lst _ h r=>.lst (ah.of h) (dY.dp r)
 |_,_,.tup h r=>.tup h (dY.dp r)
theorem dY.dp:∀{xs:List V}{ds:List dI},dY K H F xs ds->qc K H xs ds
 |_,_,.nil=>.nil
 |_,_,.cons a r=>.cons (Dq.dp a) (dY.dp r)
end
mutual
theorem Dq.go{X:aA->Prop}(e:zp X H H')(k:∀a xs,F a->H a=av (.lst xs)->HY a/\¬X a):∀{x:V}{d:dI},Dq K H F x d->Dq K H' HY x d
 |_,_,.non=>.non
 |_,_,.int i=>.int i
 |_,_,.lst f h r=>.lst (k _ _ f h).1 (e.k _ _ (k _ _ f h).2 h) (dY.go e k r)
 |_,_,.tup h r=>.tup (e.KD h) (dY.go e k r)
theorem dY.go{X:aA->Prop}(e:zp X H H')(k:∀a xs,F a->H a=av (.lst xs)->HY a/\¬X a):∀{xs:List V}{ds:List dI},dY K H F xs ds->dY K H' HY xs ds
 |_,_,.nil=>.nil
 |_,_,.cons a r=>.cons (Dq.go e k a) (dY.go e k r)
end
def af.jw(e:af H H'):zp (λ_=>False) H H':=⟨λb o _ q=>e b o q,λ_ x=>x.elim⟩
theorem yH{g:α->dI}(r:∀v a,R v a->Dq K H F v (g a)):∀{vs}{as},bR R vs as->dY K H F vs (as.map g)
 |_,_,.nil=>.nil
 |_,_,.cons x t=>.cons (r _ _ x) (yH r t)
theorem H_:∀ns:List Int,dY K H F (ns.map V.int) (ns.map gM)
 |[]=>.nil
 |n::ns=>.cons (.int n) (H_ ns)
end
end L2
namespace de
open PySem L2 Fr
theorem XR(x:HS K H v h):Dq K H F v (Y5 h):=by
 obtain⟨a,t,g,rfl,h0,h1,h2⟩:=x;exact .tup h0 (.cons (.tup h1 (H_ _)) (.cons (.tup h2 (H_ _)) .nil))
theorem Ia(x:Ex H v q):Dq K H F v (dF q):=by
 obtain⟨a,rfl,h⟩:=x;exact .tup (cq.of h) (.cons (.int _) (.cons (.int _) .nil))
inductive XS(K:aF)(C:aA)(vs:List V)(H:Hp)(Q:VK)(dj:XK):Prop|mk:∀p pa kt kg z L past lo,vs=[.ref p]->h8 K C H p kt kg z L past pa lo->(∀l ys H',af H H'->H l=bh->H' l=av (.lst ys)->bR (Ex H') ys L.2->Q (.ref l) H')->XS K C vs H Q dj
def c9O:p7 ["self"] ["self"] (i9 Q1):={}
theorem c8V(F:df K "shares" "Kept.shares" Q1 f fd)(T:v8 mg)(aw:TK K C):bf P w K mg base J8 (n+1) f fd ["self"] (XS K C):=by
 refine F.oa c9O λay A outer s H vs Q E hr h=>?_;obtain⟨p,pa,kt,kg,z,L,past,lo,rfl,gm,q⟩:=h;refine⟨_,j4 (o4 (v5 C5 rfl T.list fJ (c6 (y4 (pv 0) rfl) c7))),?_⟩;obtain⟨dx,ta,wa,GS,hp,⟨XB,HX,⟨xs,GO,vq⟩,ys,i4,Wu⟩,jt,Fj⟩:=gm.ex;refine⟨_,rfl,p,C,dx,_,_,rfl,hp,aw.cl,aw.nW,rfl,wa,ys,rfl,.inl (ah.of i4),λl hl=>?_⟩;have s1:=af.new hl (.lst ys);exact q l ys _ s1 hl ae (aZ.imp' (λ_ _ r=>r.same s1) Wu)
inductive XT(K:aF)(C Pt:aA)(vs:List V)(H:Hp)(Q:VK)(dj:XK):Prop|mk:∀(p pa:aA)(kt kg:Nat)(z:aC)(L:So)(past:List So)(lo:List aA),vs=[.ref p]->h8 K C H p kt kg z L past pa lo->Xg z kt kg->(∀g∈L.1,HG (10^9) kt kg g)->bx L.1<=16->LT Pt H->(∀H' r,bj Pt H H'->LT Pt H'->H r=bh->H' r=av (.lst ((Jg z L.1).map λ(i:Nat)=>V.int (i:Int)))->Q (.ref r) H')->XT K C Pt vs H Q dj
def d2i:p7 ["self"] ["self"] (i9 Sf):={}
theorem d1O(F:df K "rim" "Kept.rim" Sf f fd)(aw:TK K C)(Cr:C9 P w K mg base n "rim_of" ["book","sizes"] (RL K Pt) f1 d1):bf P w K mg base J8 (n+1) f fd ["self"] (XT K C Pt):=by
 refine F.oa d2i λay A outer s H vs Q E hr h=>?_;obtain⟨p,pa,kt,kg,z,L,past,lo,rfl,gm,ft,hG,u_,jk,q⟩:=h;refine⟨_,j4 (o4 (Cr.c hr (c6 (y4 (pv 0) rfl) (c6 (y4 (pv 0) rfl) c7)))),?_⟩;obtain⟨dx,ta,wa,GS,hp,⟨XB,HX,⟨xs,GO,vq⟩,ys,i4,Wu⟩,jt,Fj⟩:=gm.ex;exact⟨_,rfl,p,C,dx,_,_,rfl,hp,aw.cl,aw.nH,rfl,_,rfl,p,C,dx,_,_,rfl,hp,aw.cl,aw.nS,rfl,ta,xs,L.1,z,10^9,kt,kg,rfl,ft.z,⟨ah.of GO,vq,hG,by decide,u_,by have:=ft.t4;lia,by have:=ft.g4;lia⟩,by decide,jk,q⟩
open Classical in
def shq(z:aC)(kt kg:Nat)(hs:List i8):List Q2:=if h:∃qs,Bl z hs kt kg qs then Classical.choose h else []
def lv(z:aC)(kt kg:Nat)(hs:List i8):So:=(hs,shq z kt kg hs)
end de
namespace L2
open PySem PySem.Spec PyProof.Rows
section
variable{X:Cx}{CX:ze}{k:Nat}{f C:aA}{fd:aK}{ps:List aC}{sp:Sp}{EX:St->XK}{m:aC}{pos apos:Pos}{o e:aR}{es:List aR}{ta:TE}{t:TA}
end
end L2
namespace L2
open PySem
end L2
namespace de
open PySem L2 Fr
abbrev KS_:=List i8×List (List i8)
structure OkK(z:aC)(kt kg:Nat)(hs:List i8):Prop where
 m:bx hs<=16
 g:∀g∈hs,HG (10^9) kt kg g
 l:bx (shq z kt kg hs)=bx hs
theorem e8t q:(dF q).depth<=5:=by
 unfold dF;simp[iY,iC]
theorem made{Q:VK}(h:∀p pa lo H',af H H'->H p=bh->H pa=bh->(∀b∈lo,H b=bh)->h8 K C H' p kt kg z ([],[]) [] pa lo->Q (.ref p) H') :
  ∀x dx,H x=bh->H dx=bh->dx≠x->HQ K C [.ref x,.int (kt:Int),.int (kg:Int),.str z] (upd (upd H dx (.own x)) x (.ins C dx [])) (λv H'=>v=.non/\Q (.ref x) H') E:=by
 intro x dx hx WG nd;have sx:∀b o,H b=av o->(upd (upd H dx (.own x)) x (.ins C dx [])) b=av o:=λb o q0=>by rw[j3 (i7 q0 hx),j3 (i7 q0 WG)];exact q0
 have fr:∀b,(upd (upd H dx (.own x)) x (.ins C dx [])) b=bh->H b=bh:=λb hb=>by
  cases q:H b with
  |none=>rfl
  |some o=>rw[sx b o q] at hb;cases hb
 exact⟨x,dx,kt,kg,z,rfl,ae,λH4 pa lo gm k f1 f2=>⟨rfl,h x pa lo H4 (λb o q0=>k b o (i7 q0 hx) (sx b o q0)) hx (fr _ f1) (λb hb=>fr b (f2 b hb)) gm⟩⟩
theorem dY.len:∀{xs}{ds},dY K H F xs ds->bx xs=bx ds
 |_,_,.nil=>rfl
 |_,_,.cons _ r=>by rw[eM,eM,dY.len r]
theorem dY.app:∀{xs ys}{ds es},dY K H F xs ds->dY K H F ys es->dY K H F (xs++ys) (ds++es)
 |_,_,_,_,.nil,q=>q
 |_,_,_,_,.cons a r,q=>.cons a (dY.app r q)
theorem XX:∀{xs}{ds}{i:Nat}{x},dY K H F xs ds->xs[i]?=av x->∃d,ds[i]?=av d/\Dq K H F x d
 |_,_,_,_,.nil,e=>by simp at e
 |_,_,0,_,.cons a _,e=>by simp at e;subst e;exact⟨_,rfl,a⟩
 |_,_,i+1,_,.cons _ r,e=>by
  obtain⟨d,h1,h2⟩:=XX r (by simpa using e);exact⟨d,by simpa using h1,h2⟩
structure Kq_ where
 p:aA
 pa:aA
 kt:Nat
 kg:Nat
 z:aC
end de
namespace L2
open PySem
structure dr(n k:Nat)(d:dI):Prop where
 s:d.showable=true
 h:d.hasDict=false
 l:d.shown.length<=n
 d:d.depth<=k
theorem f0c:∀ts k acc,(textFrom k acc ts).length<=acc.length+piled ts
 |[],k,acc=>by rw[piled_nil];exact aT _
 |t::ts,0,acc=>by
  have h:=Cn ts 1 (acc++""++t) (by decide);have e:textFrom 0 acc (t::ts)=textFrom 1 (acc++""++t) ts:=rfl;rw[e,h,oZ,eR,eR];have:(cN "").length=0:=by decide
  lia
 |t::ts,k+1,acc=>Nat.le_of_eq (Cn (t::ts) (k+1) acc (by lia))
theorem X3:∀{ts},(∀t∈ts,t.length<=n)->piled ts<=ts.length*(n+2)
 |[],_=>by rw[piled_nil];lia
 |t::ts,h=>by
  have a:=X3 λu hu=>h u (.tail _ hu);have b:=h t (.head _);rw[oZ,eM,mI];lia
theorem f0t(h:∀t∈ts,t.length<=n):(listText ts).length<=ts.length*(n+2)+2:=by
 have a:=f0c ts 0 "[";have b:=X3 h;unfold listText;rw[eR];have e1:(cN "[").length=1:=by decide
 have e2:(cN "]").length=1:=by decide
 lia
theorem f0m(h:∀t∈ts,t.length<=n):(tupleText ts).length<=ts.length*(n+2)+4:=by
 have b:=X3 h;have j:(cO ", " ts).length<=piled ts:=by
  by_cases e:ts=[]
  ·subst e;decide
  ·have:=join_length_add ts e;lia
 unfold tupleText;rw[eR,eR];have e1:(cN "(").length=1:=by decide
 have e2:(cN (if (ts.length==1)=true then ",)" else ")")).length<=2:=by split<;>decide
 lia
theorem Ib:∀ds,qB ds=ds.map dD
 |[]=>by rw[qB];rfl
 |d::ds=>by rw[qB,Ib ds];rfl
theorem X5:∀{ds},(∀d∈ds,dr n k d)->qT ds=true/\Ca ds=false/\iC ds<=k
 |[],_=>by simp[qT,Ca,iC]
 |d::ds,h=>by
  obtain⟨a,b,c⟩:=X5 λx hx=>h x (.tail _ hx);have g:=h d (.head _);rw[qT,Ca,iC,a,b,g.s,g.h];exact⟨rfl,rfl,kA.mpr ⟨g.d,c⟩⟩
def dr.mono{d}(h:dr n k d)(a:n<=n')(b:k<=k'):dr n' k' d:=⟨h.s,h.h,bF h.l a,bF h.d b⟩
theorem dr.list(h:∀d∈ds,dr n k d)(hm:ds.length<=m):dr (m*(n+2)+2) (k+1) (.list ds):=by
 obtain⟨a,b,c⟩:=X5 h;refine⟨by rw[kD];exact a,by rw[kL];exact b,?_,by rw[iY];lia⟩;rw[dD,Ib];refine bF (f0t (n:=n) λt ht=>?_) ?_
 ·obtain⟨d,hd,rfl⟩:=aY.mp ht;exact(h d hd).l
 ·rw[aH];exact kC (pJ _ hm) _
theorem dr.tup{ds}(h:∀d∈ds,dr n k d)(hm:ds.length<=m):dr (m*(n+2)+4) (k+1) (.tuple ds):=by
 obtain⟨a,b,c⟩:=X5 h;refine⟨by rw[kD];exact a,by rw[kL];exact b,?_,by rw[iY];lia⟩;rw[dD,Ib];refine bF (f0m (n:=n) λt ht=>?_) ?_
 ·obtain⟨d,hd,rfl⟩:=aY.mp ht;exact(h d hd).l
 ·rw[aH];exact kC (pJ _ hm) _
theorem dr.int(h:i.natAbs.log2<1920):dr 1921 1 (.int i):=by
 refine⟨by rw[kD];exact decide_eq_true h,by rw[kL],?_,by rw[iY];lia⟩;have:=oJ (by decide) h;rw[dD];exact bF (Nat.le_of_eq (ofString_length _)) this
theorem dr.non:dr 1921 1 .none:=by
 refine⟨by rw[kD],by rw[kL],?_,by rw[iY];lia⟩;rw[dD];decide
theorem X8(hr:b_ k X.A):K6 X (.type "str") (λvs H Q=>∃a d,vs=[.ref a]/\Dp X.K H (.ref a) d/\(∃n,n<=sizeLine/\dr n 60 d)/\Q (.str d.shown) H):=by
 intro bz s σ H vs us Q I r h;obtain⟨a,d,rfl,hd,⟨n,hn,SD⟩,q⟩:=h;obtain⟨u,rfl,ru⟩:=U1 r;obtain⟨as,r1⟩:=hd.reads I ru;cases ru;exact str_of_reads r1 SD.s (PyData.noDict_hsm SD.h) hr.gd (by have:=hr.un;have:=SD.d;lia) (λ_ _ e=>e) (λh' u tk hk=>⟨.str d.shown,H,I.kept hk,⟨u,rfl⟩,q⟩) (bF SD.l hn)
end L2
namespace de
open PySem L2 Fr
theorem e7A:K1 (m+2) q S=(K1 (m+2) q S).take m++[(K1 (m+2) q S).getD m 0,(K1 (m+2) q S).getD (m+1) 0]:=by
 have l:bx (K1 (m+2) q S)=m+2:=by unfold K1;simp
 refine dR λi=>?_;by_cases h:i<m
 ·rw[dH (by simp_all),tM h]
 ·rw[dU (by simp_all),cI,jT (by lia)];by_cases h1:i=m
  ·subst h1;rw[gL,bA,aS (by lia)];rfl
  ·by_cases h2:i=m+1
   ·subst h2;rw[show m+1-m=1 by lia,bA (i:=m+1),aS (by lia)];rfl
   ·rw[bW (by lia),bW (by grind)]
section
variable{z:aC}{hs:List i8}{h:i8}{kt kg i:Nat}{S:Lp.Bo}{br:Int}
theorem e9L(hk:∀g∈hs,bx g.1=kt/\bx g.2=kg)(hj:j<kt+kg+bx (K5 z)):col (hs.map (vo z)) j=col (hs.map (A7 z)) j:=by
 unfold col;rw[bC,bC];refine fM λg hg=>?_;show(vo z g).getD j 0=(A7 z g).getD j 0;unfold vo;rw[F0,if_pos];have:=hk g hg;unfold A7;simp;lia
theorem e1b(h1:bx g.1=kt)(h2:bx g.2=kg):(vo z g).getD (kt+kg+bx (K5 z)) 0=g.2.sum-g.1.sum:=by
 have l:bx (A7 z g)=kt+kg+bx (K5 z):=by unfold A7;simp[h2];lia
 unfold vo;rw[F0,if_neg (by lia),l,gL];rfl
theorem e7W(h:bx a=bx b):x8 (a++[x,y]) (b++[p,q])=x8 a b+x*p+y*q:=by
 have:x8 (a++[x,y]) (b++[p,q])=x8 ((a++[x])++[y]) ((b++[p])++[q]):=by simp
 rw[this,Mp (by simp[h]),Mp h]
theorem yD(B:RF z hs h S)(hG:∀g∈hs,HG br kt kg g)(hh:hs[i]?=av h)(ij:1<=kt)(h0:¬0<S.T (mF hs) (qF z h)):0<(K1 (mF hs) (qF z h) S).getD (bx hs) 0:=by
 obtain⟨O,hn,sz⟩:=B;have hk:∀g∈hs,bx g.1=kt/\bx g.2=kg:=λg hg=>⟨(hG g hg).lt,(hG g hg).lg⟩;have gh:=hG h (bK hh);have hm:mF hs=bx hs+2:=rfl;have iu:=e7A (m:=bx hs) (q:=qF z h) (S:=S);have nn:=U' hn;have pos:=O.w.pos;have lr:bx (P4 z hs h)=mF hs:=by unfold P4;simp
 have lb:bx (zo hs)=mF hs:=by unfold zo;simp
 have lw:bx (K1 (mF hs) (qF z h) S)=mF hs:=by unfold K1;simp
 have hq:qF z h=kt+kg+bx (K5 z)+1:=by show bx h.1+bx h.2+_+1=_;rw[gh.lt,gh.lg]
 change K1 (mF hs) (qF z h) S=_ at iu;have bd:=a9o O lb;have cd:=λj hj=>Mo O hn lr (j:=j) hj;generalize hW:K1 (mF hs) (qF z h) S=W at *;generalize Xo:W.take (bx hs)=ws at *;generalize hv:W.getD (bx hs) 0=v at *;generalize hu:W.getD (bx hs+1) 0=u at *;have Fd:bx ws=bx hs:=by rw[<-Xo,cI,lw];lia
 have vnn:0<=v:=nn v (by simp_all);have unn:0<=u:=nn u (by simp_all);have u0:u=0:=by
  rw[iu] at bd;unfold zo at bd;rw[e7W (bP▸Fd.symm),T6] at bd;lia
 have AE:∀j,x8 (col (P4 z hs h) j) W=x8 (col (hs.map (vo z)) j) ws-(vo z h).getD j 0*v:=λj=>by
  rw[iu];have:col (P4 z hs h) j=col (hs.map (vo z)) j++[-(vo z h).getD j 0,(P1 z h).getD j 0]:=by
   unfold P4 col;rw[bQ];congr 1;show[((vo z h).map λx=>-x).getD j 0,(P1 z h).getD j 0]=_;rw[Rt]
  rw[this,e7W (by unfold col;rw[aH,aH,Fd]),u0,iJ];lia
 have X9:∀j,j<kt+kg+bx (K5 z)->(vo z h).getD j 0=(A7 z h).getD j 0:=λj hj=>by
  unfold vo;rw[F0,if_pos];unfold A7;simp[gh.lt,gh.lg];lia
 have Ic:∀j,j<kt+kg+bx (K5 z)->(P1 z h).getD j 0=0:=λj hj=>by
  unfold P1;rw[F0,bP,if_pos (by lia),M3]
 have tk:∀j,j<kt->L8 hs ws 0 j<=h.1.getD j 0*v:=λj hj=>by
  have:=cd j (by lia);rw[AE,e9L hk (by lia),a5i hk ws hj,X9 j (by lia)] at this;have e:(M2 (P1 z h)) j=0:=Ic j (by lia);have e2:(A7 z h).getD j 0 =-h.1.getD j 0:=by
   unfold A7;rw[Y6,aH,if_pos (by rw[gh.lt];lia),Rt]
  rw[e2,iJ] at this;rw[Ic j (by lia)] at this;lia
 have fl:h.2.sum*v-h.1.sum*v+S.d<=x8 (hs.map λg=>g.2.sum-g.1.sum) ws:=by
  have:=cd (kt+kg+bx (K5 z)) (by lia);have e1:col (hs.map (vo z)) (kt+kg+bx (K5 z))=hs.map λg=>g.2.sum-g.1.sum:=by
   unfold col;rw[bC];exact fM λg hg=>e1b (hk g hg).1 (hk g hg).2
  have e3:(P1 z h).getD (kt+kg+bx (K5 z)) 0=1:=by
   unfold P1;rw[F0,bP,gh.lt,gh.lg,if_neg (by lia),gL];rfl
  rw[AE,e1,e1b gh.lt gh.lg,e3,pA] at this;lia
 rcases Int.lt_or_le 0 v with c|c
 ·exact c
 ·have v0:v=0:=by lia
  subst v0;have t0:=tk 0 (by lia);rw[cW] at t0;rw[ya hG ij Fd (λx hx=>nn x (iu▸fW _ hx)) t0] at fl;lia
end
theorem e9E:∀k,k<20->Lp.ow (2^60) (k+1)<2^3990:=by decide
theorem e9d(hl:bx xs=n+2)(h:xs[n]?=av v):U7 xs (-2)=av v:=by
 have e:Bz (bx xs) (-2)=av n:=by
  unfold Bz;rw[hl,if_neg (by decide),if_pos (by lia)];congr 1;lia
 unfold U7;rw[e];exact h
theorem e7K(n m:Nat)(m0:1<=m):HT.wc n n (av (-(m:Int)))=n-m:=by
 show(if (-(m:Int))<0 then ((-(m:Int))+(n:Int)).toNat else min (-(m:Int)).toNat n)=n-m;rw[if_pos (by lia)];lia
theorem e9a xs(k m:Nat)(m0:1<=m)(h:k+m<=bx xs):P5 xs (av (k:Int)) (av (-(m:Int)))=(xs.take (bx xs-m)).drop k:=by
 unfold P5;rw[HT.gy,jT (by lia),e7K _ _ m0,List.drop_take]
theorem e8B xs(m:Nat)(m0:1<=m):P5 xs bh (av (-(m:Int)))=xs.take (bx xs-m):=by
 unfold P5;rw[HT.rp,oY,e7K _ _ m0,Nat.sub_zero]
abbrev yI(z:aC)(hs:List i8)(h:i8)(S:Lp.Bo):List Int:=(((v7 (mF hs) (qF z h) S).take (qE z h)).take (bx h.1+bx h.2)).map (·+S.T (mF hs) (qF z h))++((v7 (mF hs) (qF z h) S).take (qE z h)).drop (bx h.1+bx h.2)
section
variable{P:aM}{w:aL}{K:aF}{mg:aC->Option aE}{base:aJ}{f Pt CN:aA}{fd:aK}{n:Nat}
inductive X_(K:aF)(CN Pt:aA)(vs:List V)(H:Hp)(Q:VK)(E:XK):Prop|mk:∀(ba:aA)(xs:List V)(hs:List i8)(number:Int)(z:aC)(br:Int)(kt kg:Nat),vs=[.ref ba,.int number,.str z]->O4 z->O6 K H ba xs hs br kt kg->br<=2^50->1<=kt->number.natAbs.log2<1920->LT Pt H->(∀(i:Nat)(h:i8)(S:Lp.Bo)(H':Hp)(t:aA)(v:V),number=(i:Int)->hs[i]?=av h->RF z hs h S->0<S.T (mF hs) (qF z h)->bj Pt H H'->LT Pt H'->H' t=av (.tup [.str "rim",v])->S_ H H' v z h (yI z hs h S) S.d->Q (.ref t) H')->(∀(i:Nat)(h:i8)(S:Lp.Bo)(H':Hp)(t ml:aA)(sh:List V),number=(i:Int)->hs[i]?=av h->RF z hs h S->¬0<S.T (mF hs) (qF z h)->bj Pt H H'->LT Pt H'->H' t=av (.tup [.str "beaten",.ref ml])->H' ml=av (.lst sh)->H ml=bh → dk H' sh ((K1 (mF hs) (qF z h) S).take (bx hs)) ((K1 (mF hs) (qF z h) S).getD (bx hs) 0)->Q (.ref t) H')->(¬AA (bx xs) number->E (.ref CN) bh H)->X_ K CN Pt vs H Q E
theorem FA:p7 ["book","number","sizes","takes","gives","floor","amounts","weights","bottom","kinds","raised"] ["book","number","sizes"] (i9 yu):={}
theorem f0j:(["amount","floor"]:List aC).Nodup:=by decide +kernel
theorem f0n:(["weight","weights"]:List aC).Nodup:=by decide +kernel
def orT{ay:aE}{A:aV}{outer:List Env}{s:aG}{H:Hp}{E:XK}{f1 f2 f3 f4:aA}{d1 d2 d3 d4:aK}(T:v8 mg)(Ch:vn P w K mg base n "house_of" ["book","number"] (OA K CN) f1 d1)(Cf:C9 P w K mg base n "greatest_floor" ["houses","number","sizes"] (Bg K Pt) f2 d2)
  (Cl:CZ P w K mg base n "lowest" ["top","bottom"] Xd f3 d3) (OR:C9 P w K mg base n "told_prices" ["house","sizes","amounts","bottom"] (va K) f4 d4) (hr:b_ n (A.deeper (cD "on_rim" (i9 yu) s.heap.objs.size f ay))) :
  {t:TS//fu (N8 (W2 P w) P w K mg base ["book","number","sizes","takes","gives","floor","amounts","weights","bottom","kinds","raised"] "on_rim" (i9 yu) f ay A outer s H E) (x9 yu) t} :=
 ⟨_,j0 (D3 (l7 Ch.ok hr rfl Ch.m Ch.k Ch.b .nil V5 (c6 (pv 0) (c6 (pv 1) c7))) (K4 rfl (p6 (j9 (i:=3) FA.nd rfl (aI rfl)) (p6 (j9 (i:=4) FA.nd rfl (aI rfl)) A4))))
  (fu.oi (j0 (D3 (Cf.c hr (c6 (pv 0) (c6 (pv 1) (c6 (pv 2) c7)))) (K4 rfl (p6 (j9 (i:=5) FA.nd rfl (fY rfl)) (p6 (j9 (i:=6) FA.nd rfl (aI rfl)) (p6 (j9 (i:=7) FA.nd rfl (fY rfl)) (p6 (j9 (i:=8) FA.nd rfl (aI rfl)) A4))))))
  (j0 (w6 (l5 Ej (pv 5) d0 (r9 _))
   (j0 (r6 (i:=9) FA.nd rfl (aI rfl) (j8 D4 (j7 j6 rfl T.len bB (c6 (pv 3) c7)) (j7 j6 rfl T.len bB (c6 (pv 4) c7))))
   (j0 (CA (i:=10) ["amount"] [5] FA.nd rfl rfl rfl (C6 (B7 M0 (pv 6) G1 (B8 (pv 9)))) (λ_ _ _ _=>j9 (i:=0) f0j rfl (aI rfl)) (λ_ _ _ _=>j8 D4 (pv 0) (pv 1)))
   (j4 (o4 (A9 (c6 l9 (c6 (OR.c hr (c6 (l8 j5 (pv 0) (pv 1) (λ_ _=>rfl)) (c6 (pv 2) (c6 (j8 B9 (pv 10) (B7 M0 (pv 6) (B8 (pv 9)) (B8 (Eh V2 d0)))) (c6 (pv 8) c7))))) c7))))))) r8)
  (j4 (o4 (A9 (c6 l9 (c6 (N6 ["weight"] [7] rfl (C6 (B7 M0 (pv 7) G1 (B8 (Eh V2 d0)))) (λ_ _ _ _=>j9 (i:=0) f0n rfl (aI rfl))
   (λ_ _ _ _=>Cl.c hr (c6 (pv 0) (c6 (l8 (Wn K rfl) (pv 1) (Eh V2 d0) (λ_ _=>rfl)) c7)))) c7))))))))⟩
theorem e8w{f1 f2 f3 f4:aA}{d1 d2 d3 d4:aK}(F:Aj K "on_rim" yu f fd)(T:v8 mg)(Ch:vn P w K mg base n "house_of" ["book","number"] (OA K CN) f1 d1)(Cf:C9 P w K mg base n "greatest_floor" ["houses","number","sizes"] (Bg K Pt) f2 d2)
  (Cl:CZ P w K mg base n "lowest" ["top","bottom"] Xd f3 d3) (OR:C9 P w K mg base n "told_prices" ["house","sizes","amounts","bottom"] (va K) f4 d4):bf P w K mg base (W2 P w) (n+1) f fd ["book","number","sizes"] (X_ K CN Pt):=by
 refine F.ob FA λay A outer s H vs Q E hr h=>?_;obtain⟨ba,xs,hs,number,z,br,kt,kg,rfl,hz,B,hf,ij,lm,L,kR,kB,kE⟩:=h;refine⟨_,(orT T Ch Cf Cl OR hr).2,?_⟩;refine⟨_,rfl,_,rfl,ba,xs,number,rfl,B.l,lm,λi hv hi hx=>?_,kE⟩;subst hi;obtain⟨h,hh,hH⟩:=aZ.at B.b hx;have gh:=B.g h (bK hh);obtain⟨ha,ta,ga,rfl,p1,p2,p3⟩:=id hH;refine⟨ha,_,rfl,p1,rfl,_,_,rfl,_,_,rfl,rfl,?_⟩;refine⟨_,rfl,_,rfl,_,rfl,ba,xs,hs,i,h,z,br,kt,kg,rfl,hz,B,hf,hh,L,λS H1 t aa wa yJ e1 L1 ht uK i4=>?_⟩;refine⟨t,_,rfl,cq.of ht,rfl,_,_,rfl,_,_,rfl,_,_,rfl,_,_,rfl,rfl,?_⟩;refine⟨_,rfl,_,_,rfl,rfl,_,rfl,?_⟩;have hM:=Wa (z:=z) (hs:=hs) gh B.g hf B.t B.k (qF z h);have O:=yJ.1;have eQ:=B.eQ;have Xv:=B.t;have Xw:=B.k;have lt:=gh.lt;have lg:=gh.lg;have sg:=Ml z;have small:=t9 (show(1000:Nat)<=1000 from aT _);have hb:=e9E (bx hs+2) (by lia);have S5:Sz 3990 (mF hs) (qF z h) S:=⟨λi j hi hj=>gU (O.w.Hu hM hi hj) hb,gU (O.w.Ht hM) hb⟩;have Ya:=O.w.pos;have d8:S.d<2^8000:=by
  have h1:S.d.natAbs<2^4000:=yJ.2.2.2;have h2:(2:Nat)^4000<=2^8000:=lG (by decide) (by decide);have h3:S.d=(S.d.natAbs:Int):=by lia
  rw[h3]
  exact_mod_cast bS h1 h2
 have la:bx (v7 (mF hs) (qF z h) S)=qE z h+1:=by unfold v7;simp
 have lw:bx (K1 (mF hs) (qF z h) S)=bx hs+2:=by unfold K1;simp
 have qe_:qE z h=bx h.1+bx h.2+bx (K5 z):=rfl;have p21:=cq.fg L e1 p2;have p31:=cq.fg L e1 p3;refine y6 (λc=>?_) (λc=>?_)
 ·have c':0<S.T (mF hs) (qF z h):=of_decide_eq_true c;refine⟨_,rfl,ta,_,rfl,.inr p21,_,rfl,ga,_,rfl,.inr p31,_,_,rfl,rfl,?_⟩;rw[aH,aH];refine⟨_,rfl,_,rfl,_,rfl,aa,_,rfl,ah.of uK,λa1 h1=>?_⟩;rw[show((bx h.1:Int)+(bx h.2:Int))=((bx h.1+bx h.2:Nat):Int) by lia,NS _ _ (by rw[aH,la];lia),<-pG];have s1:=af.new h1 (.lst (((v7 (mF hs) (qF z h) S).take (bx h.1+bx h.2)).map V.int));refine⟨a1,rfl,⟨_,ah.of ae⟩,λrl GH=>?_⟩;refine O9 (A3 (ah.of ae)) GH (by rw[aH,cI];lia) (λx=>.int (vI x+S.T (mF hs) (qF z h))) (λj x H2 N hx e hN=>?_) ?_
  ·obtain⟨k,rfl⟩:=T0 hx;exact⟨Wk.set (by decide),_,rfl,_,rfl,_,_,rfl,rfl,hN⟩
  have eA:(((v7 (mF hs) (qF z h) S).take (bx h.1+bx h.2)).map V.int).map (λx=>V.int (vI x+S.T (mF hs) (qF z h)))=(((v7 (mF hs) (qF z h) S).take (bx h.1+bx h.2)).map (·+S.T (mF hs) (qF z h))).map V.int:=by rw[bC,bC];rfl
  rw[eA];have s2:=af.new GH (.lst ((((v7 (mF hs) (qF z h) S).take (bx h.1+bx h.2)).map (·+S.T (mF hs) (qF z h))).map V.int));have MO:=s1.trans s2;have Oy:=e1.trans MO.ka;refine⟨_,rfl,_,rfl,ba,_,_,_,rfl,rfl,ah.fg L Oy B.l,A2 hx,_,rfl,_,rfl,_,rfl,_,rfl,_,rfl,_,rfl,_,rfl,aa,_,rfl,ah.of (MO _ _ uK),λa2 h2=>?_⟩;have ec:P5 ((v7 (mF hs) (qF z h) S).map V.int) (av ((bx h.1+bx h.2:Nat):Int)) (av (-1))=(((v7 (mF hs) (qF z h) S).take (qE z h)).drop (bx h.1+bx h.2)).map V.int:=by
   have:=e9a ((v7 (mF hs) (qF z h) S).map V.int) (bx h.1+bx h.2) 1 (by decide) (by rw[aH,la];lia);rw[aH,la,Th,<-pG,<-pH] at this;exact this
  try rw[show((bx h.1:Int)+(bx h.2:Int))=((bx h.1+bx h.2:Nat):Int) by lia]
  rw[ec];have s3:=af.new h2 (.lst ((((v7 (mF hs) (qF z h) S).take (qE z h)).drop (bx h.1+bx h.2)).map V.int));refine⟨rl,a2,_,_,rfl,rfl,s3 _ _ ae,ae,by simp[la];lia,λal hal=>?_⟩;have s4:=af.new hal (.lst ((((v7 (mF hs) (qF z h) S).take (bx h.1+bx h.2)).map (·+S.T (mF hs) (qF z h))).map V.int++(((v7 (mF hs) (qF z h) S).take (qE z h)).drop (bx h.1+bx h.2)).map V.int));have Ie:=MO.trans (s3.trans s4);have Ew:=e1.trans Ie.ka;have et:((v7 (mF hs) (qF z h) S).take (bx h.1+bx h.2))=((v7 (mF hs) (qF z h) S).take (qE z h)).take (bx h.1+bx h.2):=by rw[xL,jT (by lia)]
  have eL_:(((v7 (mF hs) (qF z h) S).take (bx h.1+bx h.2)).map (·+S.T (mF hs) (qF z h))).map V.int++(((v7 (mF hs) (qF z h) S).take (qE z h)).drop (bx h.1+bx h.2)).map V.int=(yI z hs h S).map V.int:=by rw[et,<-bQ]
  have av_:∀x∈v7 (mF hs) (qF z h) S,fh 3990 x:=λx hx=>by
   unfold v7 at hx;obtain⟨v,Lx,rfl⟩:=aY.mp hx;have hv:=fF.mp Lx;rcases O.w.all v (by lia) with⟨i,hi,e⟩|⟨j,hj,e⟩
   ·have:Lp.cg (mF hs) S (qF z h) v=S.T i (qF z h):=by
     unfold Lp.cg;rw[Lp.cz hi λk hk hn=>if_neg λz=>hn (O.w.ii k i hk hi (z.trans e.symm)),if_pos e]
    rw[this];exact S5.1 i (qF z h) (by lia) (by lia)
   ·have:Lp.cg (mF hs) S (qF z h) v=0:=Lp.dm λk hk=>if_neg λz=>O.w.io k j hk hj (z.trans e.symm);rw[this];show(0:Int).natAbs<2^3990;exact sC (by decide)
  refine⟨_,rfl,?_⟩;refine⟨_,h,z,al,S.d,yI z hs h S,rfl,hz,(hH.fg L Ew),ah.of (by rw[ae,eL_]),by first|(simp[la];done)|(simp[la];lia),by lia,by lia,λx hx=>?_,Ya,d8,λpt fa jA v H5 tx wd e5 q1 q2 q3 q4 q5 q6 q7 q8=>?_⟩
  ·rcases bJ.mp hx with hx|hx
   ·obtain⟨y,hy,rfl⟩:=aY.mp hx;have b1:y.natAbs<2^3990:=av_ y (fV (fV hy));have b2:(S.T (mF hs) (qF z h)).natAbs<2^3990:=S5.1 _ _ (by lia) (by lia);show(y+S.T (mF hs) (qF z h)).natAbs<2^4000;have b3:(2:Nat)^3990+2^3990<=2^4000:=by decide +kernel
    have b4:=Int.natAbs_add_le y (S.T (mF hs) (qF z h));exact gU b4 (bS (aAA b1 b2) b3)
   ·exact(av_ x (fV (fK hx))).mono (by decide)
  refine⟨(by show 2<=sizeLine;decide),λtt Pj=>?_⟩;have s6:=af.new Pj (.tup [V.str "rim",V.ref pt]);have vc:=Ew.trans (e5.trans s6).ka;refine kR i h S _ tt (.ref pt) rfl hh yJ c' vc (((L1.same Ie).same e5).same s6) ae ⟨pt,fa,jA,v,tx,wd,rfl,s6 _ _ q1,s6 _ _ q2,q3.same s6,s6 _ _ q4,q5.same s6,q6.same s6,yA e1 L1 (ko Ie q7),yA e1 L1 (ko Ie q8)⟩
 ·have c':¬0<S.T (mF hs) (qF z h):=of_decide_eq_false (eN.mpr c);have vp_:=yD yJ B.g hh ij c';refine⟨_,rfl,_,rfl,_,rfl,wa,_,rfl,ah.of i4,λa1 h1=>?_⟩;have ec:P5 ((K1 (mF hs) (qF z h) S).map V.int) bh (av (-2))=((K1 (mF hs) (qF z h) S).take (bx hs)).map V.int:=by
   have:=e8B ((K1 (mF hs) (qF z h) S).map V.int) 2 (by decide);rw[aH,lw,Th,<-pG] at this;exact this
  rw[ec];have s1:=af.new h1 (.lst (((K1 (mF hs) (qF z h) S).take (bx hs)).map V.int));have vb:(K1 (mF hs) (qF z h) S).getD (bx hs) 0<2^8000:=by
   have hl:bx hs<bx (K1 (mF hs) (qF z h) S):=by lia
   have:fh 4000 ((K1 (mF hs) (qF z h) S).getD (bx hs) 0):=by
    unfold K1;rw[Ku (by show bx hs<bx hs+2;lia)];exact a9W O yJ.2.2 (by show qF z h+bx hs<qF z h+(bx hs+2);lia)
   have h1:((K1 (mF hs) (qF z h) S).getD (bx hs) 0).natAbs<2^4000:=this;have h2:(2:Nat)^4000<=2^8000:=lG (by decide) (by decide);have h3:(K1 (mF hs) (qF z h) S).getD (bx hs) 0=(((K1 (mF hs) (qF z h) S).getD (bx hs) 0).natAbs:Int):=by lia
   rw[h3]
   exact_mod_cast bS h1 h2
  refine⟨a1,rfl,⟨_,ah.of ae⟩,λl hl=>?_⟩;refine N5 (A3 (ah.of ae)) hl (by rw[aH,cI];lia) (pU l ((K1 (mF hs) (qF z h) S).take (bx hs)) ((K1 (mF hs) (qF z h) S).getD (bx hs) 0)) Ay (λj x H2 ys N' hx e j_ hN=>?_) (λys H2 e j_ len pr=>?_)
  ·obtain⟨x',rfl,_⟩:=LY hx;have at2:U7 ((K1 (mF hs) (qF z h) S).map V.int) (-2)=av (.int ((K1 (mF hs) (qF z h) S).getD (bx hs) 0)):=e9d (n:=bx hs) (by rw[aH,lw]) (by rw[aP,bA,aS (by lia)];rfl);exact⟨Wk.set (by decide),_,rfl,_,rfl,_,rfl,wa,_,_,_,rfl,rfl,ah.of (e _ _ (s1 _ _ i4)),at2,x',_,rfl,vp_,vb,λv H3 e3 hv=>hN _ _ e3 (A_ j_ e3 hx hv)⟩
  have fr:=Ap len pr;refine⟨(by show 2<=sizeLine;decide),λtt Pj=>?_⟩;have s6:=af.new Pj (.tup [V.str "beaten",V.ref l]);have Ba:H l=bh:=by
   cases q:H l with
   |none=>rfl
   |some o =>
    exfalso;by_cases Rk:l=Pt
    ·rw[Rk] at hl;rcases L1 with w'|⟨_,w',_⟩
     ·rw[s1 _ _ w'] at hl;cases hl
     ·rw[s1 _ _ w'] at hl;cases hl
    ·rw[s1 _ _ (e1 _ _ Rk q)] at hl;cases hl
  exact kB i h S _ tt l ys rfl hh yJ c' (e1.trans (s1.trans (e.trans s6)).ka) ((L1.same (s1.trans e)).same s6) ae (s6 _ _ j_) Ba (fr.same s6)
end
end de
namespace L2
open PySem PySem.Spec PyProof.Rows
theorem Yb{α β:Type}{f g:α->Option β}:∀{l:List α},(∀m∈l,f m=g m)->l.filterMap f=l.filterMap g
 |[],_=>rfl
 |a::r,h=>by
  rw[pY,pY,h a cY,Yb λm hm=>h m (bZ _ hm)]
def kz(q:Nat->Bool)(F:Nat->V->V)(xs:List V)(n:Nat):List V:=((aW n).filter q).filterMap λi=>(xs[i]?).map (F i)
theorem e7x q F xs n:bx (kz q F xs n)<=n:=by
 unfold kz;have h1:=List.length_filterMap_le (λi=>(xs[i]?).map (F i)) ((aW n).filter q);have h2:=oX q (aW n);rw[gZ] at h2;lia
theorem Yc(h:xs[n]?=av x):kz q F xs (n+1)=kz q F xs n++(if q n=true then [F n x] else []):=by
 unfold kz;rw[pE,wS,aAC];congr 1;cases e:q n with
 |true=>simp[e,h]
 |false=>simp[e]
theorem e7y:kz q (λi _=>.int (i:Int)) xs (bx xs)=((aW (bx xs)).filter q).map λ(i:Nat)=>V.int (i:Int):=by
 unfold kz;rw[<-List.filterMap_eq_map];refine Yb λi hi=>?_;have:i<bx xs:=fF.mp (lI.mp hi).1;rw[aS this];rfl
theorem e9V:kz q (λ_ y=>y) xs (bx xs)=((aW (bx xs)).filter q).map λi=>xs.getD i .non:=by
 unfold kz;rw[<-List.filterMap_eq_map];refine Yb λi hi=>?_;have:i<bx xs:=fF.mp (lI.mp hi).1;simp[this]
theorem Yd{K}(hl:ah K H1 l xs)(hp:H1 p=bh)(hz:bx xs<sizeLine)q F
  (test:∀i x H ys(N:Bool->Hp->Prop),xs[i]?=av x->af H1 H->H p=av (.lst ys)->(∀H3,af H H3->N (q i) H3)->tc (((c_ 2 fr σ).set 0 (av (.int (i:Int)))).set 1 (av x)) H N)
  (step:∀i x H N,xs[i]?=av x->q i=true->af H1 H->N (F i x) H->te (((c_ 2 fr σ).set 0 (av (.int (i:Int)))).set 1 (av x)) H N)
  (hd:∀H,af H1 H->H p=av (.lst (kz q F xs (bx xs)))->D H):LF 2 fr (MW K 2 (JE (N7 0) (JE (N7 1) PQ))) tc te σ (NL K l) H1 p D:=by
 refine⟨λi m ys H=>m=bx xs-i/\i<=bx xs/\af H1 H/\H p=av (.lst ys)/\ys=kz q F xs i,⟨bx xs,by simp,dM _,af.new hp _,ae,rfl⟩,?_⟩;rintro i m ys H ⟨rfl,hi,e,hH,rfl⟩;by_cases fk:i<bx xs
 ·refine .inr ⟨⟨xs,xs[i],e.seq hl,aS fk⟩,λu H' y=>?_⟩;obtain⟨z,a,_,⟨rfl,yh⟩,Ov,rfl,rfl⟩:=y;have ha:=yh xs (e.seq hl);have s1:=af.new Ov (.tup [.int (i:Int),a]);refine⟨z,_,rfl,cq.of ae,rfl,_,_,rfl,_,_,rfl,rfl,?_,?_⟩
  ·refine⟨by simp,λk w ek=>?_⟩;have:¬k<2:=λhk=>by
    unfold c_ at ek;rw[dH (by simp_all),gD] at ek;split at ek<;>cases ek
   rw[dP (by lia),dP (by lia)];exact ek
  ·refine test i a _ _ _ ha (e.trans s1) (s1 _ _ hH) λH3 s3=>?_;have hH3:=s3 _ _ (s1 _ _ hH);cases hq:q i with
   |false =>
    rw[if_neg cX];exact⟨bx xs-(i+1),by lia,rfl,fk,e.trans (s1.trans s3),hH3,by rw[Yc ha,hq];simp⟩
   |true =>
    rw[if_pos rfl];refine step i a _ _ ha hq (e.trans (s1.trans s3)) ⟨hH3,?_,bx xs-(i+1),by lia,rfl,fk,(e.trans (s1.trans s3)).write hp,ae,by rw[Yc ha,hq];simp⟩;have:=e7x q F xs i;lia
 ·have:i=bx xs:=by lia
  subst this;exact .inl ⟨⟨xs,e.seq hl,by lia⟩,hd H e hH⟩
end L2
namespace L2
open PySem
theorem d0B K(h:X.K=K):gw X (compareOp .NotIn) (zC K true):=by subst h;exact a5H
theorem d1I(hl:ah K H1 l xs)(hp:H1 p=bh)(hz:bx xs<sizeLine)F
  (step:∀i x H(N:Bool->Hp->Prop),xs[i]?=av x->af H1 H->N (F i) H->tc (((c_ 2 fr σ).set 0 (av (.int (i:Int)))).set 1 (av x)) H N)
  (hd:∀H,af H1 H->H p=av (.lst (((aW (bx xs)).filter F).map λi=>xs.getD i .non))->D H):LF 2 fr (MW K 2 (JE (N7 0) (JE (N7 1) PQ))) tc (JB 1) σ (NL K l) H1 p D:=by
 exact Yd hl hp hz F (λ_ y=>y) (λi x H ys N hx e _ hN=>step i x H _ hx e (hN _ (af.refl _))) (λi y H N hy _ e hN=>⟨y,by simp[c_],hN⟩) λH e h=>hd H e (by rw[h,e9V])
def Ig(k:Nat)(σ:St)(H:Hp):Nat:=match σ[k]? with
 |some (av (.ref a))=>(match H a with|some (.lst xs)=>bx xs|_=>0)
 |_=>0
end L2
namespace de
open PySem L2 Fr
abbrev yK(hs:List i8)(left:List Nat):List i8:=left.map λk=>hs.getD k ([],[])
def jq(z:aC)(hs:List i8)(left:List Nat):List Nat:=Jg z (yK hs left)
def lvl(z:aC)(hs:List i8)(left:List Nat):List Nat:=(jq z hs left).map λk=>left.getD k 0
def jf(z:aC)(hs:List i8)(left:List Nat):List Nat:=((aW (bx left)).filter λk=>!(jq z hs left).contains k).map λk=>left.getD k 0
def i6(z:aC)(hs:List i8):Nat->List Nat->List (List Nat)
 |0,_=>[]
 |n+1,left=>if left=[] then [] else lvl z hs left::i6 z hs n (jf z hs left)
abbrev o6(l:List Nat):List V:=l.map λ(k:Nat)=>V.int (k:Int)
theorem d1s:∀n,i6 z hs n []=[]
 |0=>rfl
 |n+1=>by unfold i6;rw[if_pos rfl]
theorem c7L{left:List Nat}(h:k<bx left):left.getD k 0∈left:=by simp_all
theorem Ye(hG:∀g∈hs,HG br kt kg g)(hl:∀k∈left,k<bx hs):∀g∈yK hs left,HG br kt kg g:=λg hg=>by
 obtain⟨k,hk,rfl⟩:=aY.mp hg;have:=hl k hk;rw[bA,aS this];exact hG _ (eF this)
theorem Yf(h:k∈jq z hs left):k<bx left:=by
 have:=b4X h;rw[aH] at this;exact this
theorem c9D(h:k∈jf z hs left):k∈left:=by
 unfold jf at h;obtain⟨j,hj,rfl⟩:=aY.mp h;exact c7L (fF.mp (lI.mp hj).1)
theorem d2d(hG:∀g∈hs,HG br kt kg g)(ij:1<=kt)(hl:∀k∈left,k<bx hs)(mm:left≠[]):bx (jf z hs left)<bx left:=by
 obtain⟨i,hi⟩:=c8H (Ye hG hl) ij (by simp_all);unfold jf;rw[aH];have h1:((aW (bx left)).filter λk=>!(jq z hs left).contains k).length<(aW (bx left)).length:=by
  rw[List.length_filter_lt_length_iff_exists];exact⟨i,fF.mpr (Yf hi),by simpa using (show i∈jq z hs left from hi)⟩
 rw[gZ] at h1;exact h1
def nr(H:Hp)(as:List aA)(ls:List (List Nat)):Prop:=bx as=bx ls/\∀(k:Nat)a l,as[k]?=av a->ls[k]?=av l->H a=av (.lst (o6 l))
theorem nr.snoc(h:nr H as ls)(ha:H a=av (.lst (o6 l))):nr H (as++[a]) (ls++[l]):=by
 refine⟨by simp[h.1],λk b m hb hm=>?_⟩;by_cases hk:k<bx as
 ·rw[dH hk] at hb;rw[dH (h.1▸hk)] at hm;exact h.2 k b m hb hm
 ·rw[dU (by lia)] at hb;rw[dU (by rw[<-h.1];lia),<-h.1] at hm;have:k-bx as=0:=by
   cases q:k-bx as with
   |zero=>rfl
   |succ j=>rw[q] at hb;simp at hb
  rw[this] at hb hm;simp at hb hm;subst hb hm;exact ha
section
variable{P:aM}{w:aL}{K:aF}{mg:aC->Option aE}{base:aJ}{f Pt d:aA}{fd:aK}{n:Nat}{C:aA}
theorem d0n(B:O6 K H ba xs hs br kt kg)(hl:∀k∈left,k<bx hs)(hn:bx left<=16)(hp:H p=av (.lst (left.map λk=>xs.getD k .non))) :
  O6 K H p (left.map λk=>xs.getD k .non) (yK hs left) br kt kg:=by
 have xl:bx xs=bx hs:=dE B.b;refine⟨ah.of hp,?_,Ye B.g hl,B.br,by rw[aH];exact hn,B.t,B.k⟩;clear hp hn;induction left with
 |nil=>exact .nil
 |cons k r ih =>
  have hk:=hl k (.head _);have hx:xs[k]?=av xs[k]:=aS (by lia);obtain⟨h,hh,q⟩:=aZ.at B.b hx;refine .cons ?_ (ih λj hj=>hl j (.tail _ hj));show HS K H (xs.getD k V.non) (hs.getD k ([],[]));rw[bA,hx,bA,hh];exact q
inductive Yg(K:aF)(Pt:aA)(vs:List V)(H:Hp)(Q:VK)(dj:XK):Prop|mk:∀ba xs hs z br kt kg,vs=[.ref ba,.str z]->O4 z->O6 K H ba xs hs br kt kg->br<=2^50->1<=kt->LT Pt H->(∀H' r as,bj Pt H H'->LT Pt H'->H r=bh->H' r=av (.lst (as.map V.ref))->nr H' as (i6 z hs (bx hs) (aW (bx hs)))->(∀a∈as,H a=bh)->Q (.ref r) H')->Yg K Pt vs H Q dj
def lj:p7 ["book","sizes","told","left","places"] ["book","sizes"] (i9 yf):={}
theorem d2I:(["number","book"]:List aC).Nodup:=by decide
theorem d2B:(["place","left"]:List aC).Nodup:=by decide
theorem d1R:(["place","number","places"]:List aC).Nodup:=by decide
def lvT{f1:aA}{d1:aK}(N:v8 mg)(Cr:C9 P w K mg base n "rim_of" ["book","sizes"] (RL K Pt) f1 d1)
  (hr:b_ n (A.deeper (cD "levels" (i9 yf) s.heap.objs.size f ay))) :
  {t:TS//fu (N8 J8 P w K mg base ["book","sizes","told","left","places"] "levels" (i9 yf) f ay A outer s H E).oi (x9 yf) t} :=
 ⟨_,j0 (r6 (i:=2) lj.nd rfl (aI rfl) (v9 c7))
  (t8 (r6 (i:=3) lj.nd rfl (fY rfl) (v5 (Ry rfl) rfl N.list fJ (c6 (v5 Qu rfl N.range xD (c6 (j7 j6 rfl N.len bB (c6 (pv 0) c7)) c7)) c7)))
  (j0 (N4 hO (a7J (pv 3) λ_=>rfl)
   (t8 (r6 (i:=4) lj.nd rfl (fY rfl) (Cr.c hr (c6 (N6 ["number"] [0] rfl (C6 (pv 3)) (λ_ _ _ _=>j9 (i:=0) d2I rfl (aI rfl)) (λ_ _ _ _=>l8 (Wn K rfl) (pv 1) (pv 0) (λ_ _=>rfl))) (c6 (pv 1) c7))))
   (t8 (R3 (K7 iK jW jX P2 (pv 2) (c6 (N6 ["place"] [3] rfl (C6 (pv 4)) (λ_ _ _ _=>j9 (i:=0) d2B rfl (aI rfl)) (λ_ _ _ _=>l8 (Wn K rfl) (pv 1) (pv 0) (λ_ _=>rfl))) c7)))
   (j4 (r6 (i:=3) lj.nd rfl (fY rfl) (zI ["place","number"] [4] rfl (zK K rfl rfl N.enum (c6 (pv 3) c7)) (λ_ _ _ _=>IX K (n:=2) rfl rfl (p6 (j9 (i:=0) d1R rfl (aI rfl)) (p6 (j9 (i:=1) d1R rfl (aI rfl)) A4)))
    (λ_ _ _ _=>l5 (d0B K rfl) (pv 0) (pv 2) rfl) (λ_ _ _ _=>pv 1)))))))
  (j4 (o4 (pv 2)))))⟩
end
def lu(l:List Nat):dI:=.list (l.map λ(k:Nat)=>.int (k:Int))
theorem d0K z hs:bx (Jg z hs)<=bx hs:=by
 unfold Jg;refine bF (oX _ _) ?_;rw[gZ];exact aT _
theorem d0R(h:left≠[]):i6 z hs (n+1) left=lvl z hs left::i6 z hs n (jf z hs left):=by
 show(if left=[] then [] else _)=_;rw[if_neg h]
theorem c9g{k:Nat}:∀{l},Hi (.int (k:Int)) (o6 l)=l.contains k
 |[]=>rfl
 |a::r=>by
  have:=c9g (k:=k) (l:=r);unfold Hi at *;show(((V.int (a:Int))::o6 r).any λy=>GB y (V.int (k:Int)))=_;rw[jM,this,List.contains_cons];congr 1;by_cases h:k=a
  ·subst h;simp[GB]
  ·have:¬((a:Int)=(k:Int)):=by lia
   have h1:((a:Int)==(k:Int))=false:=by lia
   have h2:(k==a)=false:=by simp_all
   show((a:Int)==(k:Int))=(k==a);rw[h1,h2]
theorem d0L l:(o6 l).all Hh=true:=by
 rw[fE];intro x hx;obtain⟨k,_,rfl⟩:=aY.mp hx;rfl
theorem c9q(h:j<bx l):(o6 l)[j]?=av (.int ((l.getD j 0:Nat):Int)):=by
 rw[aP,aS h,bA,aS h];rfl
theorem c9o{j:Nat}(h:(o6 l)[j]?=av x):∃k,l[j]?=av k/\x=.int (k:Int):=by
 rw[aP] at h;cases q:l[j]? with
 |none=>rw[q] at h;cases h
 |some k=>rw[q] at h;cases h;exact⟨k,rfl,rfl⟩
theorem c8R n:((aW n).map λ(i:Nat)=>V.int (0+(i:Int)))=o6 (aW n):=fM λi _=>by rw[lH]
structure Yk(z:aC)(hs:List i8)(H H':Hp)(Pt fO la:aA)(left:List Nat)(as:List aA)(done:List (List Nat)):Prop where
 e:bj Pt H H'
 L:LT Pt H'
 Ih:H fO=bh
 told:H' fO=av (.lst (as.map V.ref))
 lst:H' la=av (.lst (o6 left))
 at_:nr H' as done
 new:∀a∈as,H a=bh/\a≠fO
 lt:∀k∈left,k<bx hs
 all:∃m,bx left<=m/\done++i6 z hs m left=i6 z hs (bx hs) (aW (bx hs))
 eQ:bx done+bx left<=bx hs
theorem c9S(F:Aj K "levels" yf f fd)(N:v8 mg)(Cr:C9 P w K mg base n "rim_of" ["book","sizes"] (RL K Pt) f1 d1):bf P w K mg base J8 (n+1) f fd ["book","sizes"] (Yg K Pt):=by
 refine F.oa lj λay A outer s H vs Q E hr h=>?_;obtain⟨ba,xs,hs,z,br,kt,kg,rfl,hz,B,hf,ij,L,k⟩:=h;refine⟨_,(lvT N Cr hr).2,?_⟩;have xl:=dE B.b;have eQ:=B.eQ;have Xf:=t9 (show(1000:Nat)<=1000 from aT _);refine⟨by decide,λfO htd=>?_⟩;have s1:=af.new htd (.lst []);refine⟨λau H'=>∃la,au=[av (.ref ba),av (.str z),av (.ref fO),av (.ref la),bh]/\Yk z hs H H' Pt fO la (aW (bx hs)) [] [],?_,?_⟩
 ·refine⟨_,rfl,ba,_,rfl,.inl (s1.seq B.l),_,rfl,λYl Ym=>⟨Yl,0,bx xs,rfl,by rw[ae,lH],by decide,by decide,by lia,λla hla=>?_⟩⟩;have t3:=(af.new Ym (.zt 0 (bx xs:Int))).trans (af.new hla (.lst ((aW (bx xs)).map λ(i:Nat)=>V.int (0+(i:Int)))));have s3:=s1.trans t3;refine⟨la,rfl,s3.ka,L.same s3,htd,t3 fO _ ae,?_,⟨rfl,nofun⟩,nofun,λj hj=>fF.mp hj,⟨bx hs,by simp,rfl⟩,by simp⟩;rw[ae,c8R,xl]
 rintro Ph H0 ⟨la,rfl,yM⟩;refine b2G (λσ H'=>∃(la':aA)(left:List Nat)(as:List aA)(done:List (List Nat))(o:Option V),σ=[av (.ref ba),av (.str z),av (.ref fO),av (.ref la'),o]/\Yk z hs H H' Pt fO la' left as done) (Ig 3)
  ⟨la,aW (bx hs),[],[],_,rfl,yM⟩ ?_ (λσ H Q Q' hq ⟨v,h1,b,h2,q⟩=>⟨v,h1,b,h2,hq _ _ q⟩)
 rintro σ H1 ⟨n_,left,as,done,o,rfl,U⟩;refine⟨_,rfl,_,⟨_,_,rfl,ah.of U.lst,rfl⟩,?_⟩;have Yo:(o6 left).isEmpty=left.isEmpty:=by cases left<;>rfl
 rw[Yo];cases hle:left.isEmpty with
 |true =>
  have CU:left=[]:=by simpa using hle
  refine M7 ?_;obtain⟨m,_,hm⟩:=U.all;rw[CU,d1s,fP] at hm;exact⟨_,rfl,k H1 fO as U.e U.L U.Ih U.told (by rw[<-hm];exact U.at_) λa ha=>(U.new a ha).1⟩
 |false =>
  refine J3 ?_;have mm:left≠[]:=λq=>by rw[q] at hle;cases hle
  have hll:bx left<=16:=by have:=U.eQ;lia
  have B1:O6 K H1 ba xs hs br kt kg:=⟨ah.fg L U.e B.l,Bk.fg L U.e B.b,B.g,B.br,B.eQ,B.t,B.k⟩;refine⟨λau H2=>∃pl:aA,au=[av (.ref ba),av (.str z),av (.ref fO),av (.ref n_),av (.ref pl)]/\Yk z hs H H2 Pt fO n_ left as done/\H2 pl=av (.lst (o6 (jq z hs left))),?_,?_⟩
  ·refine⟨_,rfl,n_,rfl,⟨_,ah.of U.lst⟩,λp hp=>(O9 (A3 (ah.of U.lst)) hp (by rw[aH];lia) (λv=>xs.getD (vI v).toNat .non) (λj x H2 N2 hx e hN=>?_) ?_)⟩
   ·obtain⟨kk,hk,rfl⟩:=c9o hx;have iw:=U.lt kk (bK hk);have hxk:xs[kk]?=av (xs.getD kk .non):=by rw[bA,aS (by lia)];rfl
    have ev:(vI (V.int (kk:Int))).toNat=kk:=by simp[vI]
    rw[ev] at hN;exact⟨Wk.set (by decide),_,rfl,_,rfl,ba,_,_,_,rfl,rfl,e.seq B1.l,A2 hxk,hN⟩
   have em:(o6 left).map (λv=>xs.getD (vI v).toNat .non)=left.map λk=>xs.getD k .non:=by
    rw[bC];refine fM λj _=>?_;show xs.getD (vI (V.int (j:Int))).toNat .non=_;rw[show(vI (V.int (j:Int))).toNat=j by simp[vI]]
   rw[em];have s4:=af.new hp (.lst (left.map λk=>xs.getD k .non));refine⟨_,rfl,p,_,yK hs left,z,br,kt,kg,rfl,hz,d0n ⟨s4.seq B1.l,Bk.same s4 B1.b,B.g,B.br,B.eQ,B.t,B.k⟩ U.lt hll ae,hf,U.L.same s4,λH2 r e2 LX hrn MB=>?_⟩;have Oy:bj Pt H1 H2:=s4.ka.trans e2;refine⟨r,rfl,⟨U.e.trans Oy,LX,U.Ih,Oy.get U.L U.told nofun,Oy.get U.L U.lst nofun,⟨U.at_.1,λj a l ha hl=>Oy.get U.L (U.at_.2 j a l ha hl) nofun⟩,U.new,U.lt,U.all,U.eQ⟩,MB⟩
  rintro Eg H2 ⟨pl,rfl,f_,wb⟩;have lp:bx (jq z hs left)<=16:=by
   have:=d0K z (yK hs left);rw[aH] at this;exact bF this hll
  refine⟨λau H3=>∃a:aA,au=[av (.ref ba),av (.str z),av (.ref fO),av (.ref n_),av (.ref pl)]/\bj Pt H H3/\LT Pt H3/\H3 fO=av (.lst ((as++[a]).map V.ref))/\H3 n_=av (.lst (o6 left))/\H3 pl=av (.lst (o6 (jq z hs left)))/\nr H3 (as++[a]) (done++[lvl z hs left])/\H a=bh/\a≠fO,?_,?_⟩
  ·refine⟨_,rfl,.inl ⟨rfl,_,ah.of f_.told⟩,_,rfl,pl,rfl,⟨_,ah.of wb⟩,λp hp=>(O9 (A3 (ah.of wb)) hp (by rw[aH];lia) (λv=>.int ((left.getD (vI v).toNat 0:Nat):Int)) (λj x H3 N2 hx e hN=>?_) ?_)⟩
   ·obtain⟨kk,hk,rfl⟩:=c9o hx;have ev:(vI (V.int (kk:Int))).toNat=kk:=by simp[vI]
    rw[ev] at hN;exact⟨Wk.set (by decide),_,rfl,_,rfl,n_,_,_,_,rfl,rfl,ah.of (e _ _ f_.lst),A2 (c9q (Yf (bK hk))),hN⟩
   have em:(o6 (jq z hs left)).map (λv=>V.int ((left.getD (vI v).toNat 0:Nat):Int))=o6 (lvl z hs left):=by
    unfold lvl o6;rw[bC,bC];refine fM λj _=>?_;show V.int ((left.getD (vI (V.int (j:Int))).toNat 0:Nat):Int)=V.int ((left.getD j 0:Nat):Int);rw[show(vI (V.int (j:Int))).toNat=j by simp[vI]]
   rw[em];have s4:=af.new hp (.lst (o6 (lvl z hs left)));have ntd:p≠fO:=λq=>by rw[q,f_.told] at hp;cases hp
   have Bv:H p=bh:=by
    cases q:H p with
    |none=>rfl
    |some o =>
     exfalso;by_cases hpP:p=Pt
     ·rw[hpP] at hp;rcases f_.L with w'|⟨_,w',_⟩<;>rw[w'] at hp<;>cases hp
     ·rw[f_.e p o hpP q] at hp;cases hp
   have las:bx as<=16:=by rw[f_.at_.1];have:=f_.eQ;lia
   refine⟨fO,_,_,rfl,rfl,s4 _ _ f_.told,by rw[aH];lia,p,rfl,(f_.e.trans s4.ka).write f_.Ih,(f_.L.same s4).write (s4 _ _ f_.told),by rw[ae,bQ];rfl,?_,?_,?_,Bv,ntd⟩
   ·have:n_≠fO:=λq=>by
     have h1:=f_.lst;rw[q,f_.told] at h1;have h3:as.map V.ref=o6 left:=(congrArg (λo=>match o with|some (HO.lst xs)=>xs|_=>[]) h1);cases left with
     |nil=>exact mm rfl
     |cons a r =>
      cases as with
      |nil=>simp at h3
      |cons b r'=>simp at h3
    rw[j3 this];exact s4 _ _ f_.lst
   ·have:pl≠fO:=λq=>by
     have h1:=wb;rw[q,f_.told] at h1;have h3:as.map V.ref=o6 (jq z hs left):=(congrArg (λo=>match o with|some (HO.lst xs)=>xs|_=>[]) h1);obtain⟨i,hi⟩:=c8H (z:=z) (Ye B.g U.lt) ij (by simpa using mm);have Ek:i∈jq z hs left:=hi;cases hq:jq z hs left with
     |nil=>rw[hq] at Ek;cases Ek
     |cons a r =>
      rw[hq] at h3;cases as with
      |nil=>simp at h3
      |cons b r'=>simp at h3
    rw[j3 this];exact s4 _ _ wb
   ·refine nr.snoc ⟨f_.at_.1,λj a l ha hl=>?_⟩ ?_
    ·rw[j3 (f_.new a (bK ha)).2];exact s4 _ _ (f_.at_.2 j a l ha hl)
    ·rw[j3 ntd];exact ae
  rintro ir H3 ⟨a,rfl,e3,L3,Yp,la3,pl3,at3,aN_,aT_⟩;refine⟨_,rfl,n_,rfl,⟨_,ah.of la3⟩,λp hp=>(d1I (ah.of la3) hp (by rw[aH];lia) (λj=>!(jq z hs left).contains j) (λj x H4 N2 hx e hN=>?_) (λH4 e Mc=>?_))⟩
  ·refine⟨_,rfl,_,rfl,pl,_,rfl,.inl (ah.of (e _ _ pl3)),rfl,d0L _,_,rfl,?_⟩;rw[if_pos rfl,c9g];exact hN
  have em:((aW (bx (o6 left))).filter λj=>!(jq z hs left).contains j).map (λi=>(o6 left).getD i .non)=o6 (jf z hs left):=by
   unfold jf o6;rw[aH,bC];refine fM λj hj=>?_;have EN:=fF.mp (lI.mp hj).1;show(o6 left).getD j .non=V.int ((left.getD j 0:Nat):Int);rw[bA,c9q EN];rfl
  rw[em] at Mc;have fk:=d2d (z:=z) B.g ij U.lt mm;refine⟨⟨p,jf z hs left,as++[a],done++[lvl z hs left],_,rfl,e3.trans e.ka,L3.same e,U.Ih,e _ _ Yp,Mc,⟨at3.1,λj b l hb hl=>e _ _ (at3.2 j b l hb hl)⟩,λb hb=>?_,λj hj=>U.lt j (c9D hj),?_,?_⟩,?_⟩
  ·rcases bJ.mp hb with hb|hb
   ·exact U.new b hb
   ·rw[cJ.mp hb];exact⟨aN_,aT_⟩
  ·obtain⟨m,r_,uL⟩:=U.all;cases m with
   |zero=>have:left=[]:=lM (by lia);exact absurd this mm
   |succ m =>
    refine⟨m,by lia,?_⟩;rw[d0R mm] at uL;rw[dC];exact uL
  ·have:=U.eQ;rw[aX,fR];lia
  ·have l1:Ig 3 [av (.ref ba),av (.str z),av (.ref fO),av (.ref p),av (.ref pl)] H4=bx (jf z hs left):=by
    show(match H4 p with|some (.lst xs)=>bx xs|_=>0)=_;rw[Mc];exact aH _
   have l2:Ig 3 [av (.ref ba),av (.str z),av (.ref fO),av (.ref n_),o] H1=bx left:=by
    show(match H1 n_ with|some (.lst xs)=>bx xs|_=>0)=_;rw[U.lst];exact aH _
   show Ig 3 [av (.ref ba),av (.str z),av (.ref fO),av (.ref p),av (.ref pl)] H4<_;rw[l1,l2];exact fk
def Yq(ls:List (List Nat)):dI:=.list (ls.map lu)
theorem Yr{z:aC}{hs:List i8}:∀(n:Nat)(left:List Nat),bx (i6 z hs n left)<=n
 |0,_=>by simp[i6]
 |n+1,left=>by
  by_cases h:left=[]
  ·rw[h,d1s];simp
  ·rw[d0R h,eM];have:=Yr (z:=z) (hs:=hs) n (jf z hs left);lia
end de
namespace L2
open PySem
theorem e8s K(h:X.K=K):TV X (O_ K):=by subst h;exact M0
theorem e9S K(h:X.K=K)(hr:b_ k X.A):gw X (compareOp .Eq) (Pl K):=by subst h;exact d0Y hr
theorem e8N xs(k:Nat)(h:k<=bx xs)(h1:1<=bx xs):P5 xs (av (k:Int)) (av (-1))=(xs.drop k).take (bx xs-1-k):=by
 have e:HT.wc (bx xs) (bx xs) (av (-1))=bx xs-1:=by
  show(if (-1:Int)<0 then ((-1:Int)+(bx xs:Int)).toNat else min (-1:Int).toNat (bx xs))=_;rw[if_pos (by decide)];lia
 unfold P5;rw[e,HT.gy,jT h]
end L2
namespace de
open PySem L2 Fr
def v4(D L x:Int):Int:=(low x D).1*(L/(low x D).2)
theorem Ys(hD:0<D)(h:(low x D).2∣L):v4 D L x*D=x*L:=by
 unfold v4;obtain⟨c,hc⟩:=h;have h0:(low x D).2≠0:=by have:=pQ (t:=x) hD;lia
 have e:L/(low x D).2=c:=by rw[hc];exact wI c h0
 rw[e,Int.mul_right_comm,zL hD,hc,cG]
theorem Ii(hD:0<D)(hL:0<L)(jP:L<=D)(h:(low x D).2∣L)(hx:fh n x):fh n (v4 D L x):=by
 have e1:(v4 D L x).natAbs*D.natAbs=x.natAbs*L.natAbs:=by rw[<-rV,<-rV,Ys hD h]
 have e2:x.natAbs*L.natAbs<=x.natAbs*D.natAbs:=Nat.mul_le_mul_left _ (by lia);rw[<-e1] at e2;have e3:=Nat.le_of_mul_le_mul_right e2 (by lia);unfold fh at *;lia
def e7U(hD:0<D)(hL:0<L)(hx:0<=x):0<=v4 D L x:=eO (e9U hD hx) (Int.ediv_nonneg (cC hL) (cC (pQ hD)))
theorem Ij(hD:0<D):∀ns xs,(∀x∈xs,(low x D).2∣L)->(cV (·*·) ns (xs.map (v4 D L))).sum*D=(cV (·*·) ns xs).sum*L
 |[],_,_=>by simp
 |_::_,[],_=>by simp
 |a::ns,x::xs,h=>by
  rw[cS,eW,eW,dW,dW,fG,fG,Ij hD ns xs λy hy=>h y (bZ _ hy),cG,Ys hD (h x cY),cG]
section
variable{P:aM}{w:aL}{K:aF}{mg:aC->Option aE}{base:aJ}{f:aA}{fd:aK}{n:Nat}
theorem Bx(hi:i<n)(hj:j<n):Wk (c_ n fr σ) (((c_ n fr σ).set i (av v)).set j (av u)):=by
 refine⟨by simp,λk w e=>?_⟩;have:¬k<n:=λhk=>by
  unfold c_ at e;rw[dH (by simp_all),gD] at e;split at e<;>cases e
 rw[dP (by lia),dP (by lia)];exact e
inductive e0w(K:aF)(vs:List V)(H:Hp)(Q:VK)(dj:XK):Prop|mk:∀a ys xs D,vs=[.ref a]->ah K H a ys->UG K H ys xs D->bx xs<=100->(∀x∈xs,fh 20000 x)->0<D->D<2^8000->(∀r tl H' L,af H H'->H' r=av (.tup [.ref tl,.int L])->H' tl=av (.lst ((xs.map (v4 D L)).map V.int))->0<L->L∣D->(∀x∈xs,(low x D).2∣L)->Q (.ref r) H')->e0w K vs H Q dj
inductive mL(K:aF)(vs:List V)(H:Hp)(Q:VK)(dj:XK):Prop|mk:∀a ys fs D,vs=[.ref a]->ah K H a ys->bR (Xc K H) ys fs->bx fs<=100->(∀f∈fs,fh 20000 f.1/\0<f.2/\f.2<2^8000/\f.2∣D)->0<D->fh 130000 D->(∀r tl H' L,af H H'->H' r=av (.tup [.ref tl,.int L])->H' tl=av (.lst (fs.map λf=>V.int (f.1*(L/f.2))))->0<L->L∣D->(∀f∈fs,f.2∣L)->Q (.ref r) H')->mL K vs H Q dj
theorem pd{f:Int->Q2}:∀{ys:List V}{xs:List Int},bx ys=bx xs->(∀i y,ys[i]?=av y->R y (f (xs.getD i 0)))->bR R ys (xs.map f)
 |[],[],_,_=>.nil
 |[],_::_,h,_=>by cases h
 |_::_,[],h,_=>by cases h
 |_::_,_::_,h,k=>.cons (k 0 _ rfl) (pd (Nat.succ.inj h) λi y hy=>k (i+1) y hy)
theorem qN{Q:V->Hp->Prop}(h:e0w K vs H Q E):mL K vs H Q E:=by
 obtain⟨a,ys,xs,D,rfl,hS,hF,hl,k_,hD,yN,q⟩:=h;refine⟨a,ys,xs.map λx=>low x D,D,rfl,hS,pd hF.1 hF.2,by rw[aH];exact hl,λf hf=>?_,hD,(Gm (cC hD) yN).mono (by decide),λr tl H' L e h1 h2 hL jP hd=>q r tl H' L e h1 ?_ hL jP λx hx=>hd _ (List.mem_map_of_mem hx)⟩
 ·obtain⟨x,hx,rfl⟩:=aY.mp hf;exact⟨Bc hD (k_ x hx),pQ hD,pI (Bb hD) yN,b4Y hD⟩
 ·rw[h2,bC,bC];rfl
def CD:p7 ["ones","shared","top","bottom"] ["ones"] (i9 l0):={}
theorem e8M:(["top","bottom","shared"]:List aC).Nodup:=by decide
theorem e8T(F:Aj K "over_one_bottom" l0 f fd)(C:CZ P w K mg base n "common_divisor" ["one","other"] Gk fa da):bf P w K mg base J8 (n+1) f fd ["ones"] (mL K):=by
 refine F.oa CD λay A outer s H vs Q E hr h=>?_;obtain⟨a,ys,fs,D,rfl,hS,hF,Yt,hb,hD,D',q⟩:=h;refine⟨_,j0 (r6 (i:=1) CD.nd rfl (fY rfl) d0)
  (j0 (IF hO rfl (C6 (pv 0)) (K4 rfl (p6 (j9 (i:=2) CD.nd rfl (aI rfl)) (p6 (j9 (i:=3) CD.nd rfl (aI rfl)) A4)))
   (j4 (r6 (i:=1) CD.nd rfl (fY rfl) (j8 Qr (j8 UA (pv 1) (C.c hr (c6 (pv 1) (c6 (pv 3) c7)))) (pv 3)))))
  (j4 (o4 (A9 (c6 (N6 ["top","bottom"] [1] rfl (C6 (pv 0)) (λ_ _ _ _=>IX K (n:=2) rfl rfl (p6 (j9 (i:=0) e8M rfl (aI rfl)) (p6 (j9 (i:=1) e8M rfl (aI rfl)) A4))) (λ_ _ _ _=>j8 Qr (pv 0) (j8 UA (pv 2) (pv 1)))) (c6 (pv 1) c7)))))),?_⟩
 have xl:ys.length=fs.length:=hF.length;have b8:∀{x:Int},0<x->x<=D->fh 1000000 x:=λh1 h2=>fh.mono (n:=130000) (gU (by lia) D') (by decide);refine⟨_,rfl,a,rfl,⟨_,hS⟩,?_⟩;refine xZ (xs:=ys) (λi σ H'=>∃(L:Int)(o2 o3:Option V),σ=[av (.ref a),av (.int L),o2,o3]/\H'=H/\0<L/\L∣D/\∀j x,j<i->fs[j]?=av x->x.2∣L)
  ⟨1,_,_,rfl,rfl,by decide,⟨D,(lE D).symm⟩,λj x hj=>absurd hj (xC _)⟩ (λi σ H' _ ⟨_,_,_,_,e,_⟩=>by rw[e];exact hS) ?_ ?_
 ·rintro i y σ H' hy ⟨L,o2,o3,rfl,rfl,hL,jP,sy⟩;obtain⟨fq,yO,b,rfl,Yu⟩:=aZ.at hF hy;obtain⟨_,hq,Yv,hqd⟩:=hb fq (bK yO);have hg:=QL (a:=L) hq;obtain⟨d1,d2⟩:=F6 hL hg (T9 L fq.2);have Yw:L/gI L fq.2<=L:=by
   have:=c8h d1 hg;rw[bX,d2] at this;exact this
  refine⟨b,_,rfl,Yu,rfl,_,_,rfl,_,_,rfl,rfl,_,rfl,_,rfl,_,rfl,L,fq.2,rfl,cC hq,_,_,rfl,rfl,⟨hg,pI (b9G (a:=L) hq) Yv⟩,_,rfl,_,_,rfl,rfl,⟨b8 d1 (xA Yw (wG hD jP)),b8 hq (wG hD hqd)⟩,_,_,_,rfl,rfl,gJ d1 hq,e8S hL hq jP hqd,λj y hj T_=>?_⟩;by_cases hji:j<i
  ·have e:L/gI L fq.2*fq.2=L*(fq.2/gI L fq.2):=by
    obtain⟨_,d4⟩:=F6 hq hg (G7 L fq.2)
    calc L/gI L fq.2*fq.2=L/gI L fq.2*(gI L fq.2*(fq.2/gI L fq.2)):=by rw[d4]
     _=(gI L fq.2*(L/gI L fq.2))*(fq.2/gI L fq.2):=by ac_rfl
     _=L*(fq.2/gI L fq.2):=by rw[d2]
   show y.2∣L/gI L fq.2*fq.2;rw[e];exact wH (sy j y hji T_)
  ·have:j=i:=by lia
   subst this;rw[yO] at T_;cases T_;exact Int.dvd_mul_of_dvd_right (Int.dvd_refl _)
 ·rintro σ H' ⟨L,o2,o3,rfl,rfl,hL,jP,sy⟩;have hdiv:∀x∈fs,x.2∣L:=λy hy=>by
   obtain⟨j,hj,rfl⟩:=rB hy;exact sy j _ (by lia) (aS hj)
  refine⟨_,rfl,a,rfl,⟨_,hS⟩,λp hp=>(N5 (A3 hS) hp (t9 (by lia)) (λi y _=>∃x,fs[i]?=av x/\y=.int (x.1*(L/x.2))) (λ_ _ _ _ r _=>r) (λi y H2 zs N hy e dy hN=>?_) (λzs H2 e dy len pr=>?_))⟩
  ·obtain⟨fq,yO,b,rfl,Yu⟩:=aZ.at hF hy;obtain⟨k_,hq,Yv,_⟩:=hb fq (bK yO);obtain⟨d1,d2⟩:=F6 hL hq (hdiv _ (bK yO));have Yw:L/fq.2<=L:=by
    have:=c8h d1 hq;rw[bX,d2] at this;exact this
   exact⟨b,_,rfl,e.cm Yu,rfl,_,_,rfl,_,_,rfl,rfl,Bx (by decide) (by decide),_,rfl,_,rfl,_,rfl,_,_,rfl,rfl,⟨hq,Yv⟩,_,_,rfl,rfl,⟨k_.mono (by decide),b8 d1 (xA Yw (wG hD jP))⟩,hN _ _ (af.refl _) ⟨fq,yO,rfl⟩⟩
  ·have ey:zs=fs.map λf=>V.int (f.1*(L/f.2)):=by
    refine dR λi=>?_;by_cases hi:i<zs.length
    ·obtain⟨x,z1,z2⟩:=pr i _ (aS hi);rw[aS hi,z2,aP,z1];rfl
    ·rw[bW (by lia),bW (by rw[aH];lia)]
   rw[ey] at dy;refine⟨_,rfl,(by show 2<=sizeLine;decide),λr MB=>?_⟩;have f2:=af.new MB (.tup [V.ref p,V.int L]);exact q r p _ L (e.trans f2) ae (f2 _ _ dy) hL jP hdiv
inductive yP(K:aF)(vs:List V)(H:Hp)(Q:VK)(dj:XK):Prop|mk:∀b1 b2 a t xs ys,vs=[.ref a,.ref t]->xt b1 K H a (xs.map V.int)->xt b2 K H t (ys.map V.int)->bx xs<=1000->(∀x∈xs,fh 100000 x)->(∀y∈ys,fh 100000 y)->(∀H',af H H'->Q (.int (cV (·*·) xs ys).sum) H')->yP K vs H Q dj
def f0q:p7 ["amounts","tops"] ["amounts","tops"] (i9 RM):={}
theorem e9w:(["amount","top"]:List aC).Nodup:=by decide
theorem e8Q(F:Aj K "come_to" RM f fd)(N:v8 mg):bf P w K mg base J8 (n+1) f fd ["amounts","tops"] (yP K):=by
 refine F.oa f0q λay A outer s H vs Q E hr h=>?_;obtain⟨b1,b2,a,t,xs,ys,rfl,ha,ht,hl,hx,hy,k⟩:=h;refine⟨_,j4 (o4 (j7 (b1s rfl) rfl N.sum xR (c6 (N6 ["amount","top"] [] rfl (e8z λb1=>e8z λb2=>QI b1 b2 K rfl rfl N.zip (c6 (pv 0) (c6 (pv 1) c7)))
  (λ_ _ _ _=>IX K (n:=2) rfl rfl (p6 (j9 (i:=0) e9w rfl (aI rfl)) (p6 (j9 (i:=1) e9w rfl (aI rfl)) A4))) λ_ _ _ _=>j8 Qr (pv 0) (pv 1)) c7))),?_⟩
 refine⟨b1,b2,_,rfl,_,rfl,a,t,rfl,⟨_,ha⟩,⟨_,ht⟩,λl jl=>(b9k ha ht jl (by rw[aH];exact t9 hl) (λu v=>.int (vI u*vI v)) (λi u v H' N' hu hv e hN=>?_) λH' e hH=>?_)⟩
 ·obtain⟨x,rfl,Eo⟩:=LY hu;obtain⟨y,rfl,Su⟩:=LY hv;exact⟨_,rfl,_,rfl,_,_,rfl,rfl,⟨(hx _ Eo).mono (by decide),(hy _ Su).mono (by decide)⟩,hN⟩
 ·rw[Sr _ (·*·) λ_ _=>rfl] at hH;exact⟨l,_,rfl,.inl (ah.of hH),k H' e⟩
structure Yx(pt pg:List Int)(ps D L:Int):Prop where
 l:0<L
 d:L∣D
 t:∀x∈pt,(low x D).2∣L
 g:∀x∈pg,(low x D).2∣L
 s:(low ps D).2∣L
inductive Ik(K:aF)(vs:List V)(H:Hp)(Q:VK)(dj:XK):Prop|mk:∀ba t xs hs pt pg ps D br kt kg,vs=[.ref ba,.ref t]->ah K H ba xs->Bk K H xs hs->bx hs<=100->(∀h∈hs,HG br kt kg h)->br<=2^60->kt<=20->kg<=20->nZ H t pt pg ps D->sr pt pg ps D kt kg->(∀r pl gl L H',af H H'->Yx pt pg ps D L->H' r=av (.tup [.ref pl,.ref gl,.int (v4 D L ps),.int L])->H' pl=av (.lst ((hs.map λh=>(cV (·*·) h.1 (pt.map (v4 D L))).sum).map V.int)) → H' gl=av (.lst ((hs.map λh=>(cV (·*·) h.2 (pg.map (v4 D L))).sum).map V.int))->Q (.ref r) H')->Ik K vs H Q dj
def AS:p7 ["book","prices","for_takes","for_gives","for_size","tops","bottom","many","paid","given"] ["book","prices"] (i9 yt):={}
theorem Il:(["takes","gives","tops","many"]:List aC).Nodup:=by decide
def f0D{fa fb:aA}{da db:aK}(T:v8 mg)(Co:C9 P w K mg base n "over_one_bottom" ["ones"] (mL K) fa da)(gW:C9 P w K mg base n "come_to" ["amounts","tops"] (yP K) fb db)
  (hr:b_ n (A.deeper (cD "worths" (i9 yt) s.heap.objs.size f ay))) :
  {t:TS//fu (N8 J8 P w K mg base ["book","prices","for_takes","for_gives","for_size","tops","bottom","many","paid","given"] "worths" (i9 yt) f ay A outer s H E).oi (x9 yt) t} :=
 ⟨_,j0 (D3 (pv 1) (K4 rfl (p6 (j9 (i:=2) AS.nd rfl (aI rfl)) (p6 (j9 (i:=3) AS.nd rfl (aI rfl)) (p6 (j9 (i:=4) AS.nd rfl (aI rfl)) A4)))))
  (j0 (D3 (Co.c hr (c6 (j8 B9 (j8 B9 (pv 2) (pv 3)) (v9 (c6 (pv 4) c7))) c7)) (K4 rfl (p6 (j9 (i:=5) AS.nd rfl (fY rfl)) (p6 (j9 (i:=6) AS.nd rfl (aI rfl)) A4))))
  (t8 (r6 (i:=7) AS.nd rfl (fY rfl) (j7 j6 rfl T.len bB (c6 (pv 2) c7)))
  (t8 (CA (i:=8) ["takes","gives"] [5,7] AS.nd rfl rfl rfl (C6 (pv 0)) (λ_ _ _ _=>IX K (n:=2) rfl rfl (p6 (j9 (i:=0) Il rfl (aI rfl)) (p6 (j9 (i:=1) Il rfl (aI rfl)) A4)))
   (λ_ _ _ _=>gW.c hr (c6 (pv 0) (c6 (B7 (e8s K rfl) (pv 2) G1 (B8 (pv 3))) c7))))
  (t8 (CA (i:=9) ["takes","gives"] [5,7] AS.nd rfl rfl rfl (C6 (pv 0)) (λ_ _ _ _=>IX K (n:=2) rfl rfl (p6 (j9 (i:=0) Il rfl (aI rfl)) (p6 (j9 (i:=1) Il rfl (aI rfl)) A4)))
   (λ_ _ _ _=>gW.c hr (c6 (pv 1) (c6 (B7 (e8s K rfl) (pv 2) (B8 (pv 3)) (B8 (Eh V2 d0))) c7))))
  (j4 (o4 (A9 (c6 (pv 8) (c6 (pv 9) (c6 (l8 j5 (pv 5) (Eh V2 d0) (λ_ _=>rfl)) (c6 (pv 6) c7)))))))))))⟩
end
end de
namespace de
open PySem
abbrev d1Z:Pos:=⟨313,40,313,104⟩
end de
namespace L2
open PySem PySem.Spec PyProof.Rows
section
variable{X:Cx}
end
end L2
namespace L2
open PySem PySem.Spec PyProof.Rows PySem.W
structure og(n:Nat)(lt:Nat->Nat->Bool):Prop where
 ir_:∀i,i<n->lt i i=false
 tr:∀i j k,i<n->j<n->k<n->lt i j=true->lt j k=true->lt i k=true
 Yy:∀i j,i<n->j<n->i≠j->lt i j=true\/lt j i=true
abbrev sE(n:Nat)(lt:Nat->Nat->Bool)(J:aG->Prop)(cmp:Nat->Nat->(Bool->aG->Prop)->aG->Prop):Prop :=
 ∀i j C s,i<n->j<n->J s->(∀s',J s'->C (lt i j) s')->cmp i j C s
def RB(n:Nat)(p:Array Nat):Prop:=p.toList.Perm (aW n)
def jr(lt:Nat->Nat->Bool)(p:Array Nat)(k:Nat):Prop:=∀i j,i<j->j<k->lt (p.getD i 0) (p.getD j 0)=true
def Dn(lt:Nat->Nat->Bool)(p:Array Nat)(k:Nat):Prop:=∀i j,i<j->j<k->lt (p.getD j 0) (p.getD i 0)=true
theorem RB.size(h:RB n p):p.size=n:=by have:=h.length_eq;simpa using this
theorem RB.bd(h:RB n p)(hi:i<n):p.getD i 0<n:=by
 have hz:=h.size;have:p.getD i 0=p[i]'(by lia):=by simp[hz,hi]
 rw[this];exact fF.mp (h.mem_iff.mp (by simp))
theorem RB.ne(h:RB n p)(hi:i<n)(hj:j<n)(ne:i≠j):p.getD i 0≠p.getD j 0:=by
 have hz:=h.size;have e1:p.getD i 0=p.toList[i]'(by grind):=by simp_all
 have e2:p.getD j 0=p.toList[j]'(by grind):=by simp_all
 rw[e1,e2];intro z;exact ne ((List.getElem_inj (h.nodup_iff.mpr Sa)).mp z)
def RB.perm(h:RB n p)(e:q.Perm p):RB n q:=(Array.perm_iff_toList_perm.mp e).trans h
theorem Im{p q:Array Nat}(h:p[i]?=q[j]?):p.getD i 0=q.getD j 0:=by simp_all
theorem YC(A:og n lt)(hc:sE n lt J cmp)(hp:RB n p):∀f m s,1<=m->m+f=n->jr lt p m->J s →
  (∀m' s',m<=m'->m'<=n->jr lt p m'->(m'=n\/lt (p.getD m' 0) (p.getD (m'-1) 0)=true)->J s'->G m' s')->(mM p f m).kasWp cmp G s
 |0,m,s,h1,hm,hu,j,k=>by
  unfold mM;exact k m s (aT _) (by lia) hu (.inl (by lia)) j
 |f+1,m,s,h1,hm,hu,j,k=>by
  unfold mM;refine hc _ _ _ s (hp.bd (by lia)) (hp.bd (by lia)) j λs' j'=>?_;cases e:lt (p.getD m 0) (p.getD (m-1) 0) with
  |true =>
   dsimp only;rw[if_pos rfl];exact k m s' (aT _) (by lia) hu (.inr e) j'
  |false =>
   dsimp only;rw[if_neg (by simp)];refine YC A hc hp f (m+1) s' (by lia) (by lia) ?_ j' λm' Nb a b c d j''=>k m' Nb (by lia) b c d j'';have up1:lt (p.getD (m-1) 0) (p.getD m 0)=true:=by
    rcases A.Yy _ _ (hp.bd (show m-1<n by lia)) (hp.bd (show m<n by lia)) (hp.ne (by lia) (by lia) (by lia)) with z|z
    ·exact z
    ·rw[e] at z;cases z
   intro i j' iy om;by_cases YD:j'<m
   ·exact hu i j' iy YD
   ·have:j'=m:=by lia
    subst this;by_cases hi:i=j'-1
    ·subst hi;exact up1
    ·exact A.tr _ _ _ (hp.bd (by lia)) (hp.bd (by lia)) (hp.bd (by lia)) (hu i (j'-1) (by lia) (by lia)) up1
theorem c9d(A:og n lt)(hc:sE n lt J cmp)(hp:RB n p):∀f m s,1<=m->m+f=n->Dn lt p m->J s →
  (∀m' s',m<=m'->m'<=n->Dn lt p m'->J s'->G (p,m',0) s')->(oT f p m 0).kasWp cmp G s
 |0,m,s,h1,hm,hu,j,k=>by
  unfold oT;exact k m s (aT _) (by lia) hu j
 |f+1,m,s,h1,hm,hu,j,k=>by
  unfold oT;refine hc _ _ _ s (hp.bd (by lia)) (hp.bd (by lia)) j λs' j'=>?_;cases e:lt (p.getD m 0) (p.getD (m-1) 0) with
  |true =>
   dsimp only;rw[if_pos rfl,if_neg (by lia)];refine c9d A hc hp f (m+1) s' (by lia) (by lia) ?_ j' λm' Nb a b c d=>k m' Nb (by lia) b c d;intro i j' iy om;by_cases YD:j'<m
   ·exact hu i j' iy YD
   ·have:j'=m:=by lia
    subst this;by_cases hi:i=j'-1
    ·subst hi;exact e
    ·exact A.tr _ _ _ (hp.bd (by lia)) (hp.bd (by lia)) (hp.bd (by lia)) e (hu i (j'-1) (by lia) (by lia))
  |false =>
   dsimp only;rw[if_neg (by simp)];have up1:lt (p.getD (m-1) 0) (p.getD m 0)=true:=by
    rcases A.Yy _ _ (hp.bd (show m-1<n by lia)) (hp.bd (show m<n by lia)) (hp.ne (by lia) (by lia) (by lia)) with z|z
    ·exact z
    ·rw[e] at z;cases z
   refine hc _ _ _ s' (hp.bd (by lia)) (hp.bd (by lia)) j' λs2 j2=>?_;dsimp only;rw[up1,if_pos rfl];exact k m s2 (aT _) (by lia) hu j2
theorem d2m(hp:RB n p)(hm:m<=n)(hd:Dn lt p m):RB n (cR p 0 m)/\jr lt (cR p 0 m) m:=by
 refine⟨hp.perm (mirror_perm _ _ _ _),λi j iy hj=>?_⟩;have hz:=hp.size;have e:∀k,k<m->(cR p 0 m).getD k 0=p.getD (m-1-k) 0:=λk hk=>Im (by
  have:=getElem?_mirror_all (xs:=p) (i:=0) (j:=m) (by lia) k;rw[if_pos ⟨Nat.zero_le _,hk⟩] at this;unfold cR;rw[this];congr 1;lia)
 rw[e i (by lia),e j hj];exact hd _ _ (by lia) (by lia)
theorem d0T(A:og n lt)(hc:sE n lt J cmp)(hp:RB n p)(h1:1<=m)(hm:m<=n)(hd:Dn lt p m)(j:J s)
  (k:∀m' q s',1<=m'->m'<=n->RB n q->jr lt q m'->J s'->G (m',q) s'):(kas_tail3 m n p).kasWp cmp G s:=by
 unfold kas_tail3;rw[cE];obtain⟨r1,r2⟩:=d2m hp hm hd;exact YC A hc r1 _ m s h1 (by lia) r2 j λm' s' a b c _ j'=>k m' _ s' (by lia) b r1 c j'
theorem c8L(A:og n lt)(hc:sE n lt J cmp)(hp:RB n p)(hm:m+1<=n)(hd:Dn lt p (m+1))(j:J s)
  (k:∀m' q s',1<=m'->m'<=n->RB n q->jr lt q m'->J s'->G (m',q) s'):(Sj m n p).kasWp cmp G s:=by
 unfold Sj;rw[cE];refine c9d A hc hp _ (m+1) s (by lia) (by lia) hd j λm' s' a b c j'=>?_;rw[if_neg (by lia)];exact d0T A hc hp (show 1<=m' by lia) b c j' k
theorem d0s(A:og n lt)(hc:sE n lt J cmp)(hp:RB n p)(h1:1<=n)(j:J s)
  (k:∀m' q s',1<=m'->m'<=n->RB n q->jr lt q m'->J s'->G (m',q) s'):(kas_count n p).kasWp cmp G s:=by
 unfold kas_count;rw[cE];refine YC A hc hp _ 1 s (aT _) (by lia) (λi j a b=>by lia) j λm s' a b c d j'=>?_;by_cases hmn:m=n
 ·rw[if_pos (by lia)];exact k m p s' a b hp c j'
 rw[if_neg (by lia)];have fk:=d.resolve_left hmn;by_cases r_:m>1
 ·rw[if_pos r_];refine hc _ _ _ s' (hp.bd (by lia)) (hp.bd (by lia)) j' λs2 j2=>?_;dsimp only;rw[c 0 (m-1) (by lia) (by lia),if_pos rfl];exact k m p s2 a b hp c j2
 ·rw[if_neg r_];have:m=1:=by lia
  subst this;refine c8L A hc hp (by lia) (λi j iy hj=>?_) j' k;have hi:i=0:=by lia
  have hj:j=1:=by lia
  subst hi;subst hj;exact fk
theorem YF(A:og n lt)(hc:sE n lt J cmp)(hp:RB n p)(hk:k<n)(hu:jr lt p k):∀f l r s,l<=r->r<=k->r-l<=f->(∀i,i<l->lt (p.getD i 0) (p.getD k 0)=true)->(∀i,r<=i->i<k->lt (p.getD k 0) (p.getD i 0)=true)->J s →
  (∀l' s',l'<=k->(∀i,i<l'->lt (p.getD i 0) (p.getD k 0)=true)->(∀i,l'<=i->i<k->lt (p.getD k 0) (p.getD i 0)=true)->J s'->G l' s')->(Bi p k f l r).kasWp cmp G s
 |0,l,r,s,hlr,Io,hf,a,b,j,q=>by
  unfold Bi;have:l=r:=by lia
  subst this;exact q l s Io a b j
 |f+1,l,r,s,hlr,Io,hf,a,b,j,q=>by
  unfold Bi;by_cases hl:l ≥ r
  ·rw[if_pos hl];have:l=r:=by lia
   subst this;exact q l s Io a b j
  rw[if_neg hl];have m1:l<=(l+r)/2:=by lia
  refine hc _ _ _ s (hp.bd hk) (hp.bd (by lia)) j λs' j'=>?_;cases e:lt (p.getD k 0) (p.getD ((l+r)/2) 0) with
  |true =>
   dsimp only;rw[if_pos rfl];refine YF A hc hp hk hu f l _ s' m1 (by lia) (by lia) a (λi h1 h2=>?_) j' q;by_cases hi:i=(l+r)/2
   ·subst hi;exact e
   ·exact A.tr _ _ _ (hp.bd hk) (hp.bd (by lia)) (hp.bd (by lia)) e (hu _ i (by lia) h2)
  |false =>
   dsimp only;rw[if_neg (by simp)];have up1:lt (p.getD ((l+r)/2) 0) (p.getD k 0)=true:=by
    rcases A.Yy _ _ (hp.bd (show(l+r)/2<n by lia)) (hp.bd hk) (hp.ne (by lia) (by lia) (by lia)) with z|z
    ·exact z
    ·rw[e] at z;cases z
   refine YF A hc hp hk hu f _ r s' (by lia) Io (by lia) (λi h1=>?_) b j' q;by_cases hi:i=(l+r)/2
   ·subst hi;exact up1
   ·exact A.tr _ _ _ (hp.bd (by lia)) (hp.bd (by lia)) (hp.bd hk) (hu i _ (by lia) (by lia)) up1
theorem d0a(A:og n lt)(hp:RB n p)(hk:k<n)(hl:l<=k)(hu:jr lt p k)(a:∀i,i<l->lt (p.getD i 0) (p.getD k 0)=true)(b:∀i,l<=i->i<k->lt (p.getD k 0) (p.getD i 0)=true) :
  RB n (bubble p k (k-l))/\jr lt (bubble p k (k-l)) (k+1):=by
 refine⟨hp.perm (bubble_perm _ _ _),?_⟩;have hz:=hp.size;have e0:(bubble p k (k-l)).getD l 0=p.getD k 0:=Im (by rw[Da (by lia) _ (by lia),if_pos (by lia)]);have e1:∀i,i<l->(bubble p k (k-l)).getD i 0=p.getD i 0:=λi hi=>Im (by rw[Da (by lia) _ (by lia),if_neg (by lia),if_neg (by lia)]);have e2:∀i,l<i->i<=k->(bubble p k (k-l)).getD i 0=p.getD (i-1) 0:=λi h1 h2=>Im (by rw[Da (by lia) _ (by lia),if_neg (by lia),if_pos (by lia)]);intro i j iy hj;rcases Nat.lt_trichotomy j l with z|z|z
 ·rw[e1 i (by lia),e1 j z];exact hu i j iy (by lia)
 ·subst z;rw[e0,e1 i iy];exact a i iy
 ·rw[e2 j z (by lia)];rcases Nat.lt_trichotomy i l with y|y|y
  ·rw[e1 i y];exact hu i (j-1) (by lia) (by lia)
  ·subst y;rw[e0];exact b (j-1) (by lia) (by lia)
  ·rw[e2 i y (by lia)];exact hu (i-1) (j-1) (by lia) (by lia)
theorem d0P(A:og n lt)(hc:sE n lt J cmp):∀f p k s,RB n p->k+f=n->jr lt p k->J s->(∀q s',RB n q->jr lt q n->J s'->G q s')->(fB f p k).kasWp cmp G s
 |0,p,k,s,hp,hk,hu,j,q=>by
  unfold fB;have:k=n:=by lia
  subst this;exact q p s hp hu j
 |f+1,p,k,s,hp,hk,hu,j,q=>by
  unfold fB;rw[cE];refine YF A hc hp (show k<n by lia) hu k 0 k s (dM _) (aT _) (by lia) (λi h=>by lia) (λi h1 h2=>by lia) j λl s' hl a b j'=>?_;obtain⟨r1,r2⟩:=d0a A hp (show k<n by lia) hl hu a b;exact d0P A hc f _ (k+1) s' r1 (by lia) r2 j' q
theorem d1i(A:og n lt)(hc:sE n lt J cmp)(h1:1<=n)(j:J s)(q:∀p s',RB n p->jr lt p n->J s'->G p s'):(kas_sort n).kasWp cmp G s:=by
 unfold kas_sort;rw[cE];refine d0s A hc (show RB n (List.toArray (aW n)) from Ty _) h1 j λm p s' a b hp hu j'=>?_;by_cases hm:m<n
 ·rw[if_pos hm,show max m 1=m by lia];exact d0P A hc _ p m s' hp (by lia) hu j' q
 ·rw[if_neg hm];have:m=n:=by lia
  subst this;exact q p s' hp hu j'
section
variable{X:Cx}{bz:List (aA×Obj)}{σ:St}{H:Hp}{s:aG}{fr:List Nat}{scope:cQ}{col:aC}{qual:aC}{f:aA}{cd:aE}{A':aV}
theorem c9E(I:Inv X bz σ H s)(hA:A'.frames=av X.stack)(hh:A'.handled=X.A.handled)
  (NQ:A'.depth<recursionLimit) (hk:scope.kind=.function) (h:BA X.env.scope scope X.N fr=true)
  (kf:∀x∈scope.names,x.2≠.cell) (CI:scope.names.lookup col=av .local) (UZ:scope.isCoroutine=false) (JX:scope.isGenerator=false)
  (hf:s.heap.get? f=av (oU "<lambda>" qual params body scope (p_ X.env scope.names []) pm c' BE)) (xo:s.heap.CodeRec (.ref c') qual)
  (hb:∀u,bindArgs (W.kla_fn "<lambda>" qual params body scope (p_ X.env scope.names []) pm (.ref c') BE) ⟨[u],[]⟩=pure [(col,u)])
  (fz:PE (QN X col fr qual scope f (.ref c') A' s H) body t) (r:RelV v u) (ht:t (av v::LB fr σ) H P)
  (q:∀w H' y s',RelV w y->P w H'->Inv X bz σ H' s'->Q y s'):wpAny (model X.prog X.w) A' (call (.ref f) [u]) Q E s:=by
 refine lV (W.kla_callFunE NQ hf rfl UZ JX rfl xo ?_);rw[hb u];refine bG (wpAny_newFunctionEnv kf (λy hy=>?_) (λh₁ EL P0=>?_) hk)
 ·cases cJ.mp hy;exact CI
 ·have kp:=λb o e=>P0.extBut b o (dB (bN e)) (bL _ e);refine⟨I.nolimit.keeps kp,W.kla_codeExpr (eY (fz [] _ _ _ _ (I.lam (qual:=qual) (f:=f) (cd:=.ref c') (t':=s.toks+[(col,u)].length) hA hh hk h kf CI EL kp r) ht) (λy s' hy=>?_) λe s' z=>eD z)⟩;obtain⟨w,H',J',G',hp⟩:=hy;exact q w H' y s' G' hp (I.call' J'.os J'.base J'.ck J'.bare λb hb=>by cases hb)
end
theorem c8T(h:Q (!a&&b) s):wpAny (model prog w) A (oneLt' true (.bool a) (.bool b)) Q E s:=by
 rw[oneLt'_eq];refine aN (wpAny_cRoomFor_byValue rfl (aN (wpAny_callSpecialIfBound?_slot rfl Sy ?_)));refine oQ Sy rfl F.entry_int_lt ?_ (F.args_int_lt_2 _ _);cases a<;>cases b
 ·show wpAny _ _ (ret (.bool (decide ((0:Int)<0)))) _ _ s;exact bG ⟨_,rfl,gC h⟩
 ·show wpAny _ _ (ret (.bool (decide ((0:Int)<1)))) _ _ s;exact bG ⟨_,rfl,gC h⟩
 ·show wpAny _ _ (ret (.bool (decide ((1:Int)<0)))) _ _ s;exact bG ⟨_,rfl,gC h⟩
 ·show wpAny _ _ (ret (.bool (decide ((1:Int)<1)))) _ _ s;exact bG ⟨_,rfl,gC h⟩
theorem c7W(h:Q (decide (a<b)) s):wpAny (model prog w) A (oneLt' false (.int a t) (.int b u)) Q E s:=by
 rw[oneLt'_eq];exact aN (vD (λi=>[a,b].getD i 0) (λi v h=>h) 0 1 _ _ _ _ _ ⟨t,rfl⟩ ⟨u,rfl⟩ (gC h))
abbrev YG:=Bool×Int×Int
def jh(k k':YG):Bool:=if k.1=k'.1 then (if k.2.1=k'.2.1 then decide (k.2.2<k'.2.2) else decide (k.2.1<k'.2.1)) else (!k.1&&k'.1)
def qh(k:YG):List V:=[.bl k.1,.int k.2.1,.int k.2.2]
theorem c8b k:jh k k=false:=by simp[jh]
theorem Ip:jh a b=true ↔ (a.1=false/\b.1=true)\/(a.1=b.1/\(a.2.1<b.2.1\/(a.2.1=b.2.1/\a.2.2<b.2.2))):=by
 unfold jh;by_cases e1:a.1=b.1
 ·rw[if_pos e1];have n1:¬(a.1=false/\b.1=true):=by rw[e1];rintro⟨z,y⟩;rw[z] at y;cases y
  by_cases e2:a.2.1=b.2.1
  ·rw[if_pos e2,decide_eq_true_iff];constructor
   ·intro h;exact .inr ⟨e1,.inr ⟨e2,h⟩⟩
   ·rintro(z|⟨_,z|⟨_,z⟩⟩)
    ·exact absurd z n1
    ·lia
    ·exact z
  ·rw[if_neg e2,decide_eq_true_iff];constructor
   ·intro h;exact .inr ⟨e1,.inl h⟩
   ·rintro(z|⟨_,z|⟨z,_⟩⟩)
    ·exact absurd z n1
    ·exact z
    ·exact absurd z e2
 ·rw[if_neg e1];constructor
  ·intro h;have h':(!a.1)=true/\b.1=true:=by simp_all
   exact .inl ⟨by simpa using h'.1,h'.2⟩
  ·rintro(⟨z,y⟩|⟨z,_⟩)
   ·rw[z,y];rfl
   ·exact absurd z e1
theorem d0b(h:jh a b=true)(h':jh b c=true):jh a c=true:=by
 rw[Ip] at *;rcases h with⟨h1,h2⟩|⟨h1,h2⟩<;>rcases h' with⟨g1,g2⟩|⟨g1,g2⟩
 ·exact .inl ⟨h1,g2⟩
 ·exact .inl ⟨h1,g1▸h2⟩
 ·exact .inl ⟨h1▸g1,g2⟩
 ·exact .inr ⟨h1.trans g1,by lia⟩
theorem c9K(h:a.2.2≠b.2.2):jh a b=true\/jh b a=true:=by
 rw[Ip,Ip];cases e:a.1<;>cases e':b.1
 ·by_cases z:a.2.1<b.2.1\/(a.2.1=b.2.1/\a.2.2<b.2.2)
  ·exact .inl (.inr ⟨rfl,z⟩)
  ·exact .inr (.inr ⟨rfl,by lia⟩)
 ·exact .inl (.inl ⟨rfl,rfl⟩)
 ·exact .inr (.inl ⟨rfl,rfl⟩)
 ·by_cases z:a.2.1<b.2.1\/(a.2.1=b.2.1/\a.2.2<b.2.2)
  ·exact .inl (.inr ⟨rfl,z⟩)
  ·exact .inr (.inr ⟨rfl,by lia⟩)
theorem d1T(hx:gP s.heap x cx.toArray)(hy:gP s.heap y e_.toArray)(rx:Vals (qh k) cx)(ry:Vals (qh k') e_)(h:Q (jh k k') s) :
  wpAny (model prog w) A (keyLt' (tuples' true) (.ref x) (.ref y)) Q E s:=by
 obtain⟨k1,k2,k3⟩:=k;obtain⟨l1,l2,l3⟩:=k';obtain⟨ox,ex,_,nx,dx⟩:=hx;obtain⟨oy_,ey,_,ny_,dy_⟩:=hy;rcases rx with _|⟨a1,_|⟨a2,_|⟨a3,_|_⟩⟩⟩;rcases ry with _|⟨b1,_|⟨b2,_|⟨b3,_|_⟩⟩⟩;cases a1;cases b1;obtain⟨t2,rfl⟩:=a2;obtain⟨t3,rfl⟩:=a3;obtain⟨u2,rfl⟩:=b2;obtain⟨u3,rfl⟩:=b3;refine kat_lt ex dx ey dy_ ?_;refine Kn (zX k1 l1 prog w _ _ ?_);by_cases e1:k1=l1
 ·subst e1;rw[show(k1==k1)=true by simp];refine Op (Kn (wpAny_eqBool_int ?_));by_cases e2:k2=l2
  ·subst e2;rw[show(k2==k2)=true by simp];refine Op (Kn (wpAny_eqBool_int ?_));by_cases e3:k3=l3
   ·subst e3;rw[show(k3==k3)=true by simp];refine Op (kat_nil ?_);rw[c8b] at h;exact h
   ·rw[show(k3==l3)=false by simpa using e3];refine kat_no (c7W ?_);simpa[jh] using h
  ·rw[show(k2==l2)=false by simpa using e2];refine kat_no (c7W ?_);simpa[jh,e2] using h
 ·rw[show(k1==l1)=false by simpa using e1];refine kat_no (c8T ?_);simpa[jh,e1] using h
theorem c8I{n:Nat}(hh:A.handled=bh)(hr:IsRange s.heap r a b c t u v)(vv:Uf a b c=true)
  (hn:sU a b c=n) (hlen:n<=2^24)
  (hQ:∀h' tk acc,(∀b o,s.heap.get? b=av o->h'.get? b=av o)->ItemsOf (λi v=>∃t,v=.int (a+i*c) t) acc n->Q acc.toList {s with heap:=h',toks:=tk}) :
  wpAny (model prog w) A (collect (.ref r)) Q E s:=by
 unfold collect;refine aN (wpAny_runValue (rE F.entry_proto_collect ?_));rw[wN F.plain_proto_collect _];refine aN (lQ (bG ⟨plainId_quiet Tk _,rE F.entry_list_iadd ?_⟩));rw[wN Tk _];have hS:(s.heap.push {cls:=.type "list",data:=.seq ([]:List aE).toArray}).get? s.heap.objs.size=av {cls:=.type "list",data:=.seq #[]}:=dG _ rfl;refine wpAny_extend_range (R:=λr s'=>match r with
  |.ok (.ret v)=>wpAny (model prog w) A (match v with
   |.ref a=>(do
    let o <- load a;match o.data with
    |.seq xs _=>pure xs.toList
    |_=>unsupported "internal:collect")
   |_=>unsupported "internal:collect") Q E s'
  |.ok _=>False
  |.error e=>E e s') hh (bL _ hr) vv hn hlen _ _ 0 hS λh' tk J_ c' hk BG NU=>?_
 exact aN (nE BG (bG (hQ h' tk J_ (λb o e=>hk b o (dB (bN e)) (bL _ e)) NU)))
end L2
namespace L2
open PySem PySem.Spec PyProof.Rows PySem.W
section
variable{X:Cx}{bz:List (aA×Obj)}{σ:St}{H H':Hp}{s:aG}{kS_ D fq:aA}{ns:List Int}{g:Int->Bool×Int}{E:aE->aG->Prop}
abbrev js(g:Int->Bool×Int)(m:Int):YG:=((g m).1,(g m).2,m)
def du(g:Int->Bool×Int)(H:Hp)(ns:List Int)(vs:List V):Prop:=aZ (λm v=>∃t,v=V.ref t/\H t=av (.tup (qh (js g m)))) ns vs
theorem du.same(h:du g H ns vs)(e:∀b xs,H b=av (.tup xs)->H' b=av (.tup xs)):du g H' ns vs:=by
 induction h with
 |nil=>exact .nil
 |cons r _ ih =>
  obtain⟨t,z,q⟩:=r;exact .cons ⟨t,z,e _ _ q⟩ ih
theorem du.snoc(h:du g H ns vs)(q:H t=av (.tup (qh (js g m)))):du g H (ns++[m]) (vs++[.ref t]):=by
 induction h with
 |nil=>exact .cons ⟨t,rfl,q⟩ .nil
 |cons r _ ih=>exact .cons r ih
abbrev S1(a:aA)(o:Obj):HO:=.ext λh=>h.get? a=av o
abbrev d0Q(X:Cx)(bz:List (aA×Obj))(σ:St)(H:Hp)(fq:aA)(ns:List Int)(g:Int->Bool×Int):Prop :=
 ∀H',af H H'->∀m∈ns,∀u s Q E,Inv X bz σ H' s->RelV (.int m) u →
  (∀t s',H' t=bh->Inv X bz σ (upd H' t (.tup (qh (js g m)))) s'->Q (.ref t) s')->wpAny (model X.prog X.w) X.A.in1.in1 (call (.ref fq) [u]) Q E s
theorem c9m{C:List aE->aG->Prop}
  (hb:∀x(s:aG)(R:aG->Prop),wpAny M A (call f [x]) (λk s'=>∃(ks:List aE)(e:Nat),s'.heap.get? kS_=av (seqObj "list" ks.toArray e)/\bx ks<64/\R {s' with heap:=s'.heap.update kS_ (gT (·.push k))}) (λ_ _=>False) s →
   wpAny M A (body x ⟨⟩) (λr s'=>r=.yield ⟨⟩/\R s') E s)
  (st:∀x r s,C (x::r) s->wpAny M A (call f [x]) (λk s'=>∃(ks:List aE)(e:Nat),s'.heap.get? kS_=av (seqObj "list" ks.toArray e)/\bx ks<64/\C r {s' with heap:=s'.heap.update kS_ (gT (·.push k))}) (λ_ _=>False) s) :
  ∀r s,C r s->wpAny M A (forIn r PUnit.unit body) (λ_ s'=>C [] s') E s
 |[],s,h=>by rw[qZ];exact bG h
 |x::r,s,h=>by
  rw[oA];refine aN (eY (hb x s (C r) (st x r s h)) (λq s' hq=>?_) λ_ _ z=>z);obtain⟨rfl,h'⟩:=hq;exact c9m hb st r s' h'
theorem Inv.BK{o:Obj}(I:Inv X bz σ H s)(hH:H D=av (S1 D (seqObj "list" #[] n)))
  (hf:f #[]=e_.toArray) (hv:Vals ys e_) (hz:bx ys<=sizeLine) :
  Inv X bz σ (upd H D (.lst ys)) {s with heap:=s.heap.update D (gT f)}:=by
 have q:=Ag (show s.heap.get? D=av {cls:=.type "list",data:=.seq (([]:List aE).toArray) n} from((I.ck D _ hH).1)) f;rw[hf] at q;exact I.write (hH▸trivial) (.inl rfl) (λb' u hb hu=>(uB s.heap (gT f) (bV hb)).trans hu) ⟨_,q⟩ ⟨hz,e_,_,hv,q⟩
def Iq(g:Int->Bool×Int)(ns ns':List Int):Prop:=ns'.Perm ns/\ns'.Pairwise λa b=>jh (js g a) (js g b)=true
theorem c9i{st}{ns':List Int}(I:Inv X bz σ H s)(hk:H kS_=av (.lst vs))(hD:H D=av (S1 D (seqObj "list" #[] e1)))
  (hv:vs.length<64) (ho:(arrOf st).map (·.2)=out.toArray) (ro:Vals (ns'.map V.int) out) (hn:ns'.length<64) (hf:failedOf st=bh)
  (k:∀s',Inv X bz σ (upd (upd H kS_ (.lst [])) D (.lst (ns'.map V.int))) s'->P (.done (.ret .none)) s'):wpAny (model X.prog X.w) A (ksk_tail D false e1 (.ref kS_) st) P E s:=by
 obtain⟨z,cx,c,r,hl,e⟩:=I.Cz hk;have lo:out.length=ns'.length:=by have:=ro.length;simpa using this.symm
 unfold ksk_tail
 try dsimp only
 rw[ho];have I1:=I.JM (t':=s.toks) (f:=λ_=>#[]) hk e rfl .nil (dM _);refine aN (hW e rfl (aN (jR ?_)) (by simp_all) (dM _));have hD1:(upd H kS_ (.lst [])) D=av (S1 D (seqObj "list" #[] e1)):=by rw[j3 (J7 hD hk nofun)];exact hD
 have eD_:=(I1.ck D _ hD1).1;refine aN (seqEpoch_at eD_ rfl ?_);have I2:=I1.BK (o:=default) (f:=λ_=>out.toArray) hD1 rfl ro (by rw[aH];exact bF (gQ hn) (by decide));refine aN (hW eD_ rfl ?_ (dM _) (by show out.toArray.size<=_;rw[bY,bE];lia));rw[hf];simp only[bne_self_eq_false,uT,if_false];exact bG (k _ I2)
theorem d0N{α:Type}{R:α->α->Prop}:∀{l:List α},bx l<2->l.Pairwise R
 |[],_=>.nil
 |[_],_=>.cons (λb hb=>by cases hb) .nil
theorem c7t:∀{l}{l':List β}{i:Nat}{a},aZ F l l'->l[i]?=av a->∃b,l'[i]?=av b/\F a b
 |_,_,_,_,.nil,e=>by simp at e
 |_,_,0,_,.cons r _,e=>by simp at e;subst e;exact⟨_,rfl,r⟩
 |_,_,i+1,x,.cons _ t,e=>by
  obtain⟨b,h1,h2⟩:=c7t t (by simpa using e);exact⟨b,by simpa using h1,h2⟩
theorem d0J(h:du g H ns vs)(r:Vals vs ks)(I:Inv X bz σ H s)(hi:i<bx ns):∃t cx,ks.getD i iN=.ref t/\gP s.heap t cx.toArray/\Vals (qh (js g (ns.getD i 0))) cx:=by
 have e:ns[i]?=av (ns.getD i 0):=by rw[bA,aS hi];rfl
 obtain⟨v,hv,t,rfl,q⟩:=c7t h e;obtain⟨u,hu,ru⟩:=r.get hv;cases ru;obtain⟨_,cx,rt,ht⟩:=I.ck t _ q;exact⟨t,cx,by rw[bA,hu];rfl,ht,rt⟩
theorem c7M:∀{ns}{vs}{ks},du g H ns vs->Vals vs ks->mz H h->∃fs,KatTups h ks fs/\bx fs=bx ns/\∀v∈fs,∃b,v=pT b
 |_,_,_,.nil,.nil,_=>⟨[],.nil,rfl,λv hv=>by cases hv⟩
 |_,_,_,.cons ⟨t,e,q⟩ hr,.cons rv rr,I=>by
  subst e;cases rv;obtain⟨fs,k1,k2,k3⟩:=c7M hr rr I;obtain⟨_,cx,rt,o,ho,hc,n,hd⟩:=I t _ q;rcases rt with _|⟨a1,_|⟨a2,_|⟨a3,_|_⟩⟩⟩;cases a1;exact⟨_::fs,KatTups.cons ho hc hd rfl k1,congrArg (·+1) k2,λv hv=>(bH.mp hv).elim (λz=>⟨_,z⟩) (k3 v)⟩
theorem d2t(I:Inv X bz σ H s)(hk:H kS_=av (.lst vs))(hD:H D=av (S1 D (seqObj "list" #[] e1)))
  (K:du g H ns vs) (rk:Vals vs ks) (ri:Vals (ns.map V.int) cx) (hn:ns.length<64) (nd:ns.Nodup)
  (k:∀ns' s',Iq g ns ns'->Inv X bz σ (upd (upd H kS_ (.lst [])) D (.lst (ns'.map V.int))) s'->P (.done (.ret .none)) s') :
  wpAny (model X.prog X.w) X.A.in1.in1 (ksk_end D false cx.toArray e1 (.ref kS_) ks.toArray) P E s:=by
 have li:cx.length=ns.length:=by have:=ri.length;simpa using this.symm
 have lv:=K.length.symm;have lk:ks.length=cx.length:=by rw[<-rk.length,lv,li]
 unfold ksk_end
 try dsimp only
 by_cases h2:cx.toArray.size<2
 ·rw[if_pos h2,if_pos h2];refine aN (bG ?_);rw[StateT.run_pure];refine aN (bG ?_)
  try dsimp only
  refine c9i I hk hD (by lia) ?_ ri hn rfl λs' I'=>k ns s' ⟨.refl _,?_⟩ I'
  ·apply Array.toList_inj.mp;show((ks.toArray.zip cx.toArray).map (·.2)).toList=cx.toArray.toList;simp only[Array.toList_map,Array.toList_zip];exact List.map_snd_zip (by lia)
  ·have:ns.length<2:=by rw[bY] at h2;lia
   exact d0N this
 ·rw[if_neg h2,if_neg h2];rw[bY] at h2;obtain⟨fs,kt,lf,bf_⟩:=c7M K rk I.ck;refine aN (kat_kind (T:=.type "bool") kt (by lia) (λv hv=>?_) (by rfl) ?_)
  ·obtain⟨b,rfl⟩:=bf_ v hv;exact .now
  ·have ht:(pV "bool" != pV "tuple")=true:=by rfl
   rw[ht];let lt:Nat->Nat->Bool:=λi j=>jh (js g (ns.getD i 0)) (js g (ns.getD j 0));have AO_:og cx.length lt:=by
    refine⟨λi _=>c8b _,λi j k _ _ _ a b=>d0b a b,λi j hi hj ne=>c9K ?_⟩;have ei:ns.getD i 0=ns[i]'(by lia):=by grind
    have ej:ns.getD j 0=ns[j]'(by lia):=by grind
    rw[ei,ej];exact λz=>ne ((List.getElem_inj nd).mp z)
   refine aN (eY (kat_run (Q:=λx_ s'=>s'=s/\∃p:Array Nat,RB cx.length p/\jr lt p cx.length/\arrOf x_=p.map (kas_item (ks.toArray.zip cx.toArray))/\failedOf x_=bh)
    (G:=λp s'=>s'=s/\RB cx.length p/\jr lt p cx.length) lk (by lia) (by lia) (λp' x_ s' a1 a2 a3 a4=>⟨a4.1,p',a4.2.1,a4.2.2,a2,a3⟩)
    (d1i (J:=λs'=>s'=s) AO_ (λi j C s' hi hj iq hC=>?_) (by lia) rfl λp s' a b c=>⟨c,a,b⟩)) ?_ λ_ _ x=>x)
   ·subst iq;obtain⟨t1,it1,e1,q1,r1⟩:=d0J K rk I (i:=i) (by lia);obtain⟨t2,it2,e2,q2,r2⟩:=d0J K rk I (i:=j) (by lia);show wpAny (model X.prog X.w) X.A.in1.in1 (keyLt' (tuples' true) (ks.getD i iN) (ks.getD j iN)) C (λ_ _=>False) _;rw[e1,e2];exact d1T q1 q2 r1 r2 (hC _ rfl)
   ·rintro⟨⟨⟩,x_⟩ s' ⟨rfl,p,hp,hu,har,hf⟩
    try dsimp only
    have hz:=hp.size;let ns':List Int:=p.toList.map λi=>ns.getD i 0;have ro:Vals (ns'.map V.int) (p.toList.map λi=>cx.getD i iN):=by
     rw[bC];have:∀(q:List Nat),(∀i∈q,i<ns.length)->Vals (q.map (V.int∘λi=>ns.getD i 0)) (q.map λi=>cx.getD i iN):=by
      intro q;induction q with
      |nil=>intro _;exact .nil
      |cons a q ih =>
       intro hq;refine .cons ?_ (ih λi hi=>hq i (bZ _ hi));have e:(ns.map V.int)[a]?=av (V.int (ns.getD a 0)):=by rw[aP,bA,aS (hq a cY)];rfl
       obtain⟨u,hu,ru⟩:=ri.get e;show RelV (V.int (ns.getD a 0)) (cx.getD a iN);have e2:cx.getD a iN=u:=by rw[bA,hu];rfl
       rw[e2];exact ru
     exact this _ λi hi=>by have:=fF.mp (hp.mem_iff.mp hi);lia
    have ln:ns'.length=ns.length:=by show(p.toList.map _).length=_;rw[aH,lO,hz,li]
    refine c9i (ns':=ns') I hk hD (by lia) (kat_snds lk har) ro (by lia) hf λs' I'=>k ns' s' ⟨?_,?_⟩ I'
    ·have e0:ns=(aW cx.length).map λi=>ns.getD i 0:=by
      apply Tl
      ·simp[li]
      ·intro i h1 h2;simp[show i<ns.length from h1]
     have:=List.Perm.map (λi=>ns.getD i 0) hp;rw[<-e0] at this;exact this
    ·show(p.toList.map λi=>ns.getD i 0).Pairwise _;rw[List.pairwise_map,List.pairwise_iff_getElem];intro i j hi hj iy;have:=hu i j iy (by simp_all);have gi_:p.getD i 0=p.toList[i]:=by simp[bI,show i<p.size by rw[lO] at hi;lia]
     have Ic:p.getD j 0=p.toList[j]:=by simp[bI,show j<p.size by rw[lO] at hj;lia]
     rw[gi_,Ic] at this;exact this
theorem d1G(I:Inv X bz σ H s)(turn:d0Q X bz σ H' fq ns g)(sm:af H' H)(fk_:H' kS_=bh)(hk:H kS_=av (.lst []))(hD:H D=av (S1 D (seqObj "list" #[] e1)))
  (ri:Vals (ns.map V.int) cx) (hn:bx ns<64) (nd:ns.Nodup)
  (k:∀ns' xc s',Iq g ns ns'->af H' xc->xc D=av (S1 D (seqObj "list" #[] e1))->xc kS_≠bh->Inv X bz σ (upd (upd xc kS_ (.lst [])) D (.lst (ns'.map V.int))) s'->P (.done (.ret .none)) s') :
  wpAny (model X.prog X.w) X.A.in1.in1 (ksk_rest D (.ref fq) false cx.toArray e1 (.ref kS_)) P E s:=by
 unfold ksk_rest;refine aN (lR ?_);rw[hX];refine aN (eY (c9m (kS_:=kS_) (f:=.ref fq) (C:=λr s'=>∃kn rn vs H1,ns=kn++rn/\Vals (rn.map V.int) r/\af H' H1/\H1 kS_=av (.lst vs)/\H1 D=av (S1 D (seqObj "list" #[] e1))/\du g H1 kn vs/\Inv X bz σ H1 s')
  (λx s' R hx=>?_) (λx r s' hC=>?_) cx s ⟨[],ns,[],H,rfl,ri,sm,hk,hD,.nil,I⟩) (λ_ s' hd=>?_) λ_ _ z=>z)
 ·refine aN (wA (eY hx (λk s2 Rz=>?_) λ_ _ z=>z.elim));obtain⟨ks,e,ek,lk,r⟩:=Rz
  try dsimp only
  exact aN (hW ek rfl (bG ⟨rfl,r⟩) (by rw[bY,bE];lia) (by rw[Array.size_push,bY,bE];lia))
 ·obtain⟨kn,rn,vs,H1,en,rr,KS,k1,D1,Ir,I1⟩:=hC;match rn,rr with
  |m::rn,.cons ru rr =>
  refine turn H1 KS m (by simp_all) x s' _ _ I1 ru λt s2 ht I2=>?_;have nk_:=i7 k1 ht;have k2:(upd H1 t (.tup (qh (js g m)))) kS_=av (.lst vs):=by rw[j3 nk_];exact k1
  obtain⟨z,ks,c,rk,hl,e⟩:=I2.Cz k2;have lv:bx vs=bx kn:=Ir.length.symm;have hlen:bx kn+1<=bx ns:=by rw[en,aX,eM];lia
  refine⟨ks,c,e,by lia,kn++[m],rn,vs++[.ref t],_,by rw[en];simp,rr,?_,ae,?_,?_,I2.JM k2 e (by simp) (rk.append (.cons (show RelV (.ref t) (.ref t) from rfl) .nil)) (by rw[aX,fR];exact bF (show bx vs+1<=64 by lia) (by decide))⟩
  ·intro b o q;have nb:b≠kS_:=λz=>by subst z;rw[fk_] at q;cases q
   rw[j3 nb,j3 (i7 (KS b o q) ht)];exact KS b o q
  ·rw[j3 (J7 D1 k1 nofun),j3 (i7 D1 ht)];exact D1
  ·refine du.snoc (Ir.same λb xs q=>?_) ?_
   ·rw[j3 (J7 q k1 nofun),j3 (i7 q ht)];exact q
   ·rw[j3 (bV nk_),ae]
 ·obtain⟨kn,rn,vs,H1,en,rr,KS,k1,D1,Ir,I1⟩:=hd;have e0:rn=[]:=by cases rn with|nil=>rfl|cons _ _=>cases rr
  subst e0;rw[fP] at en;subst en;obtain⟨z,ks,c,rk,hl,e⟩:=I1.Cz k1;exact aN (Tm e rfl (d2t I1 k1 D1 Ir rk ri hn nd λns' s2 a b=>k ns' H1 s2 a KS D1 (by lia) b))
theorem d1H{n:Nat}(hc:X.calm=true)(I:Inv X bz σ H s)(hr:H p=av (.zt 0 n))(hn:n<64)(turn:d0Q X bz σ H fq ((aW n).map λ(i:Nat)=>(i:Int)) g)
  (k:∀l ns' H' s',Iq g ((aW n).map λ(i:Nat)=>(i:Int)) ns'->af H H'->H l=bh->H' l=av (.lst (ns'.map V.int))->Inv X bz σ H' s'->Q (.ref l) s') :
  wpAny (model X.prog X.w) X.A (call (.builtin "sorted") [.ref p] [("key",.ref fq)]) Q E s:=by
 refine call_function_entry_kw kind_sorted plain_sorted entry_sorted (ksk_s1 _ _) ?_;unfold iH.«sorted»;refine aN (bG ?_);obtain⟨t,u,v,e⟩:=I.ck p _ hr;have xq:sU 0 (n:Int) 1=n:=by rw[sV];split<;>lia
 refine aN (c8I (I.ok.hd hc) e (small_one (by lia) (by lia) (by lia) (by lia)) xq (by lia) λh1 Vd acc CO NU=>?_);have hv:Vals (((aW n).map λ(i:Nat)=>(i:Int)).map V.int) acc.toList:=by
  rw[bC];refine Rv n acc.toList (λi=>(i:Int)) (by simpa using NU.1) λj v q=>?_;obtain⟨t,rfl⟩:=NU.2 j v (by simpa using q);exact⟨t,by simp⟩
 have ln:((aW n).map λ(i:Nat)=>(i:Int)).length=n:=by simp
 have la:acc.toList.length=n:=by have:=hv.length;simpa using this.symm
 have I1:=I.kept (h':=h1) (t':=Vd) CO;refine aN (wpAny_newList ?_ (by rw[bE];lia));have xY:(h1.push (seqObj "list" acc.toList.toArray 0)).get? h1.objs.size=av (seqObj "list" acc.toList.toArray 0):=dG _ rfl;refine aN (iP (wpAny_call_entry_kw slot_list_sort ⟨_,xY,rfl⟩ entry_list_sort ?_ (ksk_l1 _ _)));show wpAny (model X.prog X.w) X.A.in1.in1 (iH.«list.sort» ⟨[.ref h1.objs.size],[(cN "key",.ref fq)]⟩) _ _ _;rw[ksk_t1];unfold ksk_tree;refine aN (Tm xY rfl (aN (hW xY rfl ?_ (by rw[bY,bE];lia) (dM _))));obtain⟨e1,YH⟩:∃e1,((h1.push (seqObj "list" acc.toList.toArray 0)).update h1.objs.size (gT λ_=>(#[]:Array aE))).get? h1.objs.size=av (seqObj "list" #[] e1):=⟨_,wP xY λ_=>#[]⟩;refine aN (seqEpoch_at YH rfl (aN (wpAny_newTuple (aN (wpAny_newList (iP ?_) (dM _))) (by show acc.toList.length<=_;rw[bE];lia))));have D:aA:=h1.objs.size;have kp:∀b o,h1.get? b=av o->((h1.push (seqObj "list" acc.toList.toArray 0)).update h1.objs.size (gT λ_=>(#[]:Array aE))).get? b=av o:=λb o q=>by
  rw[Heap.get?_update_ne _ _ _ _ (dB (bN q))];exact bL _ q
 have I3:=(I1.laid (a:=h1.objs.size) (o:=S1 h1.objs.size (seqObj "list" #[] e1)) (t':=Vd) kp (aT _) ⟨YH,⟨_,YH⟩,λx y a b=>b _ a⟩).kept (h':=((h1.push (seqObj "list" acc.toList.toArray 0)).update h1.objs.size (gT λ_=>(#[]:Array aE))).push (seqObj "tuple" acc.toList.toArray 0)) (t':=Vd) λb u q=>bL _ q;have f1:H h1.objs.size=bh:=I1.fresh;have f2:(upd H h1.objs.size (S1 h1.objs.size (seqObj "list" #[] e1))) (((h1.push (seqObj "list" acc.toList.toArray 0)).update h1.objs.size (gT λ_=>(#[]:Array aE))).push (seqObj "tuple" acc.toList.toArray 0)).objs.size=bh:=I3.fresh;have ne:h1.objs.size≠(((h1.push (seqObj "list" acc.toList.toArray 0)).update h1.objs.size (gT λ_=>(#[]:Array aE))).push (seqObj "tuple" acc.toList.toArray 0)).objs.size:=i7 ae f2;have f3:H (((h1.push (seqObj "list" acc.toList.toArray 0)).update h1.objs.size (gT λ_=>(#[]:Array aE))).push (seqObj "tuple" acc.toList.toArray 0)).objs.size=bh:=by
  rw[j3 (bV ne)] at f2;exact f2
 refine d1G (H':=H) (I3.JN (cx:=[]) (ys:=[]) (t':=Vd) .nil (dM _)) turn (λb o q=>?_) f3 ae (by rw[j3 ne];exact ae) hv (by rw[ln];exact hn) ?_ λns' H2 s2 S sm D2 k2 I5=>?_
 ·rw[j3 (i7 q f3),j3 (i7 q f1)];exact q
 ·exact aAB _ (λa b(h:a≠b)=>show(a:Int)≠(b:Int) by lia) Sa
 ·refine⟨_,rfl,bG ⟨_,rfl,k _ ns' _ s2 S (λb o q=>?_) f1 ae I5⟩⟩;rw[j3 (i7 q f1),j3 (i7 q f3)];exact sm b o q
end
def d1E(K:aF)(P:aA)(CJ:Pos)(qual:aC)(fr:List Nat)(t:TA)(tb:TE):TE:=λσ H Q=>t σ H λvs H1=>∃(p:aA)(n:Nat)(g:Int->Bool×Int),vs=[.ref p]/\H1 p=av (.zt 0 n)/\n<64/\cu P CJ qual H1/\
 ∀H2,bj P H1 H2->cu P CJ qual H2->(∀H3,af H2 H3->∀m∈((aW n).map λ(i:Nat)=>(i:Int)),tb (av (.int m)::LB fr σ) H3 λy H'=>∃t,y=.ref t/\H3 t=bh/\H'=upd H3 t (.tup (qh (js g m))))/\
  ∀H3 l ns',af H2 H3->H2 l=bh->H3 l=av (.lst (ns'.map V.int))->Iq g ((aW n).map λ(i:Nat)=>(i:Int)) ns'->Q (.ref l) H3
section
variable{X:Cx}{e body:aR}{es:List aR}{t:TA}{tb:TE}{fr:List Nat}{scope:cQ}{col:aC}{c P:aA}{params:kO}{p pos CJ Qs:Pos}
theorem c8Q(hc:X.calm=true)(hr:b_ 3 X.A)(hg:Gl X "sorted")(hm:X.mg "sorted"=bh)(vm:X.env.code=.ref c)(C:oV X.base c P)(B:QO X.mg X.base)(zM:BA X.env.scope scope X.N fr=true)(hk:scope.kind=.function)
  (kf:∀x∈scope.names,x.2≠.cell) (CI:scope.names.lookup col=av .local) (UZ:scope.isCoroutine=false) (JX:scope.isGenerator=false)
  (hb:∀pm BE c' u,bindArgs (W.kla_fn "<lambda>" (X.env.qual++"<lambda>") params body scope (p_ X.env scope.names []) pm (.ref c') BE) ⟨[u],[]⟩=pure [(col,u)])
  (ha:PA X [e] t) (fz:∀f cd s H,PE (QN X col fr (X.env.qual++"<lambda>") scope f cd X.A.in1.in1 s H) body tb) (JY:defaultsOf params X.env=([],[]):=by rfl)
  (he:backTo pos (starEach [e] X.env)=(false,eval e X.env)::backTo pos (starEach [] X.env):=by rfl) (wb:(backTo pos (starEach [e] X.env)).any (·.1)=false:=by rfl) :
  PE X (.Call (.Name "sorted" p) [e] [⟨av "key",.Lambda params body scope CJ,Qs⟩] pos) (d1E X.K P CJ (X.env.qual++"<lambda>") fr t tb):=by
 intro bz s σ H Q I h;refine jK (JD I hg hm rfl (Ak (D7 (ha pos bz s σ H _ I h) λus s1 ⟨vs,H1,I1,r,l,n,g,ev,hl,hn,T,q⟩=>?_) he wb));subst ev;obtain⟨u,rfl,ru⟩:=U1 r;cases ru;show wpAny _ _ (evalAll [(do let v <- eval (.Lambda params body scope CJ) X.env;standAt pos;pure v)]) _ _ s1;refine wR (aN (b3C I1 vm C B T zM JY λf c' BE pm H2 s2 I2 T2 e2 Qt _=>aN (iQ (bG (wpAny_evalAll_nil ?_)))));obtain⟨q1,q2⟩:=q H2 e2 T2;have nP:l≠P:=λz=>by
  subst z;rcases T with t|⟨c,t,_⟩<;>(rw[hl] at t;cases t)
 have zw:X.A.in1.in1.depth<recursionLimit:=by
  have z:X.A.in1.in1.depth+3*1+5<recursionLimit:=hr.in1.in1.dp;lia
 refine d1H hc I2 (e2 l _ nP hl) hn (λH3 sm m hm u s3 Q3 E3 I3 ru k3=>?_) λl ns' H3 s3 S sm f1 l1 I3=>⟨.ref l,H3,(λJ=>J.ke λp hp=>J.pin p (eL _ (bZ _ hp))) I3,rfl,q2 H3 l ns' sm f1 l1 S⟩;obtain⟨cr,_,_⟩:=I3.ck c' _ (sm c' _ Qt);refine c9E I3 I3.ok.frames rfl zw hk zM kf CI UZ JX (I3.pin _ (eL _ cY)).1 cr (hb pm BE c') (fz f (.ref c') s3 H3) ru (q1 H3 sm m hm) λw H' y s' G' hp I'=>?_;obtain⟨t,rfl,ht,rfl⟩:=hp;cases G';exact k3 t s' ht I'
end
end L2
namespace L2
open PySem
def il(jv ag:aA)(H H':Hp):Prop:=∀b o,b≠jv->b≠ag->H b=av o->H' b=av o
def il.refl:il jv ag H H:=λ_ _ _ _ h=>h
def il.trans(a:il jv ag H H1)(b:il jv ag H1 H2):il jv ag H H2:=λc o n m h=>b c o n m (a c o n m h)
def bj.to2(e:bj jv H H'):il jv ag H H':=λb o n _ h=>e b o n h
def bj.BV(e:bj ag H H'):il jv ag H H':=λb o _ n h=>e b o n h
def af.to2(e:af H H'):il jv ag H H':=λb o _ _ h=>e b o h
def il.get(T1:cu jv p1 q1 H)(T2:cu ag p2 q2 H)(e:il jv ag H H')(h:H b=av o)(n:∀ps,o≠.my ps):H' b=av o:=e b o (T1.ne h n) (T2.ne h n) h
theorem cu.other(T1:cu jv p1 q1 H)(T2:cu ag p2 q2 H)(ne:ag≠jv)(e:bj jv H H'):cu ag p2 q2 H':=by
 rcases T2 with t|⟨c,t,u⟩
 ·exact .inl (e _ _ ne t)
 ·exact .inr ⟨c,e _ _ ne t,e.get T1 u nofun⟩
end L2
namespace de
open PySem L2 Fr
abbrev d2R:aC:=("standing"++".<locals>.")++"<lambda>"
abbrev nv(ag:aA)(H:Hp):Prop:=cu ag d1Z d2R H
theorem xn:∀fs:List Q2,(∀f∈fs,0<f.2/\f.2<2^8000)->∃D,0<D/\fh (8000*bx fs+1) D/\∀f∈fs,f.2∣D
 |[],_=>⟨1,by decide,(by decide:(1:Nat)<2^1),nofun⟩
 |f::r,h=>by
  obtain⟨D,d,b,k⟩:=xn r λg hg=>h g (.tail _ hg);obtain⟨p,l⟩:=h f (.head _);refine⟨f.2*D,gJ p d,?_,λg hg=>?_⟩
  ·unfold fh at *;rw[rV,eM,show 8000*(bx r+1)+1=8000+(8000*bx r+1) by lia,xF];exact Nat.mul_lt_mul'' (Gm (cC p) l) b
  ·rcases bH.mp hg with rfl|hg
   ·exact Int.dvd_mul_right ..
   ·exact Int.dvd_mul_of_dvd_right (k g hg)
def iZ(z:aC)(hs:List i8)(kt kg:Nat)(i:Nat)(o:Option Q2):Prop:=∃h,hs[i]?=av h/\((∃A B,ku z (S8 hs i) h kt kg A B/\o=av (low A B))\/(o=bh/\ik z (S8 hs i) h kt kg))
def Os(z:aC)(hs:List i8)(kt kg:Nat)(os:List (Option Q2)):Prop:=bx os=bx hs/\∀i o,os[i]?=av o->iZ z hs kt kg i o
theorem iZ.eq(hz:O4 z)(hG:∀g∈hs,HG br kt kg g)(x:iZ z hs kt kg i o)(y:iZ z hs kt kg i o'):o=o':=by
 obtain⟨h,hh,a⟩:=x;obtain⟨h',Kp,b⟩:=y;rw[hh] at Kp;cases Kp;have hGo:∀g∈S8 hs i,HG br kt kg g:=λg hg=>hG g (XF hg);rcases a with⟨A,B,s,rfl⟩|⟨rfl,N⟩<;>rcases b with⟨A',B',s',rfl⟩|⟨rfl,N'⟩
 ·rw[s.fr s']
 ·exact(N'.not s).elim
 ·exact(N.not s').elim
 ·rfl
theorem Os.eq{os}(hz:O4 z)(hG:∀g∈hs,HG br kt kg g)(x:Os z hs kt kg os)(y:Os z hs kt kg Gd):os=Gd:=by
 exact Tl (x.1.trans y.1.symm) λi h1 h2=>((x.2 i _ (aS h1)).eq hz hG (y.2 i _ (aS h2)))
def Iu(x y:Option Q2)(a b:Int):Prop:=match x,y with
 |none,bh=>a<b
 |none,av _=>True
 |some _,bh=>False
 |some p,av q=>q.1*p.2<p.1*q.2\/(p=q/\a<b)
abbrev qk(os:List (Option Q2))(a:Int):Option Q2:=os.getD a.toNat bh
def YJ(os:List (Option Q2))(a b:Int):Prop:=Iu (qk os a) (qk os b) a b
theorem c9X(h:Iu x y a b)(h':Iu y x b a):False:=by
 cases x<;>cases y<;>simp only[Iu] at h h'
 ·lia
 ·rcases h with h|⟨rfl,h⟩<;>rcases h' with h'|⟨e,h'⟩
  ·lia
  ·subst e;lia
  ·lia
  ·lia
def DR(os:List (Option Q2))(ns:List Int):Prop:=ns.Perm ((aW (bx os)).map λ(i:Nat)=>(i:Int))/\ns.Pairwise (YJ os)
def DR.eq{os}(x:DR os ns)(y:DR os ns'):ns=ns' :=
 List.Perm.eq_of_pairwise (λa b _ _ p q=>(c9X p q).elim) x.2 y.2 (x.1.trans y.1.symm)
def c9Z(hB:0<B):low (low A B).1 (low A B).2=low A B:=Gg (pQ hB) hB (zL hB)
theorem d2s{os}(hL:0<L)(hc:∀q,av q∈os->0<q.2/\q.2∣L/\low q.1 q.2=q)
  (hg:∀m∈[a,b],g m=match qk os m with|none=>(false,0)|some q=>(true,-(q.1*(L/q.2)))) (h:jh (js g a) (js g b)=true):YJ os a b:=by
 have ga:=hg a (.head _);have gb:=hg b (.tail _ (.head _));have mem:∀{m:Int}{q:Q2},qk os m=av q->av q∈os:=λ{m q}e=>by
  unfold qk at e;rw[bA] at e;cases r:os[m.toNat]? with
  |none=>rw[r] at e;cases e
  |some o=>rw[r] at e;have e':=e;subst e';exact bK r
 rw[Ip] at h;unfold YJ;unfold js at h;rw[ga,gb] at h;generalize ex:qk os a=x at *;generalize ey:qk os b=y at *;cases x with
 |none =>
  cases y with
  |none =>
   simp at h;exact h
  |some q=>exact trivial
 |some p =>
  cases y with
  |none=>simp at h
  |some q =>
   obtain⟨p1,⟨c,GG⟩,p3⟩:=hc p (mem ex);obtain⟨q1,⟨d,hd1⟩,q3⟩:=hc q (mem ey);have ec:L/p.2=c:=by rw[GG];exact wI c (by lia)
   have ed:L/q.2=d:=by rw[hd1];exact wI d (by lia)
   simp only[ec,ed] at h;have c0:0<c:=by
    rcases Int.lt_or_le 0 c with z|z
    ·exact z
    ·have:=eO (cC p1) (show 0 <= -c by lia);rw[fT] at this;lia
   have d0_:0<d:=by
    rcases Int.lt_or_le 0 d with z|z
    ·exact z
    ·have:=eO (cC q1) (show 0 <= -d by lia);rw[fT] at this;lia
   have E1:(p.1*c)*(p.2*q.2)=(p.1*q.2)*L:=by rw[GG];ac_rfl
   have yQ:(q.1*d)*(p.2*q.2)=(q.1*p.2)*L:=by rw[hd1];ac_rfl
   rcases h with⟨z,_⟩|⟨_,h|⟨h1,h2⟩⟩
   ·cases z
   ·left;have h':q.1*d<p.1*c:=by lia
    have:=Int.mul_lt_mul_of_pos_right h' (gJ p1 q1);rw[E1,yQ] at this;exact Int.lt_of_mul_lt_mul_right this (cC hL)
   ·right;refine⟨?_,h2⟩;have h':p.1*c=q.1*d:=by lia
    have:(p.1*q.2)*L=(q.1*p.2)*L:=by rw[<-E1,<-yQ,h']
    have:=rW (by lia) this;rw[<-p3,<-q3];exact Gg p1 q1 this
structure YK(K:aF)(mg:aC->Option aE)(o:aA):Prop where
 m:mg "NOUGHT"=av (.ref o)
 s:∀H,cq K H o [.int 0,.int 1]
section
variable{P:aM}{w:aL}{K:aF}{mg:aC->Option aE}{base:aJ}{f Pt ag c CN oh:aA}{fd:aK}{n:Nat}
inductive YL(K:aF)(Pt ag:aA)(vs:List V)(H:Hp)(Q:VK)(dj:XK):Prop|mk:∀ba xs hs z br kt kg,vs=[.ref ba,.str z]->O4 z->O6 K H ba xs hs br kt kg->bx hs<=16->1<=kt->LT Pt H->nv ag H->ag≠Pt->(∀os ns l H',Os z hs kt kg os->DR os ns->il Pt ag H H'->LT Pt H'->nv ag H'->H l=bh->H' l=av (.lst (ns.map V.int))->Q (.ref l) H')->YL K Pt ag vs H Q dj
def jy:p7 ["book","sizes","told","tops","bottom"] ["book","sizes"] (i9 t7):={}
theorem d2e:(["number","book","sizes"]:List aC).Nodup:=by decide
theorem d2l:(["one"]:List aC).Nodup:=by simp
def d2W{f1 f2:aA}{d1 d2:aK}(CH:oV base c ag)(BM:QO mg base)(T:v8 mg)(N:YK K mg oh)
  (Co:vn P w K mg base n "share_of_others" ["book","number","sizes"] (G8 K CN Pt) f1 d1) (Cv:CZ P w K mg base n "over_one_bottom" ["ones"] (mL K) f2 d2) (hr:b_ (n+3) (A.deeper (cD "standing" (i9 t7) s.heap.objs.size f (.ref c)))) :
  {t:TS//fu (N8 J8 P w K mg base ["book","sizes","told","tops","bottom"] "standing" (i9 t7) f (.ref c) A outer s H E).oi (x9 t7) t} :=
 ⟨_,j0 (r6 (i:=2) jy.nd rfl (fY rfl) (N6 ["number"] [0,1] rfl (R8 rfl T.range (c6 (j7 j6 rfl T.len bB (c6 (pv 0) c7)) c7)) (λ_ _ _ _=>j9 (i:=0) d2e rfl (aI rfl))
   (λ_ _ _ _=>l7 Co.ok (hr.mono (by lia)) rfl Co.m Co.k Co.b .nil RA (c6 (pv 1) (c6 (pv 0) (c6 (pv 2) c7))))))
  (j0 (D3 (l7 Cv.ok (hr.mono (by lia)) rfl Cv.m Cv.k Cv.b .nil v6 (c6 (N6 ["one"] [] rfl (C6 (pv 2)) (λ_ _ _ _=>j9 (i:=0) d2l rfl (aI rfl))
    (λ_ _ _ _=>MT (l5 Lv (pv 0) D5 (r9 _)) (C4 (v:=.ref oh) rfl N.m rfl) (pv 0))) c7)) (K4 rfl (p6 (j9 (i:=3) jy.nd rfl (fY rfl)) (p6 (j9 (i:=4) jy.nd rfl (aI rfl)) A4))))
  (j4 (o4 (c8Q (col:="number") (fr:=[2,3]) (c:=c) (P:=ag) rfl (hr.mono (by lia)) rfl T.so rfl CH BM rfl rfl (by decide +kernel) rfl rfl rfl (λ_ _ _ _=>rfl)
   (c6 (v5 Qu rfl T.range xD (c6 (j7 j6 rfl T.len bB (c6 (pv 0) c7)) c7)) c7)
   (λ_ _ _ _=>A9 (c6 (Z3 Ga (l8 (Wn K rfl) (pv 1) (pv 0) (λ_ _=>rfl)) D5 (r9 _)) (c6 (Eh V2 (l8 (Wn K rfl) (pv 2) (pv 0) (λ_ _=>rfl))) (c6 (pv 0) c7)))))))) ⟩
end
def Iv(H:Hp)(v:V)(o:Option Q2):Prop:=match o with|none=>v=.non|some q=>Ex H v q
def toF(o:Option Q2):Q2:=o.getD (0,1)
theorem iZ.fr(x:iZ z hs kt kg i o):fh 20000 (toF o).1/\0<(toF o).2/\(toF o).2<2^8000/\∀q,o=av q->low q.1 q.2=q:=by
 obtain⟨h,_,⟨A,B,s,rfl⟩|⟨rfl,_⟩⟩:=x
 ·exact⟨Bc s.b s.a,pQ s.b,pI (Bb s.b) s.c,λq e=>by cases e;exact c9Z s.b⟩
 ·exact⟨by unfold fh;decide,by decide,by decide,nofun⟩
theorem c8K(F:Aj K "standing" t7 f fd)(vm:fd.code=.ref c)(CH:oV base c ag)(BM:QO mg base)(T:v8 mg)(N:YK K mg oh)
  (Co:vn P w K mg base n "share_of_others" ["book","number","sizes"] (G8 K CN Pt) f1 d1) (Cv:CZ P w K mg base n "over_one_bottom" ["ones"] (mL K) f2 d2) :
  bf P w K mg base J8 (n+4) f fd ["book","sizes"] (YL K Pt ag):=by
 refine F.okC vm jy (λvs H Q E h=>?_) λA outer s H vs Q E hr h=>?_
 ·obtain⟨ba,xs,hs,z,br,kt,kg,rfl,_⟩:=h;rfl
 obtain⟨ba,xs,hs,z,br,kt,kg,rfl,hz,B,u_,ij,L,M,ne,q⟩:=h;refine⟨_,(d2W CH BM T N Co Cv hr).2,?_⟩;have xl:bx xs=bx hs:=dE B.b;have small:=t9 (show bx xs<=1000 by lia);have bin:∀{H':Hp},bj Pt H H'->O6 K H' ba xs hs br kt kg:=λe=>⟨ah.fg L e B.l,Bk.fg L e B.b,B.g,B.br,B.eQ,B.t,B.k⟩;refine⟨_,rfl,ba,_,rfl,.inl B.l,_,rfl,by lia,by lia,λp hp=>(c9B (P:=Pt) (pos:=b6I) (qual:=c0q) L hp small (λi y H'=>∃o,iZ z hs kt kg i o/\Iv H' y o) (λi y H1 H2 L1 ⟨zs,Wy⟩ ⟨o,x,r⟩ k=>⟨o,x,?_⟩) (λi H1 ys N' hi e1 L1 Fm hN=>?_) (λys H1 e1 L1 Fm len pr=>?_))⟩
 ·cases o with
  |none=>exact r
  |some q =>
   obtain⟨a,rfl,ha⟩:=r;exact⟨a,rfl,k _ _ (J7 ha Wy nofun) (L1.ne ha nofun) ha⟩
 ·refine⟨_,rfl,_,rfl,_,rfl,ba,xs,hs,(i:Int),z,br,kt,kg,rfl,hz,bin e1,ij,vg (by lia),L1,λi' h' A' B' H7 u' Ek Kp Xn e7 su Bm=>?_,λi' h' H7 Ek Kp N e7 su=>?_,λbad=>absurd ⟨by lia,by lia⟩ bad⟩
  ·have:i'=i:=by lia
   subst this;exact hN _ _ e7 su ⟨av (low A' B'),⟨h',Kp,.inl ⟨A',B',Xn,rfl⟩⟩,Bm⟩
  ·have:i'=i:=by lia
   subst this;exact hN _ _ e7 su ⟨bh,⟨h',Kp,.inr ⟨rfl,N⟩⟩,rfl⟩
 obtain⟨os,BW,vw⟩:∃os:List (Option Q2),bx os=bx ys/\∀i y o,ys[i]?=av y->os[i]?=av o->iZ z hs kt kg i o/\Iv H1 y o:=by
  have:∀m,m<=bx ys->∃os:List (Option Q2),bx os=m/\∀i y o,ys[i]?=av y->os[i]?=av o->iZ z hs kt kg i o/\Iv H1 y o:=by
   intro m;induction m with
   |zero=>exact λ_=>⟨[],rfl,λi y o _ e=>by simp at e⟩
   |succ m ih =>
    intro hm;obtain⟨os,l,k⟩:=ih (by lia);obtain⟨o,x,r⟩:=pr m _ (aS (show m<bx ys by lia));refine⟨os++[o],by simp[l],λi y o' hy ho=>?_⟩;by_cases hi:i<bx os
    ·rw[dH hi] at ho;exact k i y o' hy ho
    ·rw[dU (by lia)] at ho;have yz:i-bx os=0:=by
      cases q:i-bx os with
      |zero=>rfl
      |succ k=>rw[q] at ho;simp at ho
     rw[yz] at ho;have:i=m:=by lia
     subst this;simp at ho;subst ho;rw[aS (show i<bx ys by lia)] at hy;cases hy;exact⟨x,r⟩
  exact this _ (aT _)
 have YM:Os z hs kt kg os:=⟨by lia,λi o ho=>(vw i _ o (aS (show i<bx ys by rw[<-BW];exact(cA.mp ho).1)) ho).1⟩;refine⟨_,rfl,p,rfl,⟨_,ah.of Fm⟩,λp2 oy=>(O9 (A3 (ah.of Fm)) oy (by rw[len];exact small) (λy=>if y=.non then .ref oh else y) (λi y H2 N' hy e2 hN=>?_) ?_)⟩
 ·refine⟨Wk.set (by decide),_,rfl,rfl,_,rfl,?_⟩;by_cases hn:y=.non
  ·subst hn;exact J3 hN
  ·rw[if_neg hn] at hN;rw[decide_eq_false hn];exact M7 ⟨_,rfl,hN⟩
 have s2:=af.new oy (.lst (ys.map λy=>if y=.non then .ref oh else y));have pF_:bR (λy f=>Xc K (upd H1 p2 (.lst (ys.map λy=>if y=.non then .ref oh else y))) y f) (ys.map λy=>if y=.non then .ref oh else y) (os.map toF):=by
  have gen:∀(as:List V)(bs:List (Option Q2)),bx bs=bx as->(∀(i:Nat)y o,as[i]?=av y->bs[i]?=av o->Iv H1 y o)->bR (λy f=>Xc K (upd H1 p2 (.lst (ys.map λy=>if y=.non then .ref oh else y))) y f) (as.map λy=>if y=.non then .ref oh else y) (bs.map toF):=by
   intro as;induction as with
   |nil=>intro bs hl _;rw[lM hl];exact .nil
   |cons a as ih =>
    intro bs hl k;cases bs with
    |nil=>simp at hl
    |cons b bs =>
     refine .cons ?_ (ih bs (by simpa using hl) λi y o h1 h2=>k (i+1) y o (by simpa using h1) (by simpa using h2));have r:=k 0 a b rfl rfl;cases b with
     |none =>
      have r':a=.non:=r;subst r';exact⟨oh,rfl,N.s _⟩
     |some q =>
      obtain⟨t,rfl,ht⟩:=r;exact⟨t,rfl,cq.of (s2 _ _ ht)⟩
  exact gen ys os BW λi y o h1 h2=>(vw i y o h1 h2).2
 have mR:∀f∈os.map toF,fh 20000 f.1/\0<f.2/\f.2<2^8000:=λfq hf=>by
  obtain⟨o,ho,rfl⟩:=aY.mp hf;obtain⟨i,hi⟩:=iL ho;obtain⟨a1,a2,a3,_⟩:=(YM.2 i o hi).fr;exact⟨a1,a2,a3⟩
 obtain⟨D,hD,bD_,dD⟩:=xn (os.map toF) λf hf=>(mR f hf).2;refine⟨p2,_,os.map toF,D,rfl,ah.of ae,pF_,by rw[aH];lia,λf hf=>⟨(mR f hf).1,(mR f hf).2.1,(mR f hf).2.2,dD f hf⟩,hD,bD_.mono (by rw[aH];lia),λr tl H2 BX e2 MB Hz hLb _ sy=>?_⟩;have Oy:=s2.trans e2;refine⟨r,_,rfl,cq.of MB,rfl,_,_,rfl,_,_,rfl,rfl,?_⟩;have YP:bj Pt H H2:=e1.trans Oy.ka;refine⟨_,rfl,ba,_,rfl,.inl (bin YP).l,_,rfl,λYl Ym=>?_⟩;have s3:=af.new Ym (.zt 0 (bx xs:Int));have L3:=(L1.same Oy).same s3;have BZ:=((L.other M ne e1).same Oy).same s3;refine⟨Yl,bx xs,λm=>match qk os m with|none=>(false,0)|some q=>(true,-(q.1*(BX/q.2))),rfl,ae,by lia,BZ,λH3 e3 M4_=>⟨λH4 e4 m hm=>?_,λH4 l ns e4 hl Od S=>?_⟩⟩
 ·obtain⟨i,hi,rfl⟩:=aY.mp hm;have Ek:i<bx ys:=by rw[len];exact fF.mp hi
  obtain⟨y,hy⟩:∃y,ys[i]?=av y:=⟨_,aS Ek⟩;obtain⟨o,ho⟩:∃o,os[i]?=av o:=⟨_,aS (by lia)⟩;have eo:qk os (i:Int)=o:=by show os.getD (Int.toNat (i:Int)) bh=o;rw[cF,bA,ho];rfl
  have g3:((os.map toF).map λf=>V.int (f.1*(BX/f.2)))[i]?=av (V.int ((toF o).1*(BX/(toF o).2))):=by rw[aP,aP,ho];rfl
  have r:=(vw i y o hy ho).2;refine⟨_,rfl,_,rfl,p,_,_,_,rfl,rfl,ah.of (e4 _ _ (e3.get BZ (s3 _ _ (Oy _ _ Fm)) nofun)),A2 hy,rfl,_,rfl,_,rfl,tl,_,_,_,rfl,rfl,ah.of (e4 _ _ (e3.get BZ (s3 _ _ Hz) nofun)),A2 g3,_,rfl,_,rfl,(by show 3<=sizeLine;decide),λt ht=>⟨t,rfl,ht,?_⟩⟩;unfold js qh;dsimp only;rw[eo];cases o with
  |none =>
   have r':y=.non:=r;subst r';show upd H4 t (HO.tup [V.bl false,V.int (-(0*(BX/1))),V.int (i:Int)])=upd H4 t (HO.tup [V.bl false,V.int 0,V.int (i:Int)]);rw[gY,Int.neg_zero]
  |some fq =>
   obtain⟨a,rfl,_⟩:=r;rfl
 ·have el:bx os=bx xs:=by lia
  have mem:∀q,av q∈os->0<q.2/\q.2∣BX/\low q.1 q.2=q:=λfq hq=>by
   obtain⟨i,hi⟩:=iL hq;obtain⟨_,a2,_,a4⟩:=(YM.2 i _ hi).fr;exact⟨a2,sy fq (aY.mpr ⟨av fq,hq,rfl⟩),a4 fq rfl⟩
  refine q os ns l H4 YM ⟨by rw[el];exact S.1,S.2.imp λ{a b}k=>d2s hLb mem (λm _=>rfl) k⟩ ((YP.to2.trans s3.to2).trans (e3.BV.trans e4.to2)) ((BZ.other L3 (bV ne) e3).same e4) (M4_.same e4) ?_ Od
  ·cases eh:H l with
   |none=>rfl
   |some o =>
    exfalso;have tn:∀{sG:aA}{p0:Pos}{q0:aC},cu sG p0 q0 H3->l≠sG:=λql z0=>by
     subst z0;rcases ql with t|⟨c,t,_⟩<;>(rw[hl] at t;cases t)
    have:=((YP.to2.trans s3.to2).trans e3.BV) l o (tn (BZ.other L3 (bV ne) e3)) (tn M4_) eh;rw[hl] at this;cases this
theorem e8y K(h:X.K=K):gw X (compareOp .NotIn) (zC K true):=by subst h;exact a5H
theorem e8E K(h:X.K=K)(hl:PE X l tl):PI X tg l (PU K tl):=by subst h;exact C6 hl
section
variable{P:aM}{w:aL}{K:aF}{mg:aC->Option aE}{base:aJ}{f:aA}{fd:aK}{n:Nat}{CN:aA}
inductive Iw(K:aF)(vs:List V)(H:Hp)(Q:VK)(dj:XK):Prop|mk:∀(rl a:aA)(row:List Int),vs=[.ref rl]->ah K H rl [.ref a]->cq K H a (row.map V.int)->bx row<=100->(∀r H',af H H'->H' r=av (.tup (row.map V.int))->Q (.ref r) H')->Iw K vs H Q dj
def f0r:p7 ["rows"] ["rows"] (i9 Sd):={}
theorem f0d:(["kind","rows"]:List aC).Nodup:=by decide
theorem f0k:(["row","kind"]:List aC).Nodup:=by decide
theorem e9T(F:Aj K "together" Sd f fd)(T:v8 mg):bf P w K mg base J8 (n+1) f fd ["rows"] (Iw K):=by
 refine F.oa f0r λay A outer s H vs Q E hr h=>?_;obtain⟨rl,a,row,rfl,hR,hS,hk,q⟩:=h;refine⟨_,j4 (o4 (v5 E7 rfl T.tuple hU (c6 (N6 ["kind"] [0] rfl (R8 rfl T.range (c6 (j7 j6 rfl T.len bB (c6 (l8 j5 (pv 0) d0 λ_ _=>rfl) c7)) c7)) (λ_ _ _ _=>j9 (i:=0) f0d rfl (fY rfl))
   (λ_ _ _ _=>j7 (Gj K rfl rfl) rfl T.sum xR (c6 (N6 ["row"] [0] rfl (e8E K rfl (pv 1)) (λ_ _ _ _=>j9 (i:=0) f0k rfl (aI rfl)) λ_ _ _ _=>l8 (zO K rfl) (pv 0) (pv 1) λ_ _=>rfl) c7))) c7))),?_⟩
 refine⟨_,rfl,rl,_,0,_,rfl,rfl,hR,A2 rfl,a,_,rfl,.inr hS,_,rfl,by rw[aH];lia,by rw[aH];lia,λp hp=>?_⟩;rw[aH,cF];refine N5 Po hp (by rw[aH,gZ];exact t9 (by lia)) (λi y _=>y=.int (row.getD i 0)) (λ_ _ _ _ r _=>r) (λi x H' ys N hx e dy hN=>?_) λys H' e dy len pr=>?_
 ·rw[aP] at hx;cases IZ:(aW (bx row))[i]? with
  |none=>rw[IZ] at hx;cases hx
  |some i' =>
   obtain⟨BH,Ek⟩:=cA.mp IZ;rw[Cb] at Ek;subst Ek;rw[gZ] at BH;rw[IZ] at hx;cases hx;refine⟨Wk.set (by decide),_,rfl,rl,rfl,⟨_,e.seq hR⟩,λp2 oy=>(O9 (A3 (e.seq hR:ah K _ _ _)) oy (t9 (by show 1<=1000;decide)) (λ_=>.int (row.getD i 0)) (λj u H2 N2 hu e2 OD=>?_) ?_)⟩
   ·have Bm:u=.ref a:=cJ.mp (bK hu);subst Bm;refine⟨Wk.set (by decide),_,rfl,_,rfl,a,_,_,_,rfl,rfl,(e.trans e2).cm hS,?_,OD⟩;rw[lH,bA,aS BH];exact A2 (by rw[aP,aS BH];rfl)
   ·refine⟨p2,[row.getD i 0],rfl,.inl (ah.of ae),hN _ _ (af.new oy _) ?_⟩;rw[dW,List.sum_nil,gK]
 ·have ey:ys=row.map V.int:=by
   rw[aH,gZ] at len;refine dR λi=>?_;by_cases hi:i<bx ys
   ·rw[aS hi,pr i _ (aS hi),aP,bA,aS (show i<bx row by lia)];rfl
   ·rw[bW (by lia),bW (by rw[aH];lia)]
  rw[ey] at dy;exact⟨p,_,rfl,.inl ⟨ah.of dy,λr hr=>q r _ (e.trans (af.new hr _)) ae⟩⟩
inductive YQ(K:aF)(vs:List V)(H:Hp)(Q:VK)(dj:XK):Prop|mk:∀ba nl xs hs kt kg,vs=[.ref ba,.ref nl]->O6 K H ba xs hs (10^9) kt kg->1<=kt->1<=kg->ah K H nl [.int 0]->1<=bx hs->(∀r ys H',af H H'->H r=bh->H' r=av (.lst ys)->Bk K H' ys hs->Q (.ref r) H')->YQ K vs H Q dj
def DO:p7 ["book","numbers","houses","takes","gives","place","told"] ["book","numbers"] (i9 yx):={}
theorem f0u:(["number","book"]:List aC).Nodup:=by decide
theorem e9o:(["house"]:List aC).Nodup:=by simp
theorem e9D:(["number","house","place","numbers"]:List aC).Nodup:=by decide
def f0Q{f1 f2:aA}{d1 d2:aK}{tm:Tok}(T:v8 mg)(Bh:mg "MOST_AMOUNT"=av (.int 1000000000 tm))(Ch:vn P w K mg base n "house_of" ["book","number"] (OA K CN) f1 d1)(Ct:C9 P w K mg base n "together" ["rows"] (Iw K) f2 d2)
  (hr:b_ n (A.deeper (cD "merged" (i9 yx) s.heap.objs.size f ay))) :
  {t:TS//fu (N8 J8 P w K mg base ["book","numbers","houses","takes","gives","place","told"] "merged" (i9 yx) f ay A outer s H E).oi (x9 yx) t} :=
 ⟨_,j0 (CA (i:=2) ["number"] [0] DO.nd rfl rfl rfl (C6 (pv 1)) (λ_ _ _ _=>j9 (i:=0) f0u rfl (aI rfl)) (λ_ _ _ _=>l7 Ch.ok hr rfl Ch.m Ch.k Ch.b .nil RA (c6 (pv 1) (c6 (pv 0) c7))))
  (t8 (r6 (i:=3) DO.nd rfl (aI rfl) (Ct.c hr (c6 (N6 ["house"] [] rfl (C6 (pv 2)) (λ_ _ _ _=>j9 (i:=0) e9o rfl (aI rfl)) (λ_ _ _ _=>l8 (zO K rfl) (pv 0) d0 (λ_ _=>rfl))) c7)))
  (t8 (r6 (i:=4) DO.nd rfl (aI rfl) (Ct.c hr (c6 (N6 ["house"] [] rfl (C6 (pv 2)) (λ_ _ _ _=>j9 (i:=0) e9o rfl (aI rfl)) (λ_ _ _ _=>l8 (zO K rfl) (pv 0) d0 (λ_ _=>rfl))) c7)))
  (t8 (w6 (l5 Ej (j7 (Qq rfl) rfl T.max pF (c6 (j8 a9S (pv 3) (pv 4)) c7)) (C4 (v:=.int 1000000000) rfl Bh ⟨_,rfl⟩) (r9 _)) XE r8)
  (j0 (r6 (i:=5) DO.nd rfl (fY rfl) (j7 (b0k rfl) rfl T.min mY (c6 (pv 1) c7)))
  (j0 (r6 (i:=6) DO.nd rfl (aI rfl) (v5 C5 rfl T.list fJ (c6 (pv 0) c7)))
  (j0 (D3 (A9 (c6 (pv 3) (c6 (pv 4) c7))) (Gy (pv 6) (pv 5) O1))
  (j4 (o4 (zI ["number","house"] [5,1] rfl (zK K rfl rfl T.enum (c6 (pv 6) c7)) (λ_ _ _ _=>IX K (n:=2) rfl rfl (p6 (j9 (i:=0) e9D rfl (aI rfl)) (p6 (j9 (i:=1) e9D rfl (aI rfl)) A4)))
   (λ_ _ _ _=>PW.pt (U0 (l5 E6 (pv 0) (pv 2) (r9 _)) (R9 (l5 (e8y K rfl) (pv 0) (pv 3) rfl)))) (λ_ _ _ _=>pv 1))))))))))⟩
theorem e9M(F:Aj K "merged" yx f fd)(T:v8 mg)(hC:∃t,mg "MOST_AMOUNT"=av (.int 1000000000 t))(Ch:vn P w K mg base n "house_of" ["book","number"] (OA K CN) f1 d1)(Ct:C9 P w K mg base n "together" ["rows"] (Iw K) f2 d2) :
  bf P w K mg base J8 (n+1) f fd ["book","numbers"] (YQ K):=by
 refine F.oa DO λay A outer s H vs Q E hr h=>?_;obtain⟨ba,nl,xs,hs,kt,kg,rfl,B,ij,Ja,hN,h1,q⟩:=h;obtain⟨tm,Bh⟩:=hC;refine⟨_,(f0Q T Bh Ch Ct hr).2,?_⟩;have xl:bx xs=bx hs:=dE B.b;have eQ:=B.eQ;have bt:=B.t;have bk:=B.k;have s1:(1:Nat)<sizeLine:=t9 (by decide);obtain⟨x0,Hl⟩:∃x,xs[0]?=av x:=⟨_,aS (by lia)⟩;obtain⟨h,hh,a,ta,ga,rfl,r1,r2,r3⟩:=aZ.at B.b Hl;have gh:=B.g h (bK hh);refine⟨_,rfl,nl,rfl,⟨_,hN⟩,λhl cH=>(O9 (A3 hN) cH s1 (λ_=>.ref a) (λi x H' N hx e fv=>?_) ?_)⟩
 ·have f':x=.int 0:=cJ.mp (bK hx);subst f';exact⟨Wk.set (by decide),_,rfl,_,rfl,ba,xs,0,rfl,e.seq B.l,by decide,λk x hk hx=>(by
   have:k=0:=by lia
   subst this;rw[Hl] at hx;cases hx;exact fv),λbad=>absurd ⟨by lia,by lia⟩ bad⟩
 have cB:=af.new cH (.lst [V.ref a]);have YS:(upd H hl (.lst ([V.int 0].map λ_=>V.ref a))) hl=av (.lst [V.ref a]):=ae;change af H (upd H hl (.lst ([V.int 0].map λ_=>V.ref a))) at cB;generalize upd H hl (.lst ([V.int 0].map λ_=>V.ref a))=H1 at *;refine⟨λau H'=>∃(tt:aA),au=[av (.ref ba),av (.ref nl),av (.ref hl),av (.ref tt),bh,bh,bh]/\af H1 H'/\H' tt=av (.tup (h.1.map V.int)),?_,?_⟩
 ·refine⟨_,rfl,hl,rfl,⟨_,ah.of YS⟩,λp hp=>(O9 (A3 (ah.of YS)) hp s1 (λ_=>.ref ta) (λi x H' N hx e fv=>?_) ?_)⟩
  ·have f':x=.ref a:=cJ.mp (bK hx);subst f';exact⟨Wk.set (by decide),_,rfl,a,_,0,_,rfl,rfl,(cB.trans e).cm r1,Oz _ _,fv⟩
  ·have s2:=af.new hp (.lst ([V.ref a].map λ_=>V.ref ta));exact⟨p,ta,h.1,rfl,ah.of ae,s2.cm (cB.cm r2),by rw[gh.lt];lia,λr H' e jx=>⟨r,rfl,s2.trans e,jx⟩⟩
 rintro _ H2 ⟨tt,rfl,e2,Pj⟩;have B_:=e2 _ _ YS;refine⟨λau H'=>∃(gt:aA),au=[av (.ref ba),av (.ref nl),av (.ref hl),av (.ref tt),av (.ref gt),bh,bh]/\af H2 H'/\H' gt=av (.tup (h.2.map V.int)),?_,?_⟩
 ·refine⟨_,rfl,hl,rfl,⟨_,ah.of B_⟩,λp hp=>(O9 (A3 (ah.of B_)) hp s1 (λ_=>.ref ga) (λi x H' N hx e fv=>?_) ?_)⟩
  ·have f':x=.ref a:=cJ.mp (bK hx);subst f';exact⟨Wk.set (by decide),_,rfl,a,_,1,_,rfl,rfl,(cB.trans (e2.trans e)).cm r1,Mj _ _,fv⟩
  ·have s2:=af.new hp (.lst ([V.ref a].map λ_=>V.ref ga));exact⟨p,ga,h.2,rfl,ah.of ae,s2.cm ((cB.trans e2).cm r3),by rw[gh.lg];lia,λr H' e jx=>⟨r,rfl,s2.trans e,jx⟩⟩
 rintro _ H3 ⟨gt,rfl,e3,Gr⟩;have KJ:=e3 _ _ Pj;have n1:h.1.map V.int≠[]:=λz=>by have:=congrArg iT z;rw[aH,gh.lt,lD] at this;lia
 have n2:h.2.map V.int≠[]:=λz=>by have:=congrArg iT z;rw[aH,gh.lg,lD] at this;lia
 refine⟨λau H'=>au=[av (.ref ba),av (.ref nl),av (.ref hl),av (.ref tt),av (.ref gt),bh,bh]/\af H3 H',?_,?_⟩
 ·refine⟨_,rfl,_,rfl,tt,gt,_,_,rfl,rfl,cq.of KJ,cq.of Gr,λz=>absurd z n1,?_,λz=>absurd z n2,λ_ p hp=>?_⟩
  ·rw[aH,aH,gh.lt,gh.lg];have:(100:Nat)<=sizeLine:=by decide
   lia
  rw[<-bQ];refine⟨p,_,rfl,.inr (cq.of ae),λz=>n1 (by rw[List.append_eq_nil_iff.mp z |>.1];rfl),λM hM hle=>⟨_,_,rfl,rfl,_,rfl,y6 (λc=>?_) (λ_=>⟨rfl,af.new hp (.tup ((h.1++h.2).map V.int))⟩)⟩⟩;have c':M>1000000000:=of_decide_eq_true c;rcases bJ.mp hM with z|z
  ·have:=(gh.t M z).2;lia
  ·have:=(gh.g M z).2;lia
 rintro _ H4 ⟨rfl,e4⟩;have GP:=(cB.trans (e2.trans e3)).trans e4;refine⟨_,rfl,nl,[0],rfl,.inl (GP.seq hN),nofun,λpl wb _=>?_⟩;have ep:pl=0:=cJ.mp wb;subst ep;refine⟨_,rfl,ba,_,rfl,.inl (GP.seq B.l),λtl Hz=>?_⟩;have s5:=af.new Hz (.lst xs);refine⟨_,rfl,_,rfl,(by show 2<=sizeLine;decide),λhv hhv=>?_⟩;have s6:=af.new hhv (.tup [V.ref tt,V.ref gt]);have qv:H tl=bh:=by
  cases e:H tl with
  |none=>rfl
  |some o=>rw[GP _ _ e] at Hz;cases Hz
 have YT:(upd (upd H4 tl (.lst xs)) hv (.tup [V.ref tt,V.ref gt])) tl=av (.lst xs):=s6 _ _ ae;have hv6:(upd (upd H4 tl (.lst xs)) hv (.tup [V.ref tt,V.ref gt])) hv=av (.tup [V.ref tt,V.ref gt]):=ae;have ta6:=(s5.trans s6) _ _ (e4 _ _ KJ);have sH:=(s5.trans s6) _ _ (e4 _ _ Gr);generalize upd (upd H4 tl (.lst xs)) hv (.tup [V.ref tt,V.ref gt])=H6 at *;refine⟨_,rfl,_,rfl,tl,xs,0,_,rfl,rfl,YT,Mg (by decide) (by lia),?_⟩;have Iy:af H (upd H6 tl (.lst (xs.set (Int.toNat 0) (.ref hv)))):=(GP.trans (s5.trans s6)).write qv;have nt:∀{b o},H6 b=av o->(∀l,o≠.lst l)->b≠tl:=λhb hn z=>by rw[z,YT] at hb;exact hn _ (bD hb).symm
 have hv7:=(j3 (o:=HO.lst (xs.set (Int.toNat 0) (.ref hv))) (nt hv6 nofun)).trans hv6;have ta7:=(j3 (o:=HO.lst (xs.set (Int.toNat 0) (.ref hv))) (nt ta6 nofun)).trans ta6;have ga7:=(j3 (o:=HO.lst (xs.set (Int.toNat 0) (.ref hv))) (nt sH nofun)).trans sH;have YW:(upd H6 tl (.lst (xs.set (Int.toNat 0) (.ref hv)))) tl=av (.lst (xs.set 0 (.ref hv))):=ae;generalize upd H6 tl (.lst (xs.set (Int.toNat 0) (.ref hv)))=H7 at *;refine⟨_,rfl,tl,rfl,⟨_,ah.of YW⟩,λp hp=>?_⟩;have Cc:H p=bh:=by
  cases e:H p with
  |none=>rfl
  |some o=>rw[Iy _ _ e] at hp;cases hp
 refine Yd (ah.of YW) hp (by rw[eE];exact t9 (by lia)) (λ_=>true) (λ_ y=>y) (λi y H2 zs N hy e dy fv=>?_) (λi y H2 N hy hq e fv=>⟨_,rfl,fv⟩) (λH2 e dy=>?_)
 ·refine⟨_,rfl,_,rfl,rfl,_,rfl,y6 (λ_=>fv _ (af.refl _)) (λc=>⟨_,rfl,_,rfl,nl,[.int 0],rfl,.inl ((Iy.trans e).seq hN),rfl,rfl,_,rfl,?_⟩)⟩;have ci:¬((0:Int)=(i:Int)):=λz=>c (decide_eq_true (by rw[<-z]));have:=fv _ (af.refl _);show N (!(decide ((0:Int)=(i:Int))||false)) H2;rw[decide_eq_false ci];exact this
 ·have hb:Bk K H2 (xs.set 0 (.ref hv)) hs:=by
   have b:=Bk.same (Iy.trans e) B.b;clear dy YW YT s5 B;revert b Hl hh;intro Hl hh b;cases b with
   |nil=>cases Hl
   |cons r t=>have e9:=bD Hl;subst e9;exact .cons ⟨hv,tt,gt,rfl,cq.of (e _ _ hv7),cq.of (e _ _ ta7),cq.of (e _ _ ga7)⟩ t
  have all:∀n,n<=bx (xs.set 0 (V.ref hv))->kz (λ_=>true) (λ_ y=>y) (xs.set 0 (V.ref hv)) n=(xs.set 0 (V.ref hv)).take n:=λn=>by
   induction n with
   |zero=>exact λ_=>rfl
   |succ n ih =>
    intro hn;have hl:(xs.set 0 (V.ref hv))[n]?=av (xs.set 0 (V.ref hv))[n]:=aS (by lia);rw[Yc hl,ih (by lia),rC,hl];rfl
  rw[all _ (aT _),wO] at dy;exact q p _ H2 (Iy.trans e) Cc dy hb
end
section
variable{P:aM}{w:aL}{K:aF}{mg:aC->Option aE}{base:aJ}{f:aA}{fd:aK}{n:Nat}
theorem dk.cat(a:dk H ys xs D)(b:dk H zs ws D):dk H (ys++zs) (xs++ws) D:=by
 refine⟨by simp[a.1,b.1],λi y hy=>?_⟩;rw[F0];by_cases hi:i<bx ys
 ·rw[dH hi] at hy;rw[if_pos (a.1▸hi)];exact a.2 i y hy
 ·rw[dU (by lia)] at hy;rw[if_neg (a.1▸hi),<-a.1];exact b.2 _ y hy
theorem e8e(F:Aj K "worths" yt f fd)(T:v8 mg)(Co:C9 P w K mg base n "over_one_bottom" ["ones"] (mL K) fa da)(gW:C9 P w K mg base n "come_to" ["amounts","tops"] (yP K) fb db) :
  bf P w K mg base J8 (n+1) f fd ["book","prices"] (Ik K):=by
 refine F.oa AS λay A outer s H vs Q E hr h=>?_;obtain⟨ba,t,xs,hs,pt,pg,ps,D,br,kt,kg,rfl,hS,hB,eQ,hG,CV,Kr,Ks,⟨RY,jA,u,tx,wd,h1,h2,h3,h4,h5,h6⟩,hN,q⟩:=h;refine⟨_,(f0D T Co gW hr).2,?_⟩;have xl:bx xs=bx hs:=dE hB;have Xf:=t9 (show(1000:Nat)<=1000 from aT _);have Iz:D<2^8000:=Int.lt_trans hN.d2 (by exact_mod_cast xM (show 1<2 by decide) (show 4000<8000 by decide));have lft:bx tx=kt:=by rw[h3.1,hN.lt]
 have lgt:bx wd=kg:=by rw[h5.1,hN.lg]
 refine⟨_,rfl,t,_,rfl,cq.of h1,rfl,_,_,rfl,_,_,rfl,_,_,rfl,rfl,_,rfl,_,rfl,RY,jA,tx,wd,rfl,rfl,h2,h4,by lia,λp1 k1=>⟨_,rfl,(by show 1<=sizeLine;decide),λp2 k2=>?_⟩⟩;have s2:=af.new k2 (.lst [u]);refine⟨p1,p2,_,_,rfl,rfl,s2 _ _ ae,ae,by simp;lia,λp3 k3=>?_⟩;have Cd:=(af.new k1 (.lst (tx++wd))).trans (s2.trans (af.new k3 (.lst ((tx++wd)++[u]))));unfold yb;refine qN ⟨p3,_,(pt++pg)++[ps],D,rfl,ah.of ae,(((h3.cat h5).snoc h6).same Cd).v,by simp[hN.lt,hN.lg];lia,λx hx=>?_,hN.d,Iz,λr tl H1 L e1 GN Hz hL jP hdiv=>?_⟩
 ·rcases bJ.mp hx with hx|hx
  ·rcases bJ.mp hx with hx|hx
   ·exact(hN.bt x hx).2.mono (by decide)
   ·exact(hN.bg x hx).2.mono (by decide)
  ·rw[cJ.mp hx];exact hN.bs.mono (by decide)
 have Hr:=Cd.trans e1;have ZT:Yx pt pg ps D L:=⟨hL,jP,λx hx=>hdiv x (fW _ (fW _ hx)),λx hx=>hdiv x (fW _ (eL _ hx)),hdiv ps (eL _ (cJ.mpr rfl))⟩;have yR:=wG hN.d jP;have etl:((((pt++pg)++[ps]).map (v4 D L)).map V.int)=((pt.map (v4 D L)).map V.int++(pg.map (v4 D L)).map V.int)++[V.int (v4 D L ps)]:=by simp
 rw[etl] at Hz;refine⟨r,_,rfl,cq.of GN,rfl,_,_,rfl,_,_,rfl,rfl,?_⟩;generalize vx:(pt.map (v4 D L))=qw at *;generalize vF:(pg.map (v4 D L))=qx at *;have lp':bx qw=kt:=by rw[<-vx,aH,hN.lt]
 have lg':bx qx=kg:=by rw[<-vF,aH,hN.lg]
 have bpt:∀x∈qw,fh 100000 x:=λx hx=>by
  rw[<-vx] at hx;obtain⟨y,hy,rfl⟩:=aY.mp hx;exact(Ii hN.d hL yR (ZT.t y hy) (hN.bt y hy).2).mono (by decide)
 have bpg:∀x∈qx,fh 100000 x:=λx hx=>by
  rw[<-vF] at hx;obtain⟨y,hy,rfl⟩:=aY.mp hx;exact(Ii hN.d hL yR (ZT.g y hy) (hN.bg y hy).2).mono (by decide)
 generalize YX:v4 D L ps=YZ at *;refine⟨λau H'=>au=[av (.ref ba),av (.ref t),av (.ref RY),av (.ref jA),av u,av (.ref tl),av (.int L),av (.int (kt:Int)),bh,bh]/\H1=H',?_,?_⟩
 ·refine⟨_,rfl,RY,_,rfl,.inl (ah.of (Hr _ _ h2)),?_⟩;rw[lft];exact⟨rfl,rfl⟩
 rintro _ _ ⟨rfl,rfl⟩;have Y4:=Hr.seq hS;have HM:=Bk.same Hr hB;have cT:∀a:List V,P5 (((qw.map V.int++qx.map V.int)++[V.int YZ])) bh (av (kt:Int))=qw.map V.int:=λ_=>by
  rw[NS _ kt (by simp;lia),dC,pK (by simp[lp'])]
 have cG_:P5 (((qw.map V.int++qx.map V.int)++[V.int YZ])) (av (kt:Int)) (av (-1))=qx.map V.int:=by
  rw[e8N _ kt (by simp;lia) (by simp;lia),dC,xT (by simp[lp'])];rw[pK (by simp;lia)]
 refine⟨λau H'=>∃pl:aA,au=[av (.ref ba),av (.ref t),av (.ref RY),av (.ref jA),av u,av (.ref tl),av (.int L),av (.int (kt:Int)),av (.ref pl),bh]/\af H1 H'/\H' pl=av (.lst ((hs.map λh=>(cV (·*·) h.1 qw).sum).map V.int)),?_,?_⟩
 ·refine⟨_,rfl,ba,rfl,⟨_,Y4⟩,λp hp=>(N5 (A3 Y4) hp (t9 (by lia)) (λi y _=>∃h,hs[i]?=av h/\y=.int (cV (·*·) h.1 qw).sum) (λ_ _ _ _ r _=>r) (λi y H2 zs N hy e dy fv=>?_) (λzs H2 e dy len pr=>?_))⟩
  ·obtain⟨h,hh,⟨a,ta,gb,rfl,q0,q1,q2⟩⟩:=aZ.at HM hy;have gh:=hG h (bK hh);refine⟨a,_,rfl,e.cm q0,rfl,_,_,rfl,_,_,rfl,rfl,Bx (by decide) (by decide),_,rfl,_,rfl,_,rfl,_,rfl,tl,_,rfl,ah.of (e _ _ Hz),λp4 k4=>?_⟩;rw[cT []];exact⟨false,true,ta,p4,h.1,qw,rfl,((e.trans (af.new k4 _)).cm q1:cq K _ _ _),ah.of ae,by rw[gh.lt];lia,λx hx=>(vd gh CV 0 x hx).mono (by decide),bpt,λH3 e3=>(fv _ _ ((af.new k4 _).trans e3) ⟨h,hh,rfl⟩)⟩
  ·have ez:zs=(hs.map λh=>(cV (·*·) h.1 qw).sum).map V.int:=by
    refine dR λi=>?_;by_cases hi:i<bx zs
    ·obtain⟨x,z1,z2⟩:=pr i _ (aS hi);rw[aS hi,z2,aP,aP,z1];rfl
    ·rw[bW (by lia),bW (by rw[aH,aH];lia)]
   rw[ez] at dy;exact⟨p,rfl,e,dy⟩
 intro ir H2 cw;refine E8 λG_ cy=>?_;obtain⟨pl,rfl,e2,wb⟩:=cw;subst cy;have LL:=e2.seq Y4;have hB2:=Bk.same e2 HM;have qv:=e2 _ _ Hz;refine⟨λau H'=>∃gl:aA,au=[av (.ref ba),av (.ref t),av (.ref RY),av (.ref jA),av u,av (.ref tl),av (.int L),av (.int (kt:Int)),av (.ref pl),av (.ref gl)]/\af H2 H'/\H' gl=av (.lst ((hs.map λh=>(cV (·*·) h.2 qx).sum).map V.int)),?_,?_⟩
 ·refine⟨_,rfl,ba,rfl,⟨_,LL⟩,λp hp=>(N5 (A3 LL) hp (t9 (by lia)) (λi y _=>∃h,hs[i]?=av h/\y=.int (cV (·*·) h.2 qx).sum) (λ_ _ _ _ r _=>r) (λi y H3 zs N hy e dy fv=>?_) (λzs H3 e dy len pr=>?_))⟩
  ·obtain⟨h,hh,⟨a,ta,gb,rfl,q0,q1,q2⟩⟩:=aZ.at hB2 hy;have gh:=hG h (bK hh);refine⟨a,_,rfl,e.cm q0,rfl,_,_,rfl,_,_,rfl,rfl,Bx (by decide) (by decide),_,rfl,_,rfl,_,rfl,_,rfl,_,rfl,_,rfl,tl,_,rfl,ah.of (e _ _ qv),λp4 k4=>?_⟩;rw[cG_];exact⟨false,true,gb,p4,h.2,qx,rfl,((e.trans (af.new k4 _)).cm q2:cq K _ _ _),ah.of ae,by rw[gh.lg];lia,λx hx=>(vd gh CV 1 x hx).mono (by decide),bpg,λH3 e3=>(fv _ _ ((af.new k4 _).trans e3) ⟨h,hh,rfl⟩)⟩
  ·have ez:zs=(hs.map λh=>(cV (·*·) h.2 qx).sum).map V.int:=by
    refine dR λi=>?_;by_cases hi:i<bx zs
    ·obtain⟨x,z1,z2⟩:=pr i _ (aS hi);rw[aS hi,z2,aP,aP,z1];rfl
    ·rw[bW (by lia),bW (by rw[aH,aH];lia)]
   rw[ez] at dy;exact⟨p,rfl,e,dy⟩
 intro zx H3 cw;refine E8 λG_ cy=>?_;obtain⟨gl,rfl,e3,Hm⟩:=cw;subst cy;refine⟨_,rfl,_,rfl,_,rfl,_,rfl,tl,_,-1,_,rfl,rfl,ah.of (e3 _ _ qv),d0q _ _,_,rfl,(by show 4<=sizeLine;decide),λr' jx=>?_⟩;have s4:=af.new jx (.tup [V.ref pl,V.ref gl,V.int YZ,V.int L]);subst vx vF YX;exact q r' pl gl L _ (Hr.trans (e2.trans (e3.trans s4))) ZT ae (s4 _ _ (e3 _ _ wb)) (s4 _ _ Hm)
def DK(pt pg:List Int)(ps:Int)(h:i8):Option Q2:=if fo h pt=0 then bh else av (low (P7 h pg ps) (fo h pt))
def yS(H:Hp)(v:V):Option Q2->Prop
 |none=>v=.non
 |some x=>Ex H v x
theorem Ci(g:HG br kt kg h)(hp:∀x∈pt,0<=x):0<=fo h pt:=by
 unfold fo;have:∀(a b:List Int),(∀x∈a,0<=x)->(∀x∈b,0<=x)->0<=(cV (·*·) a b).sum:=by
  intro a;induction a with
  |nil=>intro b _ _;simp
  |cons x a ih =>
   intro b h1 h2;cases b with
   |nil=>simp
   |cons y b =>
    rw[eW,dW];exact Int.add_nonneg (eO (h1 x cY) (h2 y cY)) (ih b (λz hz=>h1 z (bZ _ hz)) λz hz=>h2 z (bZ _ hz))
 exact this _ _ (λx hx=>by have:=(g.t x hx).1;lia) hp
theorem e8b(g:HG br kt kg h)(hp:∀x∈pt,0<=x)(e:DK pt pg ps h=av x):UU x:=by
 unfold DK at e;split at e
 ·cases e
 ·rename_i mm
  cases e;have:=Ci g hp;exact PK (by lia)
theorem e8U(g:HG br kt kg h)(hN:sr pt pg ps D kt kg)(ZT:Yx pt pg ps D L) :
  DK (pt.map (v4 D L)) (pg.map (v4 D L)) (v4 D L ps) h=DK pt pg ps h:=by
 have e1:fo h (pt.map (v4 D L))*D=fo h pt*L:=Ij hN.d _ _ ZT.t;have e2:P7 h (pg.map (v4 D L)) (v4 D L ps)*D=P7 h pg ps*L:=by
  unfold P7;rw[fG,fG,Ij hN.d _ _ ZT.g,Ys hN.d ZT.s]
 have n1:=Ci g λx hx=>(hN.bt x hx).1;have n2:=Ci g λx hx=>by
  obtain⟨y,hy,rfl⟩:=aY.mp hx;exact e7U hN.d ZT.l (hN.bt y hy).1
 have hD:=hN.d;have hL:=ZT.l;unfold DK;generalize fo h (pt.map (v4 D L))=p' at *;generalize fo h pt=p at *;generalize P7 h (pg.map (v4 D L)) (v4 D L ps)=a' at *;generalize P7 h pg ps=a at *;by_cases hp:p=0
 ·have:p'=0:=by
   rw[hp,gY] at e1;rcases pB.mp e1 with z|z
   ·exact z
   ·lia
  rw[if_pos hp,if_pos this]
 ·have:p'≠0:=λz=>by
   rw[z,gY] at e1;rcases pB.mp e1.symm with z|z
   ·exact hp z
   ·lia
  rw[if_neg hp,if_neg this];congr 1;refine Gg (by lia) (by lia) ?_;have:D*L≠0:=Int.ne_of_gt (gJ hD hL);refine rW this ?_
  calc a'*p*(D*L)=(a'*D)*(p*L):=by ac_rfl
   _=(a*L)*(p'*D):=by rw[e2,e1]
   _=a*p'*(D*L):=by ac_rfl
inductive Ck(K:aF)(vs:List V)(H:Hp)(Q:VK)(dj:XK):Prop|mk:∀ba t xs hs pt pg ps D br kt kg,vs=[.ref ba,.ref t]->ah K H ba xs->Bk K H xs hs->bx hs<=100->(∀h∈hs,HG br kt kg h)->br<=2^60->kt<=20->kg<=20->nZ H t pt pg ps D->sr pt pg ps D kt kg->(∀l ys H',af H H'->H l=bh->H' l=av (.lst ys)->bR (yS H') ys (hs.map (DK pt pg ps))->Q (.ref l) H')->Ck K vs H Q dj
def l_:p7 ["book","prices","paid","given","size","bottom"] ["book","prices"] (i9 yv):={}
theorem f0l:(["pays","gives","size"]:List aC).Nodup:=by decide
def f0G{fa fb:aA}{da db:aK}(T:v8 mg)(Cw:C9 P w K mg base n "worths" ["book","prices"] (Ik K) fa da)(Cl:CZ P w K mg base n "lowest" ["top","bottom"] Xd fb db)
  (hr:b_ n (A.deeper (cD "judged" (i9 yv) s.heap.objs.size f ay))) :
  {t:TS//fu (N8 J8 P w K mg base ["book","prices","paid","given","size","bottom"] "judged" (i9 yv) f ay A outer s H E).oi (x9 yv) t} :=
 ⟨_,j0 (D3 (Cw.c hr (c6 (pv 0) (c6 (pv 1) c7))) (K4 rfl (p6 (j9 (i:=2) l_.nd rfl (aI rfl)) (p6 (j9 (i:=3) l_.nd rfl (aI rfl)) (p6 (j9 (i:=4) l_.nd rfl (fY rfl)) (p6 (j9 (i:=5) l_.nd rfl (aI rfl)) A4))))))
  (j4 (o4 (N6 ["pays","gives"] [4] rfl (QI true true K rfl rfl T.zip (c6 (pv 2) (c6 (pv 3) c7))) (λ_ _ _ _=>IX K (n:=2) rfl rfl (p6 (j9 (i:=0) f0l rfl (aI rfl)) (p6 (j9 (i:=1) f0l rfl (aI rfl)) A4)))
   (λ_ _ _ _=>MT (l5 E6 (pv 0) d0 (r9 _)) D5 (Cl.c hr (c6 (j8 D4 (pv 1) (pv 2)) (c6 (pv 0) c7)))))))⟩
theorem e8f(F:Aj K "judged" yv f fd)(T:v8 mg)(Cw:C9 P w K mg base n "worths" ["book","prices"] (Ik K) fa da)(Cl:CZ P w K mg base n "lowest" ["top","bottom"] Xd fb db) :
  bf P w K mg base J8 (n+1) f fd ["book","prices"] (Ck K):=by
 refine F.oa l_ λay A outer s H vs Q E hr h=>?_;obtain⟨ba,t,xs,hs,pt,pg,ps,D,br,kt,kg,rfl,hS,hB,eQ,hG,CV,Kr,Ks,hP,hN,q⟩:=h;refine⟨_,(f0G T Cw Cl hr).2,_,rfl,_,rfl,ba,t,xs,hs,pt,pg,ps,D,br,kt,kg,rfl,hS,hB,eQ,hG,CV,Kr,Ks,hP,hN,λr pl gl L H1 e1 ZT GN wb Hm=>⟨r,_,rfl,cq.of GN,rfl,_,_,rfl,_,_,rfl,_,_,rfl,_,_,rfl,rfl,_,rfl,_,rfl,pl,gl,rfl,⟨_,ah.of wb⟩,⟨_,ah.of Hm⟩,λp hp=>?_⟩⟩;have Bv:H p=bh:=by
  cases e:H p with
  |none=>rfl
  |some o=>rw[e1 _ _ e] at hp;cases hp
 refine QJ (ah.of wb) (ah.of Hm) hp (t9 (by simp;lia)) (λi y H'=>∃h,hs[i]?=av h/\yS H' y (DK pt pg ps h)/\y≠.ref p) (λi y Ha Hb ⟨h,h1,h2,h3⟩ st=>?_) ?_ ?_
 ·refine⟨h,h1,?_,h3⟩;cases o:DK pt pg ps h with
  |none=>rw[o] at h2;exact h2
  |some x =>
   rw[o] at h2;obtain⟨a,rfl,ha⟩:=h2;exact⟨a,rfl,st a _ (λz=>h3 (by rw[z])) ha⟩
 ·intro i x y H2 zs N hx hy e dy fv;have nj:i<bx hs:=by
   have:=(cA.mp hx).1;simpa using this
  obtain⟨h,hh⟩:∃h,hs[i]?=av h:=⟨_,aS nj⟩;have gh:=hG h (bK hh);rw[aP,aP,hh] at hx hy;cases hx;cases hy;have JT_:=e8U gh hN ZT;have nn:0<=fo h (pt.map (v4 D L)):=Ci gh λx hx=>by
   obtain⟨y,hy,rfl⟩:=aY.mp hx;exact e7U hN.d ZT.l (hN.bt y hy).1
  have Y_:fh 7000 (fo h (pt.map (v4 D L))):=(UT (GQ (b:=5001) (vd gh CV 0) λx hx=>by
   obtain⟨y,hy,rfl⟩:=aY.mp hx;exact(Ii hN.d ZT.l (wG hN.d ZT.d) (ZT.t y hy) (hN.bt y hy).2).mono (by decide)) (by
    have:=gh.lt;have:bx (V4 0 h)=kt:=this;rw[jS];lia)).mono (by decide)
  refine⟨_,rfl,rfl,_,rfl,y6 (λc=>?_) λc=>?_⟩
  ·have c':fo h (pt.map (v4 D L))=0:=by
    have:=of_decide_eq_true c;exact V.int.inj this
   refine fv _ _ (af.refl _) ⟨h,hh,?_,nofun⟩;rw[<-JT_];unfold DK;rw[if_pos c'];exact rfl
  ·have c':fo h (pt.map (v4 D L))≠0:=λz=>c (decide_eq_true (show V.int (fo h (pt.map (v4 D L)))=V.int 0 by rw[z]));refine⟨_,rfl,_,rfl,_,_,rfl,rfl,_,rfl,_,_,rfl,?_,?_,λv H3 e3 hv=>?_⟩
   ·show 0<fo h (pt.map (v4 D L));lia
   ·exact Int.lt_trans (de.fh.lt Y_) (by lia)
   ·refine fv _ _ e3 ⟨h,hh,?_,λz=>?_⟩
    ·rw[<-JT_];unfold DK;rw[if_neg c'];exact hv
    ·obtain⟨a,RV,Mb⟩:=hv;rw[z] at RV;cases RV;rw[e3 _ _ dy] at Mb;cases Mb
 ·intro zs H2 e dy len pr;refine q p zs H2 (e1.trans e) Bv dy ?_;have Za:bx zs=bx hs:=by rw[len];simp
  have:∀(zs:List V)(we:List i8),bx zs=bx we->(∀(i:Nat)(z:V),zs[i]?=av z->∃h,we[i]?=av h/\yS H2 z (DK pt pg ps h)/\z≠.ref p)->bR (yS H2) zs (we.map (DK pt pg ps)):=by
   intro zs;induction zs with
   |nil=>intro we hl _;cases we with
    |nil=>exact .nil
    |cons _ _=>simp at hl
   |cons z zs ih =>
    intro we hl hq;cases we with
    |nil=>simp at hl
    |cons g we =>
     obtain⟨h,h1,h2,_⟩:=hq 0 z rfl;cases h1;exact .cons h2 (ih we (by simp_all) λi z hz=>hq (i+1) z hz)
  exact this zs hs Za pr
end
section
variable{P:aM}{w:aL}{K:aF}{mg:aC->Option aE}{base:aJ}{f:aA}{fd:aK}{n:Nat}
theorem e9H x y:cK (dF x) (dF y)=decide (x=y):=by
 unfold dF;rw[cK,hV,hV,hV,cK,cK,Rw];obtain⟨a,b⟩:=x;obtain⟨c,d⟩:=y;by_cases h1:a=c
 ·by_cases h2:b=d
  ·subst h1 h2;simp
  ·simp[h2]
 ·simp[h1]
def s_(x y:Q2):Int:=if x.1*y.2<y.1*x.2 then -1 else if x.1*y.2>y.1*x.2 then 1 else 0
inductive Jh(K:aF)(vs:List V)(H:Hp)(Q:VK)(dj:XK):Prop|mk:∀u v x y,vs=[u,v]->Xc K H u x->Xc K H v y->(fh 1000000 x.1/\fh 1000000 x.2/\fh 1000000 y.1/\fh 1000000 y.2)->Q (.int (s_ x y)) H->Jh K vs H Q dj
def ma:p7 ["one","other","left","right"] ["one","other"] (i9 RX):={}
theorem e8X(F:Aj K "compared" RX f fd):bf P w K mg base J8 (n+1) f fd ["one","other"] (Jh K):=by
 refine F.oa ma λay A outer s H vs Q E hr h=>?_;obtain⟨u,v,x,y,rfl,⟨a,rfl,ha⟩,⟨b,rfl,hb⟩,⟨b1,b2,b3,b4⟩,q⟩:=h;refine⟨_,j0 (r6 (i:=2) ma.nd rfl (aI rfl) (j8 Qr (l8 U8 (pv 0) d0 λ_ _=>rfl) (l8 U8 (pv 1) d0 λ_ _=>rfl)))
  (j0 (r6 (i:=3) ma.nd rfl (aI rfl) (j8 Qr (l8 U8 (pv 1) d0 λ_ _=>rfl) (l8 U8 (pv 0) d0 (λ_ _=>rfl))))
  (j0 (w6 (l5 EI (pv 2) (pv 3) (r9 _)) (j4 (o4 (Eh V2 d0))) r8)
  (j0 (w6 (l5 Ej (pv 2) (pv 3) (r9 _)) (j4 (o4 d0)) r8)
  (j4 (o4 d0))))),?_⟩
 refine⟨_,rfl,a,_,0,_,rfl,rfl,ha,Oz _ _,_,rfl,b,_,1,_,rfl,rfl,hb,Mj _ _,_,_,rfl,rfl,⟨b1,b4⟩,_,rfl,b,_,0,_,rfl,rfl,hb,Oz _ _,_,rfl,a,_,1,_,rfl,rfl,ha,Mj _ _,_,_,rfl,rfl,⟨b3,b2⟩,?_⟩;unfold s_ at q;refine⟨_,rfl,_,rfl,_,_,rfl,rfl,_,rfl,y6 (λc=>?_) (λc=>?_)⟩
 ·rw[if_pos (of_decide_eq_true c)] at q;exact⟨_,rfl,q⟩
 rw[if_neg (of_decide_eq_false (eN.mpr c))] at q;refine⟨_,rfl,_,rfl,_,_,rfl,rfl,_,rfl,y6 (λd=>?_) (λd=>?_)⟩
 ·rw[if_pos (of_decide_eq_true d)] at q;exact q
 ·rw[if_neg (of_decide_eq_false (eN.mpr d))] at q;exact q
def ltQ(x y:Q2):Bool:=decide (x.1*y.2<y.1*x.2)
def oE(iq:List (Option Q2))(i:Nat):Bool :=
 match iq[i]? with
 |some (av x)=>iq.all λo=>match o with
  |some y=>!ltQ x y
  |none=>true
 |_=>false
structure qb(l:List (Option Q2))(o:Option Q2):Prop where
 n:o=bh->∀y,av y ∉ l
 m:∀b,o=av b->av b∈l/\∀y,av y∈l->ltQ b y=false
theorem f0o{x y z:Q2}(hx:0<x.2)(hy:0<y.2)(hz:0<z.2)(h1:x.1*y.2<y.1*x.2)(h2:¬z.1*y.2<y.1*z.2):x.1*z.2<z.1*x.2:=by
 have a3:(x.1*z.2)*y.2<(z.1*x.2)*y.2:=by
  calc (x.1*z.2)*y.2=x.1*y.2*z.2:=by ac_rfl
   _<y.1*x.2*z.2:=(Int.mul_lt_mul_of_pos_right h1 hz)
   _=y.1*z.2*x.2:=by ac_rfl
   _<=z.1*y.2*x.2:=(fH (Int.not_lt.mp h2) (cC hx))
   _=(z.1*x.2)*y.2:=by ac_rfl
 exact Int.lt_of_mul_lt_mul_right a3 (cC hy)
def f0v:Option Q2->Option Q2->Option Q2
 |none,o=>o
 |some a,bh=>av a
 |some a,av b=>if s_ a b>0 then av a else av b
theorem qb.step(h:qb l o)x(hc:∀y,av y∈l++[x]->UU y) :
  qb (l++[x]) (f0v x o):=by
 cases x with
 |none =>
  exact⟨λe y hy=>by
   rcases bJ.mp hy with z|z
   ·exact h.n e y z
   ·simp at z,λb e=>⟨List.mem_append_left _ (h.m b e).1,λy hy=>by
   rcases bJ.mp hy with z|z
   ·exact(h.m b e).2 y z
   ·simp at z⟩⟩
 |some a =>
  have ca:=(hc a (by simp)).1;cases o with
  |none =>
   refine⟨λe=>(nomatch e),λb e=>?_⟩;cases e;refine⟨by simp,λy hy=>?_⟩;rcases bJ.mp hy with z|z
   ·exact absurd z (h.n rfl y)
   ·cases cJ.mp z;unfold ltQ;exact decide_eq_false (aAF _)
  |some b =>
   have gt:s_ a b>0 ↔ b.1*a.2<a.1*b.2:=by
    unfold s_;by_cases c:a.1*b.2<b.1*a.2
    ·rw[if_pos c];exact⟨λz=>absurd z (by decide),λz=>by lia⟩
    ·rw[if_neg c];by_cases d:a.1*b.2>b.1*a.2
     ·rw[if_pos d];exact⟨λ_=>d,λ_=>by decide⟩
     ·rw[if_neg d];exact⟨λz=>absurd z (by decide),λz=>by lia⟩
   show qb (l++[av a]) (if s_ a b>0 then av a else av b);by_cases c:s_ a b>0
   ·rw[if_pos c];refine⟨λe=>(nomatch e),λb' e=>?_⟩;cases e;refine⟨by simp,λy hy=>?_⟩;rcases bJ.mp hy with z|z
    ·have h2:=of_decide_eq_false ((h.m b rfl).2 y z);refine decide_eq_false λh3=>?_;have:=f0o ((hc b (fW _ (h.m b rfl).1)).1) ca ((hc y hy).1) (gt.mp c) (by lia);lia
    ·cases cJ.mp z;exact decide_eq_false (aAF _)
   ·rw[if_neg c];refine⟨λe=>(nomatch e),λb' e=>?_⟩;cases e;refine⟨List.mem_append_left _ (h.m b rfl).1,λy hy=>?_⟩;rcases bJ.mp hy with z|z
    ·exact(h.m b rfl).2 y z
    ·cases cJ.mp z;exact decide_eq_false λz=>c (gt.mpr z)
theorem e8F(h:qb iq o)(hc:∀y,av y∈iq->UU y)(hx:iq[i]?=av (av x)):oE iq i=decide (av x=o):=by
 have Cm:=bK hx;have e:oE iq i=iq.all λo=>match o with
  |some y=>!ltQ x y
  |none=>true:=by unfold oE;rw[hx]
 rw[e];cases o with
 |none=>exact absurd Cm (h.n rfl x)
 |some b =>
  obtain⟨mb,hb⟩:=h.m b rfl;by_cases c:x=b
  ·subst c;rw[decide_eq_true rfl];refine fE.mpr λo ho=>?_;cases o with
   |none=>rfl
   |some y=>show(!ltQ x y)=true;rw[hb y ho];rfl
  ·rw[decide_eq_false λz=>c (bD z)];refine eN.mpr λz=>?_;have h1:=fE.mp z (av b) mb;have h1:(!ltQ x b)=true:=h1;have h3:ltQ x b=false:=by cases q:ltQ x b with
    |false=>rfl
    |true=>rw[q] at h1;cases h1
   have h2':=of_decide_eq_false (hb x Cm);have h3':=of_decide_eq_false h3;exact c (a6j (hc x Cm) (hc b mb) (by lia))
inductive Zb(K:aF)(vs:List V)(H:Hp)(Q:VK)(dj:XK):Prop|mk:∀(ba t:aA)(xs:List V)(hs:List i8)(pt pg:List Int)(ps D br:Int)(kt kg:Nat),vs=[.ref ba,.ref t]->ah K H ba xs->Bk K H xs hs->bx hs<=100->(∀h∈hs,HG br kt kg h)->br<=2^60->kt<=20->kg<=20->nZ H t pt pg ps D->sr pt pg ps D kt kg->(∀l H',af H H'->H l=bh->H' l=av (.lst (((aW (bx hs)).filter (oE (hs.map (DK pt pg ps)))).map λ(i:Nat)=>V.int (i:Int)))->Q (.ref l) H')->Zb K vs H Q dj
def md:p7 ["book","prices","told","best","one"] ["book","prices"] (i9 yw):={}
theorem f0f:(["number","one","best"]:List aC).Nodup:=by decide
theorem e8p(gh:HG br kt kg h)(CV:br<=2^60)(Kr:kt<=20)(Ks:kg<=20)(hN:sr pt pg ps D kt kg)(e:DK pt pg ps h=av x):fh 1000000 x.1/\fh 1000000 x.2:=by
 unfold DK at e;split at e
 ·cases e
 ·rename_i mm
  cases e;have n0:=Ci gh λx hx=>(hN.bt x hx).1;have hp:0<fo h pt:=by lia
  have Y_:fh 7000 (fo h pt):=(UT (GQ (vd gh CV 0) λx hx=>(hN.bt x hx).2) (by
   have:bx (V4 0 h)=kt:=gh.lt;rw[jS];lia)).mono (by decide)
  have bG_:fh 7000 (cV (·*·) h.2 pg).sum:=(UT (GQ (vd gh CV 1) λx hx=>(hN.bg x hx).2) (by
   have:bx (V4 1 h)=kg:=gh.lg;rw[jS];lia)).mono (by decide)
  have bE_:=fh.add bG_ (hN.bs.mono (by decide));refine⟨(Bc hp bE_).mono (by decide),?_⟩;have:=Bb (t:=P7 h pg ps) hp;exact(Gm (cC (pQ hp)) (pI this (de.fh.lt Y_))).mono (by decide)
def f0R{fa fb:aA}{da db:aK}(T:v8 mg)(Zc:C9 P w K mg base n "judged" ["book","prices"] (Ck K) fa da)(gW:C9 P w K mg base n "compared" ["one","other"] (Jh K) fb db)
  (hr:b_ n (A.deeper (cD "best_at" (i9 yw) s.heap.objs.size f ay))) :
  {t:TS//fu (N8 J8 P w K mg base ["book","prices","told","best","one"] "best_at" (i9 yw) f ay A outer s H E).oi (x9 yw) t} :=
 ⟨_,j0 (r6 (i:=2) md.nd rfl (aI rfl) (Zc.c hr (c6 (pv 0) (c6 (pv 1) c7))))
  (j0 (r6 (i:=3) md.nd rfl (fY rfl) D5)
  (j0 (IF hO rfl (C6 (pv 2)) (j9 (i:=4) md.nd rfl (aI rfl))
   (j4 (w6 (PW.pt (Gv (l5 Ga (pv 4) D5 (r9 _)) (T4 (PW.pt (U0 (l5 Lv (pv 3) D5 (r9 _)) (R9 (l5 Ej (gW.c hr (c6 (pv 4) (c6 (pv 3) c7))) d0 (r9 _))))))))
    (j4 (r6 (i:=3) md.nd rfl (fY rfl) (pv 4))) r8)))
  (j4 (o4 (zI ["number","one"] [3] rfl (zK K rfl rfl T.enum (c6 (pv 2) c7)) (λ_ _ _ _=>IX K (n:=2) rfl rfl (p6 (j9 (i:=0) f0f rfl (aI rfl)) (p6 (j9 (i:=1) f0f rfl (aI rfl)) A4)))
   (λ_ _ _ _=>PW.pt (Gv (l5 Ga (pv 1) D5 (r9 _)) (T4 (l5 (e9S K rfl hr) (pv 1) (pv 2) (r9 _)))))
   (λ_ _ _ _=>pv 0))))))⟩
theorem e8V(F:Aj K "best_at" yw f fd)(T:v8 mg)(Zc:C9 P w K mg base n "judged" ["book","prices"] (Ck K) fa da)(gW:C9 P w K mg base n "compared" ["one","other"] (Jh K) fb db) :
  bf P w K mg base J8 (n+1) f fd ["book","prices"] (Zb K):=by
 refine F.oa md λay A outer s H vs Q E hr h=>?_;obtain⟨ba,t,xs,hs,pt,pg,ps,D,br,kt,kg,rfl,hS,hB,eQ,hG,CV,Kr,Ks,hP,hN,q⟩:=h;refine⟨_,(f0R T Zc gW hr).2,_,rfl,_,rfl,ba,t,xs,hs,pt,pg,ps,D,br,kt,kg,rfl,hS,hB,eQ,hG,CV,Kr,Ks,hP,hN,λl ys H1 e1 CU Aw hJ=>?_⟩;have G9:bx ys=bx hs:=by rw[dE hJ,aH]
 generalize hjs:hs.map (DK pt pg ps)=iq at *;have vG:∀y,av y∈iq->UU y:=λy hy=>by
  rw[<-hjs] at hy;obtain⟨h,hm,e⟩:=aY.mp hy;exact e8b (hG h hm) (λx hx=>(hN.bt x hx).1) e
 have qy:∀y,av y∈iq->fh 1000000 y.1/\fh 1000000 y.2:=λy hy=>by
  rw[<-hjs] at hy;obtain⟨h,hm,e⟩:=aY.mp hy;exact e8p (hG h hm) CV Kr Ks hN e
 refine⟨_,rfl,l,rfl,⟨_,ah.of Aw⟩,?_⟩;refine xZ (λi σ H'=>∃bv Zd o,σ=[av (.ref ba),av (.ref t),av (.ref l),av bv,Zd]/\H1=H'/\yS H1 bv o/\qb (iq.take i) o)
  ⟨.non,_,bh,rfl,rfl,rfl,λ_ y hy=>by simp at hy,λb e=>(nomatch e)⟩ (λi σ H' _ ⟨_,_,_,_,e,_⟩=>by rw[<-e];exact ah.of Aw) ?_ ?_
 ·rintro i y σ H' hy ⟨bv,Zd,o,rfl,rfl,pS,DS⟩;obtain⟨j,hj,hv⟩:=aZ.at hJ hy;have Ze:=bK hj;have tk:iq.take (i+1)=iq.take i++[j]:=by rw[rC,hj];rfl
  have st:=DS.step j λy hy=>by
   rcases bJ.mp hy with z|z
   ·exact vG y (fV z)
   ·exact vG y ((cJ.mp z)▸Ze)
  rw[<-tk] at st;refine⟨_,rfl,rfl,_,rfl,?_⟩;cases j with
  |none =>
   have Lx:=hv;subst Lx;exact y6 (λc=>absurd c (by decide)) λ_=>M7 ⟨_,_,_,rfl,rfl,pS,st⟩
  |some x =>
   have Dd:=hv;have yn:y≠.non:=λz=>by
    obtain⟨a,ha,_⟩:=Dd;rw[ha] at z;cases z
   refine y6 (λ_=>⟨_,rfl,rfl,_,rfl,?_⟩) λc=>absurd (show(!decide (y=V.non))=true by rw[decide_eq_false yn];rfl) c;cases o with
   |none =>
    have ou:=pS;subst ou;exact y6 (λ_=>(J3 ⟨_,rfl,_,_,_,rfl,rfl,hv,st⟩)) λc=>absurd (show(decide (V.non=V.non))=true by decide) c
   |some b =>
    have zN:=pS;have bn:bv≠.non:=λz=>by
     obtain⟨a,ha,_⟩:=zN;rw[ha] at z;cases z
    refine y6 (λc=>absurd (of_decide_eq_true c) bn) (λ_=>?_);have mb:=fV (DS.m b rfl).1;refine⟨_,rfl,_,rfl,y,bv,x,b,rfl,Dd.v,zN.v,⟨(qy x Ze).1,(qy x Ze).2,(qy b mb).1,(qy b mb).2⟩,?_⟩;have x_:qb (iq.take (i+1)) (if s_ x b>0 then av x else av b):=st;refine⟨_,_,rfl,rfl,_,rfl,y6 (λc=>?_) (λc=>?_)⟩
    ·rw[if_pos (of_decide_eq_true c)] at x_;exact⟨_,rfl,_,_,_,rfl,rfl,hv,x_⟩
    ·rw[if_neg (of_decide_eq_false (eN.mpr c))] at x_;exact⟨_,_,_,rfl,rfl,pS,x_⟩
 ·rintro σ H' ⟨bv,Zd,o,rfl,rfl,pS,DS⟩;rw[fZ (by grind)] at DS;refine⟨_,rfl,l,rfl,⟨_,ah.of Aw⟩,λp hp=>?_⟩;have Bv:H p=bh:=by
   cases e:H p with
   |none=>rfl
   |some o=>rw[e1 _ _ e] at hp;cases hp
  refine Yd (ah.of Aw) hp (t9 (by lia)) (oE iq) (λi _=>.int (i:Int)) (λi y H2 zs N hy e dy fv=>?_) (λi y H2 N hy hq e fv=>⟨_,rfl,fv⟩) (λH2 e dy=>?_)
  ·obtain⟨j,hj,hv⟩:=aZ.at hJ hy;refine⟨_,rfl,rfl,_,rfl,?_⟩;cases j with
   |none =>
    have Lx:y=.non:=hv;subst Lx;refine y6 (λc=>absurd c (by decide)) (λ_=>?_);have:oE iq i=false:=by unfold oE;rw[hj]
    rw[<-this];exact fv _ (af.refl _)
   |some x =>
    have Dd:Ex H1 y x:=hv;have yn:y≠.non:=λz=>by
     obtain⟨a,ha,_⟩:=Dd;rw[ha] at z;cases z
    refine y6 (λ_=>?_) (λc=>absurd (show(!decide (y=V.non))=true by rw[decide_eq_false yn];rfl) c);have yT:=e8F DS vG hj;cases o with
    |none=>exact absurd (bK hj) (DS.n rfl x)
    |some b =>
     refine⟨_,rfl,_,rfl,dF x,dF b,Xc.dp ((Dd.same e).v),Xc.dp (((pS).same e).v),yB _,yB _,bF (sF _ _) (d0D _),_,rfl,?_⟩;have:cK (dF x) (dF b)=oE iq i:=by
      rw[e9H,yT];exact decide_eq_decide.mpr ⟨λz=>by rw[z],λz=>bD z⟩
     rw[this];exact fv _ (af.refl _)
  ·rw[e7y,G9] at dy;exact q p H2 (e1.trans e) Bv dy
end
section
variable{P:aM}{w:aL}{K:aF}{mg:aC->Option aE}{base:aJ}{f g:aA}{fd gd:aK}{n:Nat}
end
structure AOk(a:Q2):Prop where
 t0:0<=a.1
 t1:a.1<=1000000000
 b1:a.2<=1000000000
 c:UU a
section
variable{P:aM}{w:aL}{K:aF}{mg:aC->Option aE}{base:aJ}{f g:aA}{fd gd:aK}{n:Nat}
structure f0I(K:aF)(mg:aC->Option aE)(o:aA):Prop where
 m:mg "NOUGHT"=av (.ref o)
 s:∀H,cq K H o [.int 0,.int 1]
end
section
variable{P:aM}{w:aL}{K:aF}{mg:aC->Option aE}{base:aJ}{f g:aA}{fd gd:aK}{n:Nat}
end
end de
namespace L2
open PySem
theorem e9P(h1:xt b1 K H1 l1 xs)(h2:xt b2 K H1 l2 ys)(hp:H1 p=bh)(hz:bx xs<sizeLine)F
  (step:∀i x y H N,xs[i]?=av x->ys[i]?=av y->af H1 H->N (F i) H->te (((c_ 2 fr σ).set 0 (av x)).set 1 (av y)) H N)
  (hd:∀H,af H1 H->H p=av (.lst ((aW (min (bx xs) (bx ys))).map F))->D H):IJ 2 fr (MW K 2 (JE (N7 0) (JE (N7 1) PQ))) te σ (QD b1 b2 K l1 l2) H1 p D:=by
 refine QJ h1 h2 hp hz (λi v _=>v=F i) (λ_ _ _ _ r _=>r) (λi x y H zs N hx hy e _ hN=>step i x y H N hx hy e (hN _ _ (af.refl _) rfl)) λzs H e hH hl hr=>hd H e ?_;rw[hH];congr 2;refine dR λi=>?_;by_cases hi:i<min (bx xs) (bx ys)
 ·rw[aS (by lia),aP,cU hi,hr i _ (aS (by lia))];rfl
 ·rw[bW (by lia),bW (by simp_all)]
end L2
namespace de
open PySem L2 Fr
abbrev Rows(K:aF)(H:Hp):List V->List (List Int)->Prop:=bR λv row=>∃a,v=.ref a/\cq K H a (row.map V.int)
theorem e9I(ns ts:List Int)(h:bx ns=bx ts):(aW (bx ns)).map (λj=>ns.getD j 0*ts.getD j 0)=cV (·*·) ns ts:=by
 refine dR λi=>?_;by_cases hi:i<bx ns
 ·rw[aP,cU hi,mX,aS hi,aS (by lia),jV,bA,bA,aS hi,aS (by lia)];rfl
 ·rw[bW (by simp_all),bW (by simp_all)]
section
variable{P:aM}{w:aL}{K:aF}{mg:aC->Option aE}{base:aJ}{f g:aA}{fd gd:aK}{n:Nat}
inductive Ji(K:aF)(vs:List V)(H:Hp)(Q:VK)(dj:XK):Prop|mk:∀rl tl L Es rows fm k,vs=[.ref rl,.ref tl,.int L]->ah K H rl Es->Rows K H Es rows->ah K H tl (fm.map V.int)->bx rows=bx fm->1<=bx rows->bx rows<=100->k<=100->(∀r∈rows,bx r=k/\∀x∈r,fh 100 x)->(∀t∈fm,fh 60000 t)->0<L->L<2^8000->(∀r H' ys,H r=bh->af H H'->H' r=av (.lst ys)->bx ys=k->(∀i y,ys[i]?=av y->Ex H' y (low (cV (·*·) (col rows i) fm).sum L))->Q (.ref r) H')->Ji K vs H Q dj
def mf:p7 ["rows","tops","bottom","sums"] ["rows","tops","bottom"] (i9 yo):={}
theorem f0F:(["kind","rows","tops"]:List aC).Nodup:=by decide
theorem f0w:(["row","top","kind"]:List aC).Nodup:=by decide
theorem f0J:(["amount","bottom"]:List aC).Nodup:=by decide
def f0s{fb:aA}{db:aK}(T:v8 mg)(Cl:CZ P w K mg base n "lowest" ["top","bottom"] Xd fb db)
  (hr:b_ n (A.deeper (cD "come_together" (i9 yo) s.heap.objs.size f ay))) :
  {t:TS//fu (N8 J8 P w K mg base ["rows","tops","bottom","sums"] "come_together" (i9 yo) f ay A outer s H E).oi (x9 yo) t} :=
 ⟨_,t8 (CA (i:=3) ["kind"] [0,1] mf.nd rfl rfl rfl (R8 rfl T.range (c6 (j7 j6 rfl T.len bB (c6 (l8 j5 (pv 0) d0 λ_ _=>rfl) c7)) c7)) (λ_ _ _ _=>j9 (i:=0) f0F rfl (fY rfl))
   (λ_ _ _ _=>j7 (Gj K rfl rfl) rfl T.sum xR (c6 (N6 ["row","top"] [0] rfl (QI true true K rfl rfl T.zip (c6 (pv 1) (c6 (pv 2) c7)))
    (λ_ _ _ _=>IX K (n:=2) rfl rfl (p6 (j9 (i:=0) f0w rfl (aI rfl)) (p6 (j9 (i:=1) f0w rfl (aI rfl)) A4))) (λ_ _ _ _=>j8 Qr (l8 (zO K rfl) (pv 0) (pv 2) (λ_ _=>rfl)) (pv 1))) c7)))
  (j4 (o4 (N6 ["amount"] [2] rfl (C6 (pv 3)) (λ_ _ _ _=>j9 (i:=0) f0J rfl (aI rfl)) (λ_ _ _ _=>Cl.c hr (c6 (pv 0) (c6 (pv 1) c7))))))⟩
theorem e9j(F:Aj K "come_together" yo f fd)(T:v8 mg)(Cl:CZ P w K mg base n "lowest" ["top","bottom"] Xd fb db):bf P w K mg base J8 (n+1) f fd ["rows","tops","bottom"] (Ji K):=by
 refine F.oa mf λay A outer s H vs Q E hr h=>?_;obtain⟨rl,tl,L,Es,rows,fm,k,rfl,hR,Zf,hT,hlen,h1,Yt,hk,uw,Zg,hL,hL2,q⟩:=h;have rl':=dE Zf;refine⟨_,(f0s T Cl hr).2,?_⟩;have h0v:0<bx Es:=by lia
 obtain⟨De,Dj,a0,ha0,Jf⟩:=aZ.at Zf (aS h0v);have Jj:U7 Es 0=av (.ref a0):=by
  rw[<-ha0];exact A2 (aS h0v)
 have l0:bx (De.map V.int)=k:=by rw[aH];exact(uw De (bK Dj)).1
 refine⟨λau H'=>∃sl,au=[av (.ref rl),av (.ref tl),av (.int L),av (.ref sl)]/\af H H'/\H' sl=av (.lst (((aW k).map λi=>(cV (·*·) (col rows i) fm).sum).map V.int)),?_,?_⟩
 ·refine⟨_,rfl,rl,_,0,_,rfl,rfl,hR,Jj,a0,_,rfl,.inr Jf,_,rfl,by lia,by lia,λp hp=>?_⟩;refine N5 (by rw[l0,cF];exact Po) hp (by rw[aH,gZ];exact t9 (by lia))
   (λi y _=>y=.int (cV (·*·) (col rows i) fm).sum) (λ_ _ _ _ r _=>r) (λi x H' ys N hx e dy hN=>?_) λys H' e dy len pr=>?_
  ·rw[aP] at hx;cases IZ:(aW k)[i]? with
   |none=>rw[IZ] at hx;cases hx
   |some i' =>
    obtain⟨BH,Ek⟩:=cA.mp IZ;rw[Cb] at Ek;subst Ek;rw[gZ] at BH;rw[IZ] at hx;cases hx;refine⟨Wk.set (by decide),_,rfl,_,rfl,rl,tl,rfl,⟨_,e.seq hR⟩,⟨_,e.seq hT⟩,λp2 oy=>(e9P (e.seq hR:ah K _ _ _) (e.seq hT:ah K _ _ _) oy (t9 (by lia)) (λj=>.int ((col rows i).getD j 0*fm.getD j 0)) (λj u v H2 N2 hu hv e2 OD=>?_) λH2 e2 Dk=>?_)⟩
    ·obtain⟨row,IS,b,rfl,hb⟩:=aZ.at Zf hu;have IW:=uw row (bK IS);rw[aP] at hv;cases Jk:fm[j]? with
     |none=>rw[Jk] at hv;cases hv
     |some t =>
      rw[Jk] at hv;cases hv;have Zh:i<bx row:=by rw[IW.1];exact BH
      have ar:U7 (row.map V.int) (0+(i:Int))=av (.int row[i]):=by
       rw[lH];exact A2 (by rw[aP,aS Zh];rfl)
      have ec:(col rows i).getD j 0=row[i]:=by
       unfold col;rw[bA,aP,IS,jV,iG,bA,aS Zh];rfl
      have et:fm.getD j 0=t:=by rw[bA,Jk];rfl
      rw[ec,et] at OD;refine⟨_,rfl,_,rfl,b,_,_,_,rfl,rfl,(e.trans e2).cm hb,ar,_,rfl,_,_,rfl,rfl,⟨(IW.2 _ (eF Zh)).mono (by decide),(Zg t (bK Jk)).mono (by decide)⟩,OD⟩
    ·have em:(aW (min (bx Es) (bx (fm.map V.int)))).map (λj=>V.int ((col rows i).getD j 0*fm.getD j 0))=(cV (·*·) (col rows i) fm).map V.int:=by
      have xr:bx (col rows i)=bx rows:=aH _;rw[<-e9I (col rows i) fm (by rw[xr];exact hlen),bC,show min (bx Es) (bx (fm.map V.int))=bx (col rows i) by rw[xr,aH _,rl'];lia];rfl
     rw[em] at Dk;exact⟨p2,_,rfl,.inl (ah.of Dk),hN _ _ e2 rfl⟩
  ·have ey:ys=((aW k).map λi=>(cV (·*·) (col rows i) fm).sum).map V.int:=by
    rw[aH,gZ] at len;refine dR λi=>?_;by_cases hi:i<bx ys
    ·have z2:=pr i _ (aS hi);rw[aS hi,z2,aP,aP,cU (by lia)];rfl
    ·rw[bW (by lia),bW (by rw[aH,aH,gZ];lia)]
   rw[ey] at dy;exact⟨p,rfl,e,dy⟩
 rintro au H1 ⟨sl,rfl,e1,je⟩;have ls:bx (((aW k).map λi=>(cV (·*·) (col rows i) fm).sum).map V.int)=k:=by rw[aH,aH,gZ]
 refine⟨_,rfl,sl,rfl,⟨_,ah.of je⟩,λp hp=>?_⟩;refine N5 (A3 (ah.of je)) hp (by rw[ls];exact t9 (by lia)) (λi y H'=>∃b,y=.ref b/\H' b=av (.tup [.int (low (cV (·*·) (col rows i) fm).sum L).1,.int (low (cV (·*·) (col rows i) fm).sum L).2])/\b≠p)
  (λi y H' xc ⟨b,z1,z2,z3⟩ st=>⟨b,z1,st b _ z3 z2,z3⟩) (λi x H' ys N hx e dy hN=>?_) (λys H' e dy len pr=>?_)
 ·rw[aP,aP] at hx;cases IZ:(aW k)[i]? with
  |none=>rw[IZ] at hx;cases hx
  |some i' =>
   obtain⟨BH,Ek⟩:=cA.mp IZ;rw[Cb] at Ek;subst Ek;rw[IZ] at hx;cases hx;refine⟨Wk.set (by decide),_,rfl,_,rfl,_,L,rfl,hL,hL2,λv H2 e2 ⟨b,hv,hb⟩=>hN v H2 e2 ⟨b,hv,hb,?_⟩⟩;intro z;rw[z,e2 _ _ dy] at hb;cases hb
 ·exact q p H' ys (ko e1 hp) (e1.trans e) dy (by rw[len,ls]) λi y hy=>by
   obtain⟨b,z1,z2,_⟩:=pr i y hy;exact⟨b,z1,z2⟩
inductive Zi(K:aF)(vs:List V)(H:Hp)(Q:VK)(dj:XK):Prop|mk:∀bl ml xs Jl hs ws D br kt kg,vs=[.ref bl,.ref ml]->ah K H bl xs->Bk K H xs hs->1<=bx hs->bx hs<=100->ah K H ml Jl->UG K H Jl ws D->(∀x∈ws,fh 20000 x)->0<D->D<2^8000->bx ws=bx hs->(∀h∈hs,HG br kt kg h)->br<=2^60->kt<=20->kg<=20->(∀r tl gl H',af H H'->H' r=av (.tup [.ref tl,.ref gl])->U6 H' hs ws D 0 kt tl->U6 H' hs ws D 1 kg gl->H tl=bh->H gl=bh->Q (.ref r) H')->Zi K vs H Q dj
def mh:p7 ["book","mix","tops","bottom","taken","given"] ["book","mix"] (i9 yr):={}
theorem Jm:(["takes","gives"]:List aC).Nodup:=by decide
def f0P{fa fb:aA}{da db:aK}(Co:C9 P w K mg base n "over_one_bottom" ["ones"] (mL K) fa da)(gW:CZ P w K mg base n "come_together" ["rows","tops","bottom"] (Ji K) fb db)
  (hr:b_ n (A.deeper (cD "mixed" (i9 yr) s.heap.objs.size f ay))) :
  {t:TS//fu (N8 J8 P w K mg base ["book","mix","tops","bottom","taken","given"] "mixed" (i9 yr) f ay A outer s H E).oi (x9 yr) t} :=
 ⟨_,j0 (D3 (Co.c hr (c6 (pv 1) c7)) (K4 rfl (p6 (j9 (i:=2) mh.nd rfl (aI rfl)) (p6 (j9 (i:=3) mh.nd rfl (aI rfl)) A4))))
  (j0 (r6 (i:=4) mh.nd rfl (aI rfl) (gW.c hr (c6 (N6 ["takes","gives"] [] rfl (C6 (pv 0)) (λ_ _ _ _=>IX K (n:=2) rfl rfl (p6 (j9 (i:=0) Jm rfl (aI rfl)) (p6 (j9 (i:=1) Jm rfl (aI rfl)) A4))) (λ_ _ _ _=>pv 0)) (c6 (pv 2) (c6 (pv 3) c7)))))
  (j0 (r6 (i:=5) mh.nd rfl (aI rfl) (gW.c hr (c6 (N6 ["takes","gives"] [] rfl (C6 (pv 0)) (λ_ _ _ _=>IX K (n:=2) rfl rfl (p6 (j9 (i:=0) Jm rfl (aI rfl)) (p6 (j9 (i:=1) Jm rfl (aI rfl)) A4))) (λ_ _ _ _=>pv 1)) (c6 (pv 2) (c6 (pv 3) c7)))))
  (j4 (o4 (A9 (c6 (pv 4) (c6 (pv 5) c7)))))))⟩
theorem Zj:∀zs(we:List i8),bx zs=bx we->(∀(i:Nat)z,zs[i]?=av z->∃h a,we[i]?=av h/\z=.ref a/\cq K H a ((V4 j h).map V.int))->Rows K H zs (we.map (V4 j))
 |[],[],_,_=>.nil
 |[],_::_,h,_=>by simp at h
 |_::_,[],h,_=>by simp at h
 |z::zs,g::we,hl,h=>by
  obtain⟨h',a,h1,h2,h3⟩:=h 0 z rfl;cases h1;exact .cons ⟨a,h2,h3⟩ (Zj zs we (by simpa using hl) λi z hz=>h (i+1) z hz)
theorem e8i(F:Aj K "mixed" yr f fd)(Co:C9 P w K mg base n "over_one_bottom" ["ones"] (mL K) fa da)(gW:CZ P w K mg base n "come_together" ["rows","tops","bottom"] (Ji K) fb db):bf P w K mg base J8 (n+1) f fd ["book","mix"] (Zi K):=by
 refine F.oa mh λay A outer s H vs Q E hr h=>?_;obtain⟨bl,ml,xs,Jl,hs,ws,D,br,kt,kg,rfl,hS,hB,yU,hn,hM,hF,hbw,hD,yN,hlen,hG,CV,Kr,Ks,q⟩:=h;refine⟨_,(f0P Co gW hr).2,?_⟩;have xl:bx xs=bx hs:=dE hB;refine⟨_,rfl,?_⟩;unfold yb;refine qN ⟨ml,Jl,ws,D,rfl,hM,hF,by lia,hbw,hD,yN,λr tl H1 L e1 GN Hz hL jP sy=>⟨r,_,rfl,cq.of GN,rfl,_,_,rfl,_,_,rfl,rfl,?_⟩⟩;have yR:=wG hD jP;have mi:=λns=>Gg hL hD (Ij hD ns ws sy);have tb:∀t∈ws.map (v4 D L),fh 60000 t:=λt ht=>by
  obtain⟨x,hx,rfl⟩:=aY.mp ht;exact(Ii hD hL yR (sy x hx) (hbw x hx)).mono (by decide)
 have side:∀(j:Nat)(k:Nat),(∀h∈hs,bx (V4 j h)=k/\∀x∈V4 j h,fh 100 x)->∀r∈hs.map (V4 j),bx r=k/\∀x∈r,fh 100 x:=λj k hk r hr=>by
  obtain⟨h,hh,rfl⟩:=aY.mp hr;exact hk h hh
 refine⟨_,rfl,bl,rfl,⟨_,e1.seq hS⟩,λp hp=>(N5 (A3 (e1.seq hS)) hp (t9 (by lia)) (λi y _=>∃h a g b,hs[i]?=av h/\xs[i]?=av (.ref b)/\cq K H1 b [.ref a,.ref g]/\y=.ref a/\cq K H1 a (h.1.map V.int)) (λ_ _ _ _ r _=>r) (λi y H2 zs N hy e dy fv=>?_) (λzs H2 e dy len pr=>?_))⟩
 ·obtain⟨h,hh,⟨b,ta,ga,rfl,p1,p2,p3⟩⟩:=aZ.at (Bk.same e1 hB) hy;exact⟨b,_,rfl,e.cm p1,rfl,_,_,rfl,_,_,rfl,rfl,Bx (by decide) (by decide),_,rfl,fv _ _ (af.refl _) ⟨h,ta,ga,b,hh,hy,p1,rfl,p2⟩⟩
 have HD:=e1.trans e;have R0:Rows K H2 zs (hs.map (V4 0)):=Zj zs hs (by lia) λi z hz=>by
  obtain⟨h,a,g,b,h1,_,_,h2,h3⟩:=pr i z hz;exact⟨h,a,h1,h2,e.cm h3⟩
 refine⟨_,rfl,_,rfl,p,tl,L,zs,hs.map (V4 0),ws.map (v4 D L),kt,rfl,ah.of dy,R0,ah.of (e _ _ Hz),by rw[aH,aH];lia,by rw[aH];exact yU,by rw[aH];exact hn,by lia,side 0 kt (λh hh=>⟨(hG h hh).lt,vd (hG h hh) CV 0⟩),tb,hL,pI yR yN,λt1 H3 ys3 n3 e3 Dl KA Zk=>?_⟩;have GR:=e.trans e3;refine⟨_,rfl,bl,rfl,⟨_,(e1.trans GR).seq hS⟩,λp' oy=>(N5 (A3 ((e1.trans GR).seq hS)) oy (t9 (by lia)) (λi y _=>∃h a,hs[i]?=av h/\y=.ref a/\cq K H1 a (h.2.map V.int)) (λ_ _ _ _ r _=>r) (λi y H4 Jn N hy e4 dy fv=>?_) (λJn H4 e4 Mc len4 pr4=>?_))⟩
 ·obtain⟨h,hh,⟨b,ta,ga,rfl,p1,p2,p3⟩⟩:=aZ.at (Bk.same e1 hB) hy;exact⟨b,_,rfl,(GR.trans e4).cm p1,rfl,_,_,rfl,_,_,rfl,rfl,Bx (by decide) (by decide),_,rfl,fv _ _ (af.refl _) ⟨h,ga,hh,rfl,p3⟩⟩
 have Ew:=GR.trans e4;have R1:Rows K H4 Jn (hs.map (V4 1)):=Zj Jn hs (by lia) λi z hz=>by
  obtain⟨h,a,h1,h2,h3⟩:=pr4 i z hz;exact⟨h,a,h1,h2,Ew.cm h3⟩
 refine⟨_,rfl,_,rfl,p',tl,L,Jn,hs.map (V4 1),ws.map (v4 D L),kg,rfl,ah.of Mc,R1,ah.of (Ew _ _ Hz),by rw[aH,aH];lia,by rw[aH];exact yU,by rw[aH];exact hn,by lia,side 1 kg (λh hh=>⟨(hG h hh).lg,vd (hG h hh) CV 1⟩),tb,hL,pI yR yN,λt2 H5 ys5 n5 e5 Kj uJ hy5=>⟨_,rfl,_,rfl,(by show 2<=sizeLine;decide),λt3 Zl=>?_⟩⟩;have s6:=af.new Zl (.tup [V.ref t1,V.ref t2]);have Dm:=e4.trans (e5.trans s6);refine q t3 t1 t2 _ (e1.trans (GR.trans Dm)) ae ⟨ys3,Dm _ _ Dl,KA,λi y hy=>?_⟩ ⟨ys5,s6 _ _ Kj,uJ,λi y hy=>?_⟩ (ko (e1.trans e) n3) (ko (e1.trans Ew) n5)
 ·rw[<-mi];exact(Zk i y hy).same Dm
 ·rw[<-mi];exact(hy5 i y hy).same s6
end
end de
namespace L2
open PySem PySem.Spec PySem.Builtin PySem.Builtin.Str PyProof.Rows
theorem a4L:∀l,Vals ((l.map (·.1)).map V.str) (strValues l)
 |[]=>.nil
 |p::l=>.cons ⟨p.2,rfl⟩ (a4L l)
theorem a5q:∀{ys}{cx},Vals (ys.map V.str) cx->StrsAre cx ys
 |[],_,h=>by cases h;exact .nil
 |y::ys,_,h=>by
  cases h with
  |cons r t =>
   obtain⟨tk,rfl⟩:=r;exact .cons y tk (a5q t)
inductive b5J(x:V)(vs:List V)(H:Hp)(Q:VK):Prop|mk:∀z y,x=.str z->vs=[.str y]->(y.length==0)=false->z.length+2<=sizeLine->(∀l,H l=bh->Q (.ref l) (upd H l (.lst ((aU z y).map V.str))))->b5J x vs H Q
theorem U4:Lz X "str.split" b5J:=by
 intro bz s σ H x vs v us Q I rx rv h;obtain⟨z,y,rfl,rfl,hy,xq,q⟩:=h;obtain⟨t,rfl⟩:=rx;obtain⟨u,rfl,ru⟩:=rv.one;obtain⟨u,rfl⟩:=ru;have hn:(partsBetween z (occurrences z y 0 z.length (z.length+1)) y.length).length<=sizeLine:=by
  have e1:=StrLaws.occ_length_le z y 0 z.length (z.length+1);rw[length_partsBetween];lia
 have fin:∀(l:List (dZ×Tok))(k:Nat),l.map (·.1)=aU z y->l.length<=sizeLine->∃v' H',Inv X bz σ H' {s with heap:=s.heap.push {cls:=.type "list",data:=.seq (strValues l).toArray},toks:=k}/\RelV v' (.ref s.heap.objs.size)/\Q v' H':=λl k e hl=>by
  refine⟨.ref s.heap.objs.size,_,I.laid (o:=.lst ((aU z y).map V.str)) (λb u e=>bL _ e) (aT _) ⟨?_,strValues l,0,?_,dG _ rfl⟩,rfl,q _ (I.ck.fresh (aT _))⟩
  ·rw[<-e,aH,aH];exact hl
  ·rw[<-e];exact a4L l
 have ls:=λl k=>by
  have:=congrArg iT (vM k l);rw[aH] at this;exact this
 cases h1:(decide (z.length<y.length)||decide (strKind z<strKind y))
 ·cases hf:(occurrences z y 0 z.length (z.length+1)).isEmpty
  ·refine gF rL (mD _ _ _) rN (rO _ _) (meets_str_split_sep z y t u h1 hy hf (by lia) hn) ?_;rw[strsFrom_eq];exact fin (numbered s.toks _) _ ((vM _ _).trans ((if_neg (ne_true_of_eq_false h1)).trans (if_neg (ne_true_of_eq_false hf))).symm) (by simp_all)
  ·exact gF rL (mD _ _ _) rN (rO _ _) (meets_str_split_not_found z y t u h1 hy hf)
    (fin [(z,t)] s.toks ((if_neg (ne_true_of_eq_false h1)).trans (if_pos hf)).symm (show 1<=sizeLine by decide))
 ·exact gF rL (mD _ _ _) rN (rO _ _) (meets_str_split_cannot_occur z y t u h1)
   (fin [(z,t)] s.toks (if_pos h1).symm (show 1<=sizeLine by decide))
inductive Qv(K:aF)(x:V)(vs:List V)(H:Hp)(Q:VK):Prop|mk:∀y l ys,x=.str y->vs=[.ref l]->ah K H l (ys.map V.str)->(ys.map (·.length)).sum+ys.length*y.length<=16777216->Q (.str (vN y ys)) H->Qv K x vs H Q
theorem W4:Lz X "str.join" (Qv X.K):=by
 intro bz s σ H x vs v us Q I rx rv h;obtain⟨y,l,ys,rfl,rfl,hl,hz,q⟩:=h;obtain⟨t,rfl⟩:=rx;obtain⟨u,rfl,ru⟩:=rv.one;cases ru;obtain⟨cx,r,p,_⟩:=I.list hl;exact join_list p.isList (a5q r) hz λt' k=>⟨.str _,H,I.tok _,⟨_,rfl⟩,q⟩
theorem a2x:K6 X (.type "int") (λxs H Q=>∃z n,xs=[.str z]/\PySem.intText? z=av n/\z.length<=640/\Q (.int n) H):=by
 intro bz s σ H vs us Q I r h;obtain⟨z,n,rfl,hn,hl,q⟩:=h;obtain⟨u,rfl,ru⟩:=r.one;obtain⟨t,rfl⟩:=ru;exact W.KIN.call_text hn hl ⟨.int n,H,I.tok _,⟨_,rfl⟩,q⟩
def Its(z:dZ):It:=⟨λi _=>i<z.cps.size,λi H x H'=>H'=H/\∃c,z.cps[i]?=av c/\x=.str ⟨#[c]⟩,λi _=>z.cps.size<=i⟩
theorem b1m{P:aM}{w:aL}{K:aF}{tg:aR}(z:dZ)(t:Tok)(it:aA):JF P w K tg (Its z) [it] it (λi h=>h.IsStrIter it "str_ascii_iterator" z t i\/h.IsStrIter it "str_iterator" z t i) where
 mem:=by simp
 obj:=λi h st b hb=>by
  have e:b=it:=by simp_all
  subst e;rcases st with st|st
  ·obtain⟨o,e,c,d⟩:=st;exact⟨o,e,λv z=>by rw[d] at z;cases z⟩
  ·obtain⟨o,e,c,d⟩:=st;exact⟨o,e,λv z=>by rw[d] at z;cases z⟩
 keep:=λi h h' st k=>by
  rcases st with⟨o,e,r⟩|⟨o,e,r⟩
  ·exact .inl ⟨o,k it (by simp) o e,r⟩
  ·exact .inr ⟨o,k it (by simp) o e,r⟩
 item:=by
  intro X hP hw hK hc i bz s σ H E I hf st hg;subst hP hw hK;have qo:i<z.cps.size:=hg;obtain⟨f0,f1,f2,f3,f4,f5⟩:=hf it (by simp);have hx:z.cps[i]?=av z.cps[i]:=by simp[qo]
  rcases st with st|st
  ·refine wpAny_pyNext_ascii_item st hx λh' x_ sb=>?_;obtain⟨o,e,c,d⟩:=id x_;exact⟨_,rfl,MX e c d (by decide) ⟨.str ⟨#[z.cps[i]]⟩,H,(I.turned (t':=s.toks+1) (λb o hb e=>(sb.2 b hb).trans e) f0 f1 f3 f4 f5),⟨_,rfl⟩,⟨rfl,_,hx,rfl⟩,.inl x_,λb hb=>(hf b hb).1⟩⟩
  ·refine wpAny_pyNext_wide_item st hx λh' x_ sb=>?_;obtain⟨o,e,c,d⟩:=id x_;exact⟨_,rfl,MX e c d (by decide) ⟨.str ⟨#[z.cps[i]]⟩,H,(I.turned (t':=s.toks+1) (λb o hb e=>(sb.2 b hb).trans e) f0 f1 f3 f4 f5),⟨_,rfl⟩,⟨rfl,_,hx,rfl⟩,.inr x_,λb hb=>(hf b hb).1⟩⟩
 done:=by
  intro X hP hw hK hc i bz s σ H E I hf st hg;subst hP hw hK;have qo:z.cps.size<=i:=hg;obtain⟨f0,f1,f2,f3,f4,f5⟩:=hf it (by simp);have hx:z.cps[i]?=bh:=by simp[qo]
  rcases st with st|st
  ·exact wpAny_pyNext_ascii_end (I.ok.hd hc) st hx λh' eb=>⟨rfl,I.turned (λb o hb e=>eb b o hb e) f0 f1 f3 f4 f5⟩
  ·exact wpAny_pyNext_wide_end (I.ok.hd hc) st hx λh' eb=>⟨rfl,I.turned (λb o hb e=>eb b o hb e) f0 f1 f3 f4 f5⟩
 self:=λ_ _ _ _ _ st h=>st.elim (λst=>wpAny_pyIter_striter_ascii st h) λst=>wpAny_pyIter_striter_wide st h
def c1r(tl:TE):TI:=λσ H R=>tl σ H λx H1=>∃z,x=.str z/\R (Its z) H1
theorem b3d(hl:PE X l tl):PI X tg l (c1r tl):=by
 intro bz s σ H R I h;refine D7 (hl bz s σ H _ I h) λv s1 ⟨x,H1,I1,r1,q1⟩=>?_;obtain⟨z,e,q⟩:=q1;subst e;obtain⟨t,rfl⟩:=r1;have fin:∀(o:Obj),(s1.heap.push o).IsStrIter s1.heap.objs.size "str_ascii_iterator" z t 0\/(s1.heap.push o).IsStrIter s1.heap.objs.size "str_iterator" z t 0->PIE X bz σ tg R (.ref s1.heap.objs.size) {s1 with heap:=s1.heap.push o}:=λo st =>
  ⟨s1.heap.objs.size,[s1.heap.objs.size],_,_,H1,rfl,I1.kept λb o e=>bL _ e,b1m z t _,st,λb hb=>by
   have e:b=s1.heap.objs.size:=by simp_all
   subst e;exact I1.xy (aT _) (I1.ck.fresh (aT _)),q⟩
 cases ha:z.cps.all (·<128)
 ·exact wpAny_pyIter_wide ha (fin _ (.inr ⟨_,dG _ rfl,rfl,rfl⟩))
 ·exact wpAny_pyIter_ascii ha (fin _ (.inl ⟨_,dG _ rfl,rfl,rfl⟩))
def R6(z:dZ):List V:=z.cps.toList.map λc=>V.str ⟨#[c]⟩
theorem a7c:IL (Its z) H1 (R6 z):=by
 have l:bx (R6 z)=z.cps.size:=by unfold R6;rw[aH,lO]
 refine⟨λi H _ hi=>by rw[l] at hi;exact hi,λi H x H' _ hi y=>⟨y.1,?_⟩,λH _=>by rw[l];exact aT _⟩;obtain⟨c,hc,rfl⟩:=y.2;unfold R6;rw[aP,qW,hc];rfl
abbrev UM:=St->Hp->(dZ->Hp->Prop)->Prop
def LI(X:Cx)(es:List aR)(t:UM):Prop :=
 ∀bz s(σ:St)H out Q,Inv X bz σ H s->out.length+2000*es.length<=100000->t σ H Q →
  wpAny (model X.prog X.w) X.A (joinParts out (evalEach es X.env)) (λu s'=>∃z tk H',u=jB (out++z) tk/\Inv X bz σ H' s'/\Q z H') X.xe s
def b0Q x:x++eI=x:=rfl
theorem b0L x:eI++x=x:=by
 cases x with|mk c=>show oN (#[]++c)=_;simp
theorem a5k(x y z:dZ):(x++y)++z=x++(y++z):=by
 cases x with|mk a=>cases y with|mk b=>cases z with|mk c =>
 show oN ((a++b)++c)=oN (a++(b++c))
 rw[sM]
def ES(v:V)(y:dZ):Prop:=(∃i,v=.int i/\i.natAbs.log2<1920/\y=cN (toString i))\/(v=.str y/\y.length<=2000)
theorem a9z:LI X [] λ_ H Q=>Q eI H:=by
 intro bz s σ H out Q I hl h;exact vL (rJ ⟨Str.empty,_,H,by rw[b0Q],I.tok _,h⟩ (by rw[bE];simp at hl;lia))
theorem b0f(h:LI X es t)(ha:a.length<=1000:=by decide):LI X (.Constant (.str a) j p1::es) λσ H Q=>t σ H λz H'=>Q (a++z) H':=by
 intro bz s σ H out Q I hl ht;refine oM (kP (D7 (l9 bz s σ H (λv H'=>v=.str a/\H'=H) I ⟨rfl,rfl⟩) λu s1 ⟨v,H1,I1,r,hv,hH⟩=>?_));subst hv;subst hH;obtain⟨tk,rfl⟩:=r;simp only[eM] at hl;have e0:(out++a).length=out.length+a.length:=kQ ..;refine⟨by rw[e0,bE];lia,D7 (h bz s1 σ H1 (out++a) _ I1 (by lia) ht) λu s' ⟨z,tk,H',e1,I',q⟩=>⟨a++z,tk,H',by rw[e1,a5k],I',q⟩⟩
theorem Qw(he:PE X e te)(h:LI X es t):LI X (.FormattedValue e (-1) bh p2::es) λσ H Q=>te σ H λv H1=>∃y,ES v y/\t σ H1 λz H'=>Q (y++z) H':=by
 intro bz s σ H out Q I hl ht;refine oM (kP (oG (D7 (he bz s σ H _ I ht) λu s2 ⟨v,H2,I2,r,y,hp,q⟩=>?_)));simp only[eM] at hl;have fin:∀(tk:Nat) ,y.length<=2000->(out++y).length<=sizeLine/\wpAny (model X.prog X.w) X.A (joinParts (out++y) (evalEach es X.env)) (λu s'=>∃z tk H',u=jB (out++z) tk/\Inv X bz σ H' s'/\Q z H') X.xe {s2 with toks:=tk}:=λtk hy=>by
  have e0:(out++y).length=out.length+y.length:=kQ ..;refine⟨by rw[e0,bE];lia,D7 (h bz _ σ H2 (out++y) _ (I2.tok _) (by lia) q) λu s' ⟨z,tk,H',e1,I',q⟩=>⟨y++z,tk,H',by rw[e1,a5k],I',q⟩⟩
 rcases hp with⟨i,rfl,hi,rfl⟩|⟨rfl,hy⟩
 ·obtain⟨Nw,rfl⟩:=r;refine oH hi ?_;have h1:=oJ (a:=i) (k:=1920) (by decide) hi;exact fin _ (by rw[oK];lia)
 ·obtain⟨Nw,rfl⟩:=r;exact vO (λt' tk=>fin tk hy) (by rw[bE];lia)
def tFe(t:UM):TE:=λσ H Q=>t σ H λz H1=>Q (.str z) H1
theorem a6X(h:LI X (v1::v2::es) t)(hl:es.length<=20:=by decide):PE X (.JoinedStr (v1::v2::es) p3) (tFe t):=by
 intro bz s σ H Q I ht;refine rH (D7 (h bz s σ H eI _ I ?_ ht) λu s' ⟨z,tk,H',e1,I',q⟩=>?_)
 ·show 0+2000*(es.length+1+1)<=100000;lia
 ·subst e1;exact⟨.str z,H',I',⟨_,by rw[b0L]⟩,q⟩
end L2
namespace Tx
open PySem PySem.Builtin PySem.Builtin.Str PyProof.Rows
abbrev S:=dZ
abbrev cs(x:S):List Nat:=x.cps.toList
theorem ext(h:cs x=cs y):x=y:=by
 cases x with|mk a=>cases y with|mk b =>
 have:a.toList=b.toList:=h;rw[Array.toList_inj.mp this]
theorem bu x y:cs (x++y)=cs x++cs y:=by
 cases x with|mk a=>cases y with|mk b =>
 show(a++b).toList=a.toList++b.toList
 simp
abbrev ch(c:Nat):S:=⟨#[c]⟩
def vk c:cs (ch c)=[c]:=rfl
def d_ x:x.length=(cs x).length:=(lO).symm
theorem b2M:∀{a b s t:List Nat},c ∉ a->c ∉ b->a++c::s=b++c::t->a=b/\s=t
 |[],[],s,t,_,_,h=>⟨rfl,by simpa using h⟩
 |[],y::b,s,t,_,hb,h=>by
  have:c=y:=by simpa using (kS h).1
  exact absurd (this▸cY) hb
 |x::a,[],s,t,ha,_,h=>by
  have:x=c:=by simpa using (kS h).1
  exact absurd (this▸cY) ha
 |x::a,y::b,s,t,ha,hb,h=>by
  obtain⟨h1,h2⟩:=kS h;obtain⟨e1,e2⟩:=b2M (λz=>ha (bZ _ z)) (λz=>hb (bZ _ z)) h2;exact⟨by rw[h1,e1],e2⟩
theorem a7y:∀{ps qs},ps≠[]->qs≠[]->(∀p∈ps,c ∉ cs p)->(∀p∈qs,c ∉ cs p)->cO (ch c) ps=cO (ch c) qs->ps=qs
 |[],_,h,_,_,_,_=>absurd rfl h
 |_::_,[],_,h,_,_,_=>absurd rfl h
 |[p],[q],_,_,_,_,h=>by rw[show p=q from h]
 |[p],q::q'::r,_,_,hp,_,h=>by
  have e:=congrArg cs h;have e':cs p=cs (q++ch c++cO (ch c) (q'::r)):=e;rw[bu,bu] at e';exact absurd (by rw[e'];simp) (hp p cY)
 |p::p'::r,[q],_,_,_,hq,h=>by
  have e:=congrArg cs h;have e':cs (p++ch c++cO (ch c) (p'::r))=cs q:=e;rw[bu,bu] at e';exact absurd (by rw[<-e'];simp) (hq q cY)
 |p::p'::r,q::q'::r',_,_,hp,hq,h=>by
  have e:cs (p++ch c++cO (ch c) (p'::r))=cs (q++ch c++cO (ch c) (q'::r')):=congrArg cs h;rw[bu,bu,bu,bu,dC,dC] at e;obtain⟨e1,e2⟩:=b2M (hp p cY) (hq q cY) e;rw[ext e1,a7y (by simp) (by simp) (λx hx=>hp x (bZ _ hx)) (λx hx=>hq x (bZ _ hx)) (ext e2)]
theorem R7(mm:ps≠[])(hf:∀p∈ps,c ∉ cs p):aU (cO (ch c) ps) (ch c)=ps:=by
 refine a7y ?_ mm (StrLaws.split_free _ c) hf (mQ _ _);intro z;have:=split_pos (cO (ch c) ps) (ch c);rw[z] at this;exact absurd this (by decide)
theorem a7I:∀{ps:List S}{p},p∈ps->d∈cs p->d∈cs (cO (ch c) ps)
 |[q],p,h,hd=>by rw[cJ.mp h] at hd;exact hd
 |q::q'::r,p,h,hd=>by
  show d∈cs (q++ch c++cO (ch c) (q'::r));rw[bu,bu];rcases bH.mp h with rfl|h
  ·exact fW _ (fW _ hd)
  ·exact eL _ (a7I h hd)
def J6(x:S):Prop:=∀c∈cs x,c<128
theorem fj{p:S}(h:J6 x)(hp:p∈Txt.split x (ch c)):J6 p:=λd hd=>h d (by
 have:=a7I (c:=c) hp hd;rwa[mQ] at this)
theorem dv(hx:J6 x)(hy:J6 y):J6 (x++y):=λc hc=>by
 rw[bu] at hc;exact(bJ.mp hc).elim (hx c) (hy c)
theorem se(hc:c<128):∀{ps:List S},(∀p∈ps,J6 p)->J6 (cO (ch c) ps)
 |[],_=>λd hd=>by cases hd
 |[p],h=>h p cY
 |p::p'::r,h=>by
  refine dv (dv (h p cY) λd hd=>?_) (se hc λq hq=>h q (bZ _ hq));rw[vk,cJ] at hd;lia
def join_eq(sep:S)(ps:List S):vN sep ps=cO sep ps:=StrLaws.glued_eq_join sep ps
def x6(n:Int):S:=cN (toString n)
def Qx(m:Nat):cs (x6 (m:Int))=(jQ 10 m).map rP:=W.KIN.signs_num m
theorem sf(m:Nat):NumText.AllDigits (cs (x6 (m:Int))):=λc hc=>by
 rw[Qx] at hc;obtain⟨x,hx,rfl⟩:=aY.mp hc;exact digit_range (Nat.isDigit_of_mem_toDigits (by decide) (by decide) hx)
theorem b5B(m:Nat):rQ (cs (x6 (m:Int)))=m:=by rw[Qx];exact W.KIN.val_back m
def A5(x:S):Bool:=decide (1<=bx (cs x))&&decide (bx (cs x)<=10)&&(cs x).all (λc=>decide (48<=c)&&decide (c<=57))&&(decide ((cs x).head?≠av 48)||decide (cs x=[48]))
def w4(x:S):Option Int:=if A5 x=true then av ((rQ (cs x):Nat):Int) else bh
theorem b3w:∀m,1<=m->((jQ 10 m).map rP).head?≠av 48:=λm=>by
 induction m using vP with
 |_ m ih =>
  intro h;by_cases h1:m<10
  ·rw[Nat.toDigits_of_lt_base h1];have:∀d,d<10->1<=d->(vQ d).toNat≠48:=by decide
   exact λz=>this m h1 h (bD z)
  ·have hm:m%10<10:=Nat.mod_lt m (by decide);have t:jQ 10 (m/10)++jQ 10 (m%10)=jQ 10 (10*(m/10)+m%10):=Nat.toDigits_append_toDigits (by decide) (by lia) hm;rw[Nat.div_add_mod] at t;rw[<-t,bQ];have i:=ih (m/10) (by lia) (by lia);cases e:(jQ 10 (m/10)).map rP with
   |nil =>
    have:=vR (n:=m/10) (b:=10);exact absurd (rR.mp e) this
   |cons a r=>rw[e] at i;exact i
theorem BC{m:Nat}(h:m<10^10):1<=(cs (x6 (m:Int))).length/\(cs (x6 (m:Int))).length<=10:=by
 have h2:=W.KT.len_num (n:=(m:Int)) (by lia) (by lia);refine⟨?_,by rw[<-d_];exact h2⟩;rw[Qx,aH];have:=vR (n:=m) (b:=10);cases e:jQ 10 m with
 |nil=>exact absurd e this
 |cons _ _=>simp
theorem b0D{m:Nat}(h:m<10^10):A5 (x6 (m:Int))=true:=by
 obtain⟨l1,l2⟩:=BC h;unfold A5;rw[decide_eq_true l1,decide_eq_true l2];have ha:(cs (x6 (m:Int))).all (λc=>decide (48<=c)&&decide (c<=57))=true:=by
  rw[fE];intro c hc;obtain⟨a,b⟩:=sf m c hc;rw[decide_eq_true a,decide_eq_true b];rfl
 rw[ha];by_cases h0:m=0
 ·subst h0;decide
 ·rw[decide_eq_true (show(cs (x6 (m:Int))).head?≠av 48 by rw[Qx];exact b3w m (by lia))];rfl
theorem ET{m:Nat}(h:m<10^10):w4 (x6 (m:Int))=av (m:Int):=by
 unfold w4;rw[if_pos (b0D h),b5B]
end Tx
namespace de
open PySem L2 Fr
open Tx (S cs ch x6 J6)
def G4(ns:List Int):S:=cO (ch 44) (ns.map x6)
def C2(h:i8):S:=G4 h.1++(ch 62++(G4 h.2++eI))
def Ey(hs:List i8):S:=cO (ch 10) (hs.map C2)
def Sm(ns:List Int):Prop:=bx ns<=100/\∀n∈ns,0<=n/\n<10^10
theorem a4T(h0:0<=n)(h1:n<10^10):(x6 n).length<=10:=by
 obtain⟨m,rfl⟩:=jZ h0;have:=(Tx.BC (m:=m) (by lia)).2;rw[Tx.d_];exact this
theorem O7:∀{l:List S},(∀x∈l,x.length<=B)->(l.map (·.length)).sum<=l.length*B
 |[],_=>by simp
 |x::l,h=>by
  have h1:=h x cY;have h2:=O7 (l:=l) λy hy=>h y (bZ _ hy);rw[cS,dW,eM,Nat.add_mul];lia
theorem Y3(h:Sm ns):∀x∈ns.map x6,x.length<=10:=λx hx=>by
 obtain⟨n,hn,rfl⟩:=aY.mp hx;exact a4T (h.2 n hn).1 (h.2 n hn).2
theorem Mq(h:Sm ns):(G4 ns).length<=1100:=by
 have h1:=bF (sD (ch 44) (ns.map x6)) (kC (O7 (Y3 h)) _);rw[aH] at h1;have h3:(ch 44).length=1:=rfl;have:=h.1;rw[h3] at h1;show(cO (ch 44) (ns.map x6)).length<=1100;lia
theorem Mr{n:Int}(h0:0<=n)(h1:n<10^10):n.natAbs.log2<1920:=by
 have h2:n.natAbs<2^40:=by lia
 by_cases z:n.natAbs=0
 ·rw[z];decide
 ·have:=(mO z).mpr h2;lia
theorem RC{ns:List Int}{i:Nat}(h:(ns.map V.int)[i]?=av x):∃k,x=.int k/\k∈ns:=by
 rw[aP] at h;obtain⟨k,hk,rfl⟩:=fL.mp h;exact⟨k,rfl,bK hk⟩
inductive Xr(K:aF)(vs:List V)(H:Hp)(Q:VK)(dj:XK):Prop|mk:∀b a ns,vs=[.ref a]->xt b K H a (ns.map V.int)->Sm ns->(∀H',af H H'->Q (.str (G4 ns)) H')->Xr K vs H Q dj
def b6R:p7 ["numbers"] ["numbers"] (i9 Y1):={}
theorem b2x:(["number"]:List aC).Nodup:=by simp
theorem b5w(F:Aj K "numbers_text" Y1 f fd)(zs:mg "str"=bh):bf P w K mg base J8 (n+1) f fd ["numbers"] (Xr K):=by
 refine F.oa b6R λay A outer s H vs Q E hr h=>?_;obtain⟨b,a,ns,rfl,hS,hm,q⟩:=h;cases b
 ·have BG:=hS;refine⟨_,j4 (o4 (K7 eP hZ iA W4 l9 (c6 (N6 ["number"] [] rfl (IE (pv 0)) (λ_ _ _ _=>j9 (i:=0) b2x rfl (aI rfl)) (λ_ _ _ _=>v5 E5 rfl zs iB (c6 (pv 0) c7))) c7))),rfl,_,rfl,a,rfl,⟨_,BG⟩,λp hp=>(O9 (U3 BG) hp (by rw[aH];exact t9 (by have:=hm.1;lia)) (λx=>.str (x6 (vI x))) (λi x H' N hx e hN=>?_) ?_)⟩
  ·obtain⟨k,rfl,hk⟩:=RC hx;exact⟨Wk.set (by decide),_,rfl,k,rfl,Mr (hm.2 k hk).1 (hm.2 k hk).2,hN⟩
  ·refine⟨_,p,ns.map x6,rfl,rfl,ah.of (by rw[ae,bC,bC];rfl),?_,?_⟩
   ·refine bF (kC (O7 (Y3 hm)) _) ?_;have:=hm.1;rw[aH];show ns.length*10+ns.length*1<=_;lia
   ·rw[Tx.join_eq];exact q _ (af.new hp _)
 ·have BG:ah K H a (ns.map V.int):=hS;refine⟨_,j4 (o4 (K7 eP hZ iA W4 l9 (c6 (N6 ["number"] [] rfl (C6 (pv 0)) (λ_ _ _ _=>j9 (i:=0) b2x rfl (aI rfl)) (λ_ _ _ _=>v5 E5 rfl zs iB (c6 (pv 0) c7))) c7))),rfl,_,rfl,a,rfl,⟨_,BG⟩,λp hp=>(O9 (A3 BG) hp (by rw[aH];exact t9 (by have:=hm.1;lia)) (λx=>.str (x6 (vI x))) (λi x H' N hx e hN=>?_) ?_)⟩
  ·obtain⟨k,rfl,hk⟩:=RC hx;exact⟨Wk.set (by decide),_,rfl,k,rfl,Mr (hm.2 k hk).1 (hm.2 k hk).2,hN⟩
  ·refine⟨_,p,ns.map x6,rfl,rfl,ah.of (by rw[ae,bC,bC];rfl),?_,?_⟩
   ·refine bF (kC (O7 (Y3 hm)) _) ?_;have:=hm.1;rw[aH];show ns.length*10+ns.length*1<=_;lia
   ·rw[Tx.join_eq];exact q _ (af.new hp _)
inductive O3(K:aF)(vs:List V)(H:Hp)(Q:VK)(dj:XK):Prop|mk:∀v h,vs=[v]->HS K H v h->Sm h.1->Sm h.2->(∀H',af H H'->Q (.str (C2 h)) H')->O3 K vs H Q dj
def sk:p7 ["house","takes","gives"] ["house"] (i9 VS):={}
theorem b0m(F:Aj K "house_text" VS f fd)(C:C9 P w K mg base n "numbers_text" ["numbers"] (Xr K) fa da):bf P w K mg base J8 (n+1) f fd ["house"] (O3 K):=by
 refine F.oa sk λay A outer s H vs Q E hr h=>?_;obtain⟨v,h,rfl,⟨a,ta,ga,rfl,h0,h1,h2⟩,m1,m2,q⟩:=h;refine⟨_,j0 (D3 (pv 0) (K4 rfl (p6 (j9 (i:=1) sk.nd rfl (aI rfl)) (p6 (j9 (i:=2) sk.nd rfl (aI rfl)) A4))))
  (j4 (o4 (a6X (Qw (C.c hr (c6 (pv 1) c7)) (b0f (Qw (C.c hr (c6 (pv 2) c7)) a9z)))))),?_⟩
 exact⟨_,rfl,a,_,rfl,h0,rfl,_,_,rfl,_,_,rfl,rfl,_,rfl,false,ta,h.1,rfl,h1,m1,λH1 e1=>⟨_,.inr ⟨rfl,by have:=Mq m1;lia⟩,_,rfl,false,ga,h.2,rfl,e1.cm h2,m2,λH2 e2=>⟨_,.inr ⟨rfl,by have:=Mq m2;lia⟩,q H2 (e1.trans e2)⟩⟩⟩
inductive Zm(K:aF)(vs:List V)(H:Hp)(Q:VK)(dj:XK):Prop|mk:∀a xs hs,vs=[.ref a]->ah K H a xs->Bk K H xs hs->bx hs<=100->(∀h∈hs,Sm h.1/\Sm h.2)->(∀H',af H H'->Q (.str (Ey hs)) H')->Zm K vs H Q dj
def b5q:p7 ["book"] ["book"] (i9 VT):={}
theorem b5a:(["house"]:List aC).Nodup:=by simp
theorem RD(m1:Sm h.1)(m2:Sm h.2):(C2 h).length<=2300:=by
 have h1:=Mq m1;have h2:=Mq m2;unfold C2;rw[Tx.d_,Tx.bu,Tx.bu,Tx.bu,aX,aX,aX];rw[Tx.d_] at h1 h2;have h3:(cs (ch 62)).length=1:=rfl;have h4:(cs eI).length=0:=rfl;lia
theorem b2s(F:Aj K "book_text" VT f fd)(C:C9 P w K mg base n "house_text" ["house"] (O3 K) fa da):bf P w K mg base J8 (n+1) f fd ["book"] (Zm K):=by
 refine F.oa b5q λay A outer s H vs Q E hr h=>?_;obtain⟨a,xs,hs,rfl,hS,hB,hl,hm,q⟩:=h;refine⟨_,j4 (o4 (K7 eP hZ iA W4 l9 (c6 (N6 ["house"] [] rfl (C6 (pv 0)) (λ_ _ _ _=>j9 (i:=0) b5a rfl (aI rfl)) (λ_ _ _ _=>C.c hr (c6 (pv 0) c7))) c7))),?_⟩;have xl:xs.length=hs.length:=dE hB;refine⟨rfl,_,rfl,a,rfl,⟨_,hS⟩,λp hp=>(N5 (A3 hS) hp (t9 (by lia)) (λi y _=>∃h,hs[i]?=av h/\y=.str (C2 h)) (λ_ _ _ _ r _=>r) (λi y H2 zs N hy e dy hN=>?_) (λzs H2 e dy len pr=>?_))⟩
 ·obtain⟨h,hh,r⟩:=aZ.at hB hy;obtain⟨m1,m2⟩:=hm h (bK hh);exact⟨Wk.set (by decide),_,rfl,y,h,rfl,r.same e,m1,m2,λH3 e3=>hN _ _ e3 ⟨h,hh,rfl⟩⟩
 ·have ez:zs=(hs.map C2).map V.str:=by
   refine dR λi=>?_;by_cases hi:i<zs.length
   ·obtain⟨h,hh,e1⟩:=pr i _ (aS hi);rw[aS hi,e1,aP,aP,hh];rfl
   ·rw[bW (by lia),bW (by rw[aH,aH];lia)]
  rw[ez] at dy;refine⟨_,p,hs.map C2,rfl,rfl,ah.of dy,?_,?_⟩
  ·have h1:=O7 (B:=2300) (l:=hs.map C2) λx hx=>by
    obtain⟨h,hh,rfl⟩:=aY.mp hx;exact RD (hm h hh).1 (hm h hh).2
   refine bF (kC h1 _) ?_;rw[aH];show hs.length*2300+hs.length*1<=_;lia
  ·rw[Tx.join_eq];exact q _ e
end de
namespace de
open PySem L2 Fr
open Tx (S cs ch x6 J6 A5 w4)
abbrev Kw:S:=cN "0123456789"
theorem a9q:∀c,c<128->(jG Kw (ch c) 0 Kw.length 1).isEmpty=!(decide (48<=c)&&decide (c<=57)):=by decide +kernel
def HH:Option Int->V
 |none=>.non
 |some n=>.int n
def M8 x:A5 x=(decide (1<=bx (cs x))&&decide (bx (cs x)<=10)&&(cs x).all (λc=>decide (48<=c)&&decide (c<=57))&&(decide ((cs x).head?≠av 48)||decide (cs x=[48]))):=rfl
inductive Z1(vs:List V)(H:Hp)(Q:VK)(dj:XK):Prop|mk:∀z:S,vs=[.str z]->J6 z->z.length<=100000->(∀H',af H H'->Q (HH (w4 z)) H')->Z1 vs H Q dj
def b3Z:p7 ["text"] ["text"] (i9 Z4):={}
theorem b4S:(["sign"]:List aC).Nodup:=by simp
theorem b3y(F:Aj K "read_number" Z4 f fd)(T:v8 mg)(CM:∃t,mg "MOST_FIGURES"=av (.int 10 t))(CF:∃t,mg "FIGURES"=av (.str Kw t)):bf P w K mg base J8 (n+1) f fd ["text"] Z1:=by
 refine F.oa b3Z λay A outer s H vs Q E hr h=>?_;obtain⟨z,rfl,ha,hl,q⟩:=h;obtain⟨tm,hM⟩:=CM;obtain⟨tf,hF⟩:=CF;refine⟨_,j0 (w6 (PW.pt (U0 (S6 (MZ EJ EJ d0 (j7 Q8 rfl T.len bB (c6 (pv 0) c7)) (C4 (v:=.int 10) rfl hM ⟨_,rfl⟩))) (R9 (X6 (j7 (a7F rfl) rfl T.any xN (c6 (N6 ["sign"] [] rfl (b3d (pv 0)) (λ_ _ _ _=>j9 (i:=0) b4S rfl (aI rfl)) (λ_ _ _ _=>Z3 a2o (pv 0) (C4 (v:=.str Kw) rfl hF ⟨_,rfl⟩) rfl)) c7)))))) (j4 (o4 D5)) r8)
  (j0 (w6 (PW.pt (Gv (l5 E6 (l8 Nc (pv 0) d0 (λ_ _=>rfl)) l9 (r9 _)) (T4 (l5 Ei (pv 0) l9 (r9 _))))) (j4 (o4 D5)) r8)
  (j4 (o4 (v5 a2x rfl T.int lJ (c6 (pv 0) c7))))),?_⟩
 have lz:=Tx.d_ z;have je:z.length<=sizeLine:=by rw[bE];lia
 have no:A5 z=false->Q .non H:=λc=>by
  have:=q H (af.refl _);unfold w4 at this;rw[if_neg (by rw[c];exact cX)] at this;exact this
 have Kx:A5 z=false->∀H',af H H'->Q .non H':=λc H' e=>by
  have:=q H' e;unfold w4 at this;rw[if_neg (by rw[c];exact cX)] at this;exact this
 refine⟨_,rfl,z,rfl,je,_,_,rfl,rfl,_,rfl,y6 (λc1=>?_) (λc1=>?_)⟩
 rotate_left
 ·have GK:¬1<=z.length:=λh=>c1 (decide_eq_true (by lia));refine⟨_,rfl,J3 (no ?_)⟩;rw[M8,decide_eq_false (by rw[<-lz];exact GK)];rfl
 have GK:1<=z.length:=by have:=of_decide_eq_true c1;lia
 refine⟨_,_,rfl,rfl,_,rfl,?_⟩;by_cases c2:z.length<=10
 rotate_left
 ·rw[show decide ((z.length:Int)<=10)=false from decide_eq_false (by lia)];refine J3 (no ?_);rw[M8,decide_eq_false (show ¬(cs z).length<=10 by rw[<-lz];exact c2)];simp
 rw[show decide ((z.length:Int)<=10)=true from decide_eq_true (by lia)];refine M7 ⟨_,rfl,z,rfl,λp hp=>?_⟩;have sl:(R6 z).length=(cs z).length:=aH _;refine N5 a7c hp (t9 (by lia)) (λi y _=>∃c,(cs z)[i]?=av c/\y=.bl (!(decide (48<=c)&&decide (c<=57)))) (λ_ _ _ _ r _=>r) (λi y H2 zs N hy e dy hN=>?_) (λzs H2 e dy len pr=>?_)
 ·unfold R6 at hy;rw[aP] at hy;obtain⟨c,hc,rfl⟩:=fL.mp hy;refine⟨Wk.set (by decide),_,rfl,_,_,rfl,rfl,?_⟩;rw[a9q c (ha c (bK hc)),xO];exact hN _ _ (af.refl _) ⟨c,hc,rfl⟩
 have ez:zs=((cs z).map λc=>!(decide (48<=c)&&decide (c<=57))).map V.bl:=by
  refine dR λi=>?_;by_cases hi:i<zs.length
  ·obtain⟨h,hh,e1⟩:=pr i _ (aS hi);rw[aS hi,e1,aP,aP,hh];rfl
  ·rw[bW (by lia),bW (by rw[aH,aH];lia)]
 rw[ez] at dy;refine⟨p,_,rfl,.inl (ah.of dy),_,rfl,?_⟩;have ean:(((cs z).map λc=>!(decide (48<=c)&&decide (c<=57))).any id)=!((cs z).all λc=>decide (48<=c)&&decide (c<=57)):=by
  rw[lN,List.not_all_eq_any_not];rfl
 rw[ean];by_cases c3:(cs z).all (λc=>decide (48<=c)&&decide (c<=57))=true
 rotate_left
 ·have Ms:(cs z).all (λc=>decide (48<=c)&&decide (c<=57))=false:=eN.mpr c3;rw[Ms];refine J3 (Kx ?_ _ e);rw[M8,Ms];simp
 rw[c3];refine M7 ?_;obtain⟨d,r,hd⟩:∃d r,cs z=d::r:=by
  cases h:cs z with
  |nil=>rw[h] at lz;simp at lz;lia
  |cons d r=>exact⟨d,r,rfl⟩
 refine⟨_,rfl,z,0,d,rfl,rfl,je,?_,rfl,_,rfl,?_⟩
 ·show U7 (cs z) 0=av d;rw[hd];exact A2 (j:=0) rfl
 have e0:(V.str (ch d)=V.str (cN "0")) ↔ d=48:=by
  constructor
  ·intro h;have h2:=congrArg cs (V.str.inj h);have h3:cs (cN "0")=[48]:=by decide
   rw[h3] at h2;exact(kS h2).1
  ·intro h;subst h;exact congrArg V.str (Tx.ext (by decide))
 have e1:(V.str z=V.str (cN "0")) ↔ cs z=[48]:=by
  constructor
  ·intro h;rw[V.str.inj h];decide
  ·intro h;exact congrArg V.str (Tx.ext (by rw[h];decide))
 have yes:A5 z=true->Q (.int ((Am (cs z):Nat):Int)) H2:=λc=>by
  have:=q H2 e;unfold w4 at this;rw[if_pos c] at this;exact this
 have dig:xP (cs z):=λc hc=>by
  have:=fE.mp c3 c hc;rw[fQ] at this;exact⟨of_decide_eq_true this.1,of_decide_eq_true this.2⟩
 have fin:A5 z=true->∃z' n,[V.str z]=[V.str z']/\intText? z'=av n/\z'.length<=640/\Q (.int n) H2:=λc =>
  ⟨z,_,rfl,xQ dig (by show cs z≠[];rw[hd];simp) (by lia),by lia,yes c⟩
 have Fe:(decide (1<=(cs z).length)&&decide ((cs z).length<=10)&&(cs z).all (λc=>decide (48<=c)&&decide (c<=57)))=true:=by
  rw[decide_eq_true (by rw[<-lz];exact GK),decide_eq_true (by rw[<-lz];exact c2),c3];rfl
 refine y6 (λc4=>?_) (λc4=>?_)
 ·have Mt:d=48:=e0.mp (of_decide_eq_true c4);refine⟨_,rfl,rfl,_,rfl,y6 (λc5=>?_) (λc5=>?_)⟩
  ·refine Kx ?_ _ e;have:¬V.str z=V.str (cN "0"):=by simpa using c5
   rw[M8,Fe,hd,Mt,decide_eq_false (λh=>h rfl),decide_eq_false (λh=>this (e1.mpr (by rw[hd,Mt];exact h)))];rfl
  ·have:V.str z=V.str (cN "0"):=by simpa using c5
   refine⟨_,rfl,fin ?_⟩;rw[M8,Fe,decide_eq_true (e1.mp this)];simp
 ·refine⟨_,rfl,fin ?_⟩;rw[M8,Fe,decide_eq_true (show(cs z).head?≠av 48 by rw[hd];exact λh=>(λh=>c4 (decide_eq_true (e0.mpr h))) (bD h))];rfl
end de
namespace L2
open PySem PySem.Spec PyProof.Rows
inductive c0V(K:aF)(x y:V)(H:Hp)(Q:VK):Prop|mk:∀p xs ds d,y=.ref p->ah K H p xs->qc K H xs ds->Dp K H x d->cP ds=true->d.canLay0=true->d.depth<=50->Q (.bl (ds.any λe=>cK e d)) H->c0V K x y H Q
theorem XI(hr:b_ k X.A):gw X (compareOp .In) (c0V X.K):=by
 intro bz s σ H x y v u Q I rx ry h;obtain⟨p,xs,ds,d,rfl,hq,hD,hd,c1,c2,dp,q⟩:=h;cases ry;obtain⟨cx,r,pl,hz⟩:=I.list hq;obtain⟨as,rs⟩:=hD.reads I r;obtain⟨bs,rx'⟩:=hd.reads I rx;refine uF (λw=>cK (xW s.heap w) d) pl.isList (SeqAt.items_eqAt (by simpa using rs) rx' c1 c2 (by have:=hr.units;lia)) ⟨.bl _,H,I,rfl,?_⟩;have e1:cx.toArray.any (λv=>cK (xW s.heap v) d)=ds.any λe=>cK e d:=by
  rw[<-SeqAt.readsAll_map ds cx as c1 rs,lN,List.any_toArray];rfl
 rw[e1];exact q
end L2
namespace de
open PySem L2 Fr
open Tx (S cs ch x6 J6 A5 w4)
def xa{α:Type}:List (Option α)->Option (List α)
 |[]=>av []
 |none::_=>bh
 |some a::r=>(xa r).map (a::·)
theorem K9:∀{l}{r:List α},xa l=av r->l=r.map av
 |[],r,h=>by cases h;rfl
 |none::_,_,h=>by cases h
 |some a::l,r,h=>by
  unfold xa at h;obtain⟨r',hr,rfl⟩:=fL.mp h;rw[K9 hr];rfl
theorem RQ:∀(r:List α),xa (r.map av)=av r
 |[]=>rfl
 |a::r=>by show(xa (r.map av)).map (a::·)=_;rw[RQ r];rfl
theorem a5d:∀{l:List (Option α)},xa l=bh->bh∈l
 |[],h=>by cases h
 |none::_,_=>cY
 |some a::l,h=>by
  unfold xa at h;exact bZ _ (a5d (Option.map_eq_none_iff.mp h))
def A6(z:S):Option (List Int):=xa ((aU z (ch 44)).map w4)
def Q0{z p:S}(h:p∈Txt.split z (ch c)):p.length<=z.length:=Ao h
theorem J5{z:S}:(aU z (ch c)).length<=z.length+1:=by
 have:=xX z (ch c) (aT 1);lia
theorem RS:∀l:List (Option Int),Hi .non (l.map HH)=l.any (·.isNone)
 |[]=>rfl
 |o::l=>by
  have ih:=RS l;unfold Hi at ih⊢;rw[cS,jM,jM,ih];cases o<;>rfl
theorem a7N(l:List (Option Int)):(l.map HH).all Hh=true:=by
 rw[fE];intro y hy;obtain⟨o,_,rfl⟩:=aY.mp hy;cases o<;>rfl
theorem any_none:(l.any (·.isNone)=true) ↔ xa l=bh:=by
 rw[mK];constructor
 ·rintro⟨o,ho,hn⟩;cases o with
  |some _=>cases hn
  |none =>
   cases e:xa l with
   |none=>rfl
   |some r =>
    rw[K9 e] at ho;obtain⟨_,_,h⟩:=aY.mp ho;cases h
 ·intro h;exact⟨bh,a5d h,rfl⟩
inductive Zn(K:aF)(vs:List V)(H:Hp)(Q:VK)(dj:XK):Prop|mk:∀z:S,vs=[.str z]->J6 z->z.length<=100000->(A6 z=bh->∀H',af H H'->Q .non H')->(∀ns,A6 z=av ns->∀t H',af H H'->H' t=av (.tup (ns.map V.int))->Q (.ref t) H')->Zn K vs H Q dj
def BR:p7 ["text","amounts"] ["text"] (i9 Y7):={}
theorem b4f:(["word"]:List aC).Nodup:=by simp
theorem b2w(F:Aj K "read_amounts" Y7 f fd)(T:v8 mg)(C:C9 P w K mg base n "read_number" ["text"] Z1 fa da):bf P w K mg base J8 (n+1) f fd ["text"] (Zn K):=by
 refine F.oa BR λay A outer s H vs Q E hr h=>?_;obtain⟨z,rfl,ha,hl,q0,q1⟩:=h;refine⟨_,j0 (CA (i:=1) ["word"] [] BR.nd rfl rfl rfl (C6 (K7 eP iW iX U4 (pv 0) (c6 l9 c7))) (λ_ _ _ _=>j9 (i:=0) b4f rfl (aI rfl)) λ_ _ _ _=>C.c hr (c6 (pv 0) c7))
  (j4 (o4 (MT (l5 Qj D5 (pv 1) rfl) D5 (v5 E7 rfl T.tuple hU (c6 (pv 1) c7))))),?_⟩
 have eQ:=J5 (z:=z) (c:=44);refine⟨_,rfl,rfl,z,ch 44,rfl,rfl,by decide,by rw[bE];lia,λl jl=>⟨l,rfl,⟨_,ah.of ae⟩,λp hp=>(N5 (A3 (ah.of ae)) hp (by rw[aH,bE];lia) (λi y _=>∃x,(aU z (ch 44))[i]?=av x/\y=HH (w4 x)) (λ_ _ _ _ r _=>r) (λi y H2 zs N hy e dy hN=>?_) λzs H2 e dy len pr=>?_)⟩⟩
 ·rw[aP] at hy;obtain⟨x,hx,rfl⟩:=fL.mp hy;have Eo:=bK hx;exact⟨Wk.set (by decide),_,rfl,x,rfl,Tx.fj ha Eo,bF (Q0 Eo) hl,λH3 e3=>hN _ _ e3 ⟨x,hx,rfl⟩⟩
 have ez:zs=((aU z (ch 44)).map w4).map HH:=by
  rw[aH] at len;refine dR λi=>?_;by_cases hi:i<zs.length
  ·obtain⟨h,hh,e1⟩:=pr i _ (aS hi);rw[aS hi,e1,aP,aP,hh];rfl
  ·rw[bW (by lia),bW (by simp_all)]
 rw[ez] at dy;have e2:=(af.new jl (.lst ((aU z (ch 44)).map V.str))).trans e;refine⟨_,rfl,p,_,rfl,.inl (ah.of dy),rfl,a7N _,_,rfl,y6 (λc=>?_) (λc=>?_)⟩
 ·have c':((aU z (ch 44)).map w4).any (·.isNone)=true:=by rw[<-RS];exact c
  exact q0 (any_none.mp c') _ e2
 ·have c':¬((aU z (ch 44)).map w4).any (·.isNone)=true:=by rw[<-RS];exact c
  cases jx:A6 z with
  |none=>exact absurd (any_none.mpr jx) c'
  |some ns =>
   have ev:((aU z (ch 44)).map w4).map HH=ns.map V.int:=by rw[K9 jx,bC];rfl
   rw[ev] at dy;exact⟨_,rfl,p,_,rfl,.inl ⟨ah.of dy,λt ht=>(q1 ns jx t _ (e2.trans (af.new ht _)) ae)⟩⟩
def jg(h:i8):Prop:=(1<=bx h.1/\bx h.1<=4)/\(1<=bx h.2/\bx h.2<=4)/\ef h (bx h.1) (bx h.2)
inductive XJ(K:aF)(vs:List V)(H:Hp)(Q:VK)(dj:XK):Prop|mk:∀v h,vs=[v]->HS K H v h->bx h.1<=200000->bx h.2<=200000->(∀b H',af H H'->(b=true ↔ jg h)->Q (.bl b) H')->XJ K vs H Q dj
def AH:p7 ["thing","takes","gives"] ["thing"] (i9 W9):={}
theorem b5i(F:Aj K "is_any_house" W9 f fd)(T:v8 mg)(CM:∃t,mg "MOST_KINDS"=av (.int 4 t))(C:CZ P w K mg base n "is_house" ["thing","many_takes","many_gives"] (RO K) fa da):bf P w K mg base J8 (n+1) f fd ["thing"] (XJ K):=by
 refine F.oa AH λay A outer s H vs Q E hr h=>?_;obtain⟨v,h,rfl,⟨a,ta,ga,rfl,h0,h1,h2⟩,l1,l2,q⟩:=h;obtain⟨tm,hM⟩:=CM;refine⟨_,j0 (D3 (pv 0) (K4 rfl (p6 (j9 (i:=1) AH.nd rfl (aI rfl)) (p6 (j9 (i:=2) AH.nd rfl (aI rfl)) A4))))
  (j0 (w6 (S6 (PW.pt (Gv (MZ EJ EJ d0 (j7 j6 rfl T.len bB (c6 (pv 1) c7)) (C4 (v:=.int 4) rfl hM ⟨_,rfl⟩)) (T4 (MZ EJ EJ d0 (j7 j6 rfl T.len bB (c6 (pv 2) c7)) (C4 (v:=.int 4) rfl hM ⟨_,rfl⟩)))))) (j4 (o4 JC)) r8)
  (j4 (o4 (C.c hr (c6 (pv 0) (c6 (j7 j6 rfl T.len bB (c6 (pv 1) c7)) (c6 (j7 j6 rfl T.len bB (c6 (pv 2) c7)) c7))))))),?_⟩
 refine⟨_,rfl,a,_,rfl,h0,rfl,_,_,rfl,_,_,rfl,rfl,?_⟩;have ln:∀l:List Int,(bx (l.map V.int):Int)=(bx l:Int):=λl=>by rw[aH]
 have no:¬jg h->Q (.bl false) H:=λc=>q false H (af.refl _) ⟨(λz=>nomatch z),λz=>absurd z c⟩;refine⟨_,rfl,ta,_,rfl,.inr h1,_,_,rfl,rfl,_,rfl,?_⟩;by_cases c1:1<=bx h.1
 rotate_left
 ·rw[decide_eq_false (by rw[ln];lia)];refine M7 ⟨_,rfl,M7 (J3 (no λz=>c1 z.1.1))⟩
 rw[decide_eq_true (show(1:Int)<=(bx (h.1.map V.int):Int) by rw[ln];lia)];refine J3 ⟨_,_,rfl,rfl,_,rfl,?_⟩;by_cases c2:bx h.1<=4
 rotate_left
 ·rw[decide_eq_false (by rw[ln];lia)];exact M7 (J3 (no λz=>c2 z.1.2))
 rw[decide_eq_true (show(bx (h.1.map V.int):Int)<=4 by rw[ln];lia)];refine J3 ⟨_,rfl,ga,_,rfl,.inr h2,_,_,rfl,rfl,_,rfl,?_⟩;by_cases c3:1<=bx h.2
 rotate_left
 ·rw[decide_eq_false (by rw[ln];lia)];refine M7 ⟨_,rfl,J3 (no λz=>c3 z.2.1.1)⟩
 rw[decide_eq_true (show(1:Int)<=(bx (h.2.map V.int):Int) by rw[ln];lia)];refine J3 ⟨_,_,rfl,rfl,_,rfl,?_⟩;by_cases c4:bx h.2<=4
 rotate_left
 ·rw[decide_eq_false (by rw[ln];lia)];exact J3 (no λz=>c4 z.2.1.2)
 rw[decide_eq_true (show(bx (h.2.map V.int):Int)<=4 by rw[ln];lia)];refine M7 ⟨_,rfl,_,rfl,ta,_,rfl,.inr h1,_,rfl,ga,_,rfl,.inr h2,.ref a,h,_,_,rfl,⟨a,ta,ga,rfl,h0,h1,h2⟩,⟨by lia,by lia⟩,λb H' e i=>(q b H' e (i.trans ?_))⟩;rw[ln,ln];exact⟨λg=>⟨⟨c1,c2⟩,⟨c3,c4⟩,g⟩,λg=>g.2.2⟩
end de
namespace de
open PySem L2 Fr
open Tx (S cs ch x6 J6 A5 w4)
open Classical in
def D6(z:S):Option i8:=match (aU z (ch 62)).map A6 with
 |[av a,av b]=>if jg (a,b) then av (a,b) else bh
 |_=>bh
def AV(H:Hp)(v:V):Option (List Int)->Prop
 |none=>v=.non
 |some ns=>∃t,v=.ref t/\H t=av (.tup (ns.map V.int))
def dA:Option (List Int)->dI
 |none=>.none
 |some ns=>.tuple (ns.map gM)
theorem a4Q:∀ns:List Int,qc K H (ns.map V.int) (ns.map gM)
 |[]=>.nil
 |n::ns=>.cons (.int n) (a4Q ns)
theorem AV.dp(h:AV H v o):Dp K H v (dA o):=by
 cases o with
 |none=>cases (show v=.non from h);exact .non
 |some ns=>obtain⟨t,rfl,h2⟩:=h;exact .tup (cq.of h2) (a4Q ns)
theorem a5c:∀ns:List Int,cP (ns.map gM)=true
 |[]=>by rw[jY,cP]
 |n::ns=>by rw[cS,cP,a5c ns];rfl
theorem b9A o:(dA o).canLay0=true:=by
 cases o with
 |none=>rfl
 |some ns=>unfold dA;rw[fU];exact a5c ns
theorem b9m o:cK (dA o) .none=o.isNone:=by
 cases o with
 |none=>simp[dA,cK]
 |some ns=>simp[dA,cK]
theorem b2L:∀os:List (Option (List Int)),cP (os.map dA)=true
 |[]=>by rw[jY,cP]
 |o::os=>by rw[cS,cP,b2L os,b9A];rfl
theorem b9F{os}(h:bR (AV H) vs os):qc K H vs (os.map dA):=by
 induction h with
 |nil=>exact .nil
 |cons r _ ih=>exact .cons r.dp ih
theorem RT{α β γ:Type}{R:β->γ->Prop}{f:α->γ}:∀{ys}{xs:List α},bx ys=bx xs->(∀(i:Nat)y,ys[i]?=av y->∃x,xs[i]?=av x/\R y (f x))->bR R ys (xs.map f)
 |[],[],_,_=>.nil
 |y::ys,x::xs,hl,h=>by
  obtain⟨x',hx,r⟩:=h 0 y rfl;cases hx;exact .cons r (RT (by simp_all) λi y' h'=>h (i+1) y' (by simp_all))
 |[],_::_,hl,_=>by simp at hl
 |_::_,[],hl,_=>by simp at hl
theorem a4Z(h:A6 z=av ns):ns.length<=z.length+1:=by
 have:=congrArg iT (K9 h);rw[aH,aH] at this;have:=J5 (z:=z) (c:=44);lia
inductive My(K:aF)(vs:List V)(H:Hp)(Q:VK)(dj:XK):Prop|mk:∀z:S,vs=[.str z]->J6 z->z.length<=100000->(D6 z=bh->∀H',af H H'->Q .non H')->(∀h,D6 z=av h->∀t ta ga H',af H H'->H' t=av (.tup [.ref ta,.ref ga])->H' ta=av (.tup (h.1.map V.int))->H' ga=av (.tup (h.2.map V.int))->Q (.ref t) H')->My K vs H Q dj
def xb:p7 ["text","sides","house"] ["text"] (i9 VU):={}
theorem b5u:(["side"]:List aC).Nodup:=by simp
theorem b2v(F:Aj K "read_house" VU f fd)(T:v8 mg)(C:C9 P w K mg base n "read_amounts" ["text"] (Zn K) fa da)(D:C9 P w K mg base n "is_any_house" ["thing"] (XJ K) fb db):bf P w K mg base J8 (n+1) f fd ["text"] (My K):=by
 refine F.oa xb λay A outer s H vs Q E hr h=>?_;obtain⟨z,rfl,ha,hl,q0,q1⟩:=h;refine⟨_,j0 (CA (i:=1) ["side"] [] xb.nd rfl rfl rfl (C6 (K7 eP iW iX U4 (pv 0) (c6 l9 c7))) (λ_ _ _ _=>j9 (i:=0) b5u rfl (aI rfl)) (λ_ _ _ _=>C.c hr (c6 (pv 0) c7)))
  (j0 (w6 (PW.pt (U0 (l5 Ei (j7 j6 rfl T.len bB (c6 (pv 1) c7)) d0 (r9 _)) (R9 (l5 (XI hr) D5 (pv 1) rfl)))) (j4 (o4 D5)) r8)
  (j0 (r6 (i:=2) xb.nd rfl (aI rfl) (v5 E7 rfl T.tuple hU (c6 (pv 1) c7)))
  (j4 (o4 (MT (X6 (D.c hr (c6 (pv 2) c7))) (pv 2) D5))))),?_⟩
 have eQ:=J5 (z:=z) (c:=62);refine⟨_,rfl,rfl,z,ch 62,rfl,rfl,by decide,by rw[bE];lia,λl jl=>⟨l,rfl,⟨_,ah.of ae⟩,λp hp=>(N5 (A3 (ah.of ae)) hp (by rw[aH,bE];lia) (λi y H'=>∃x,(aU z (ch 62))[i]?=av x/\∀xc:Hp,(∀b o,b≠p->H' b=av o->xc b=av o)->AV xc y (A6 x)) (λi y Ha Hb ⟨h,h1,h2⟩ st=>⟨h,h1,λxc Gz=>h2 xc λb o hb hh=>Gz b o hb (st b o hb hh)⟩) (λi y H2 zs N hy e dy hN=>?_) (λzs H2 e dy len pr=>?_))⟩⟩
 ·rw[aP] at hy;obtain⟨x,hx,rfl⟩:=fL.mp hy;have Eo:=bK hx;refine⟨Wk.set (by decide),_,rfl,x,rfl,Tx.fj ha Eo,bF (Q0 Eo) hl,λc H3 e3=>hN _ _ e3 ⟨x,hx,λxc _=>by rw[c];rfl⟩,λns c t H3 e3 ht=>hN _ _ e3 ⟨x,hx,λxc st=>by rw[c];exact⟨t,rfl,st _ _ (J7 ht (e3 _ _ dy) nofun) ht⟩⟩⟩
 have e2:=(af.new jl (.lst ((aU z (ch 62)).map V.str))).trans e;rw[aH] at len;have PA:bR (AV H2) zs ((aU z (ch 62)).map A6):=RT len λi y hy=>by
  obtain⟨x,hx,r⟩:=pr i y hy;exact⟨x,hx,r _ λb o _ h=>h⟩
 have no:D6 z=bh->Q .non H2:=λc=>q0 c _ e2;refine⟨_,rfl,p,_,rfl,.inl (ah.of dy),rfl,_,rfl,?_⟩;have yp:((aU z (ch 62)).map A6).length≠2\/bh∈(aU z (ch 62)).map A6->D6 z=bh:=λc=>by
  unfold D6;generalize (aU z (ch 62)).map A6=os at c;rcases os with _|⟨o,_|⟨o',_|⟨o'',r⟩⟩⟩
  ·rfl
  ·cases o<;>rfl
  ·cases o<;>cases o'<;>first|rfl|(simp at c)
  ·cases o<;>cases o'<;>rfl
 have pl:((aU z (ch 62)).map A6).length=zs.length:=by rw[aH];exact len.symm
 refine y6 (λc=>?_) (λc=>?_)
 ·have:¬((zs.length:Int)=2):=λh=>by simp[h] at c
  refine J3 (no (yp (.inl ?_)));rw[pl];lia
 ·have c2:zs.length=2:=by
   have:(zs.length:Int)=2:=by simpa using c
   lia
  refine⟨_,rfl,p,zs,_,.none,rfl,ah.of dy,b9F PA,.non,b2L _,rfl,by decide,_,rfl,?_⟩;have ea:((((aU z (ch 62)).map A6).map dA).any λe=>cK e .none)=((aU z (ch 62)).map A6).any (·.isNone):=by
   rw[lN];congr 1;funext o;exact b9m o
  rw[ea];refine y6 (λc3=>?_) (λc3=>?_)
  ·obtain⟨o,ho,hn⟩:=mK.mp c3;have:o=bh:=by cases o with|none=>rfl|some _=>cases hn
   subst this;exact no (yp (.inr ho))
  ·obtain⟨a,b,yh⟩:∃a b,(aU z (ch 62)).map A6=[av a,av b]:=by
    rw[<-pl] at c2;generalize (aU z (ch 62)).map A6=os at c2 c3;rcases os with _|⟨o,_|⟨o',_|⟨o'',r⟩⟩⟩
    ·simp at c2
    ·simp at c2
    ·cases o with
     |none=>simp at c3
     |some a=>cases o' with
      |none=>simp at c3
      |some b=>exact⟨a,b,rfl⟩
    ·simp at c2
   have eH:∀{x:Option i8},(open Classical in if jg (a,b) then av (a,b) else bh)=x->D6 z=x:=λh=>by
    unfold D6;rw[yh];exact h
   rw[yh] at PA;obtain⟨x1,x2,CC,El⟩:∃x1 x2,(aU z (ch 62))[0]?=av x1/\(aU z (ch 62))[1]?=av x2:=⟨_,_,aS (by lia),aS (by lia)⟩;have r1:A6 x1=av a:=by
    have:=congrArg (λl=>l[0]?) yh;simp only[aP,CC] at this;exact bD this
   have r2:A6 x2=av b:=by
    have:=congrArg (λl=>l[1]?) yh;simp only[aP,El] at this;exact bD this
   have n1:=a4Z r1;have n2:=a4Z r2;have m1:=Q0 (bK CC);have m2:=Q0 (bK El);cases PA with
   |cons v1 PA=>cases PA with
    |cons v2 PA =>
     cases PA;obtain⟨ta,rfl,GO⟩:=v1;obtain⟨ga,rfl,Av⟩:=v2;refine⟨_,rfl,p,_,rfl,.inl ⟨ah.of dy,λt ht=>?_⟩⟩;have t1:=af.new ht (.tup [V.ref ta,V.ref ga]);refine⟨_,rfl,.ref t,(a,b),rfl,⟨t,ta,ga,rfl,cq.of ae,cq.of (t1 _ _ GO),cq.of (t1 _ _ Av)⟩,by show a.length<=_;lia,by show b.length<=_;lia,λb' H3 e3 i=>⟨_,rfl,?_⟩⟩;have i5:=e2.trans (t1.trans e3);refine y6 (λc4=>?_) (λc4=>q0 (eH (if_neg λg=>c4 (i.mpr g))) _ i5)
     ·refine⟨_,rfl,q1 (a,b) (eH (if_pos (i.mp c4))) t ta ga H3 i5 (e3 _ _ ae) (e3 _ _ (t1 _ _ GO)) (e3 _ _ (t1 _ _ Av))⟩
end de
namespace de
open PySem L2 Fr
open Tx (S cs ch x6 J6 A5 w4)
def gz(hs:List i8):Prop:=(1<=bx hs/\bx hs<=16)/\∃h0,hs[0]?=av h0/\jg h0/\∀h∈hs,ef h (bx h0.1) (bx h0.2)
open Classical in
def HJ(z:S):Option (List i8):=match xa ((aU z (ch 10)).map D6) with
 |some hs=>if gz hs then av hs else bh
 |none=>bh
theorem XM(e:D6 z=av h):jg h:=by
 unfold D6 at e;split at e
 ·split at e
  ·cases e;assumption
  ·cases e
 ·cases e
inductive Zo(K:aF)(vs:List V)(H:Hp)(Q:VK)(dj:XK):Prop|mk:∀a xs hs,vs=[.ref a]->ah K H a xs->Bk K H xs hs->bx hs<=200000->(∀h∈hs,OV h)->(∀b H',af H H'->(b=true ↔ gz hs)->Q (.bl b) H')->Zo K vs H Q dj
def Fh:p7 ["thing","takes","gives"] ["thing"] (i9 VR):={}
theorem b9f:(["house","takes","gives"]:List aC).Nodup:=by decide
theorem b7S(F:Aj K "is_book" VR f fd)(T:v8 mg)(CM:∃t,mg "MOST_HOUSES"=av (.int 16 t))(D:C9 P w K mg base n "is_any_house" ["thing"] (XJ K) fb db)(C:CZ P w K mg base n "is_house" ["thing","many_takes","many_gives"] (RO K) fa da):bf P w K mg base J8 (n+1) f fd ["thing"] (Zo K):=by
 refine F.oa Fh λay A outer s H vs Q E hr h=>?_;obtain⟨a,xs,hs,rfl,hS,hB,hl,hm,q⟩:=h;obtain⟨tm,hM⟩:=CM;refine⟨_,j0 (w6 (PW.pt (U0 (S6 (MZ EJ EJ d0 (j7 j6 rfl T.len bB (c6 (pv 0) c7)) (C4 (v:=.int 16) rfl hM ⟨_,rfl⟩))) (R9 (S6 (X6 (D.c hr (c6 (l8 j5 (pv 0) d0 (λ_ _=>rfl)) c7))))))) (j4 (o4 JC)) r8)
  (j0 (D3 (l8 j5 (pv 0) d0 (λ_ _=>rfl)) (K4 rfl (p6 (j9 (i:=1) Fh.nd rfl (fY rfl)) (p6 (j9 (i:=2) Fh.nd rfl (fY rfl)) A4))))
  (j4 (o4 (j7 (a7g rfl) rfl T.all xV (c6 (N6 ["house"] [1,2] rfl (C6 (pv 0)) (λ_ _ _ _=>j9 (i:=0) b9f rfl (aI rfl)) (λ_ _ _ _=>C.c hr (c6 (pv 0) (c6 (j7 (b2T K rfl) rfl T.len bB (c6 (pv 1) c7)) (c6 (j7 (b2T K rfl) rfl T.len bB (c6 (pv 2) c7)) c7))))) c7))))),?_⟩
 have xl:bx xs=bx hs:=dE hB;have no:¬gz hs->Q (.bl false) H:=λc=>q false H (af.refl _) ⟨(λz=>nomatch z),λz=>absurd z c⟩;refine⟨_,rfl,a,_,rfl,.inl hS,_,_,rfl,rfl,_,rfl,?_⟩;by_cases c1:1<=bx hs
 rotate_left
 ·rw[decide_eq_false (by lia)];exact M7 ⟨_,rfl,J3 (no λz=>c1 z.1.1)⟩
 rw[decide_eq_true (show(1:Int)<=(bx xs:Int) by lia)];refine J3 ⟨_,_,rfl,rfl,_,rfl,?_⟩;by_cases c2:bx hs<=16
 rotate_left
 ·rw[decide_eq_false (by lia)];exact J3 (no λz=>c2 z.1.2)
 rw[decide_eq_true (show(bx xs:Int)<=16 by lia)];refine M7 ?_;obtain⟨h0,Ky⟩:∃h,hs[0]?=av h:=⟨_,aS (by lia)⟩;obtain⟨x0,Hl⟩:∃x,xs[0]?=av x:=⟨_,aS (by lia)⟩;obtain⟨GC,yq,r0⟩:=aZ.at hB Hl;rw[Ky] at yq;cases yq;have m0:=hm h0 (bK Ky);refine⟨_,rfl,a,_,_,_,rfl,rfl,hS,A2 Hl,x0,h0,rfl,r0,by have:=m0.1;lia,by have:=m0.2;lia,λb H1 e1 i1=>⟨_,rfl,y6 (λc3=>?_) (λc3=>?_)⟩⟩
 ·have Ms:¬b=true:=by simpa using c3
  exact q false H1 e1 ⟨(λz=>nomatch z),λz=>by
   obtain⟨_,GC,yq,g,_⟩:=z;rw[Ky] at yq;cases yq;exact absurd (i1.mpr g) Ms⟩
 have Ms:jg h0:=i1.mp (by simpa using c3);obtain⟨b0,tb,gb,rfl,p1,p2,p3⟩:=r0.same e1;refine⟨_,rfl,a,_,_,_,rfl,rfl,e1.seq hS,A2 Hl,b0,_,rfl,p1,rfl,_,_,rfl,_,_,rfl,rfl,_,rfl,a,rfl,⟨_,e1.seq hS⟩,λp hp=>(N5 (A3 (e1.seq hS)) hp (t9 (by lia)) (λi y _=>∃h b,hs[i]?=av h/\y=.bl b/\(b=true ↔ ef h (bx h0.1) (bx h0.2))) (λ_ _ _ _ r _=>r) (λi y H2 zs N hy e dy hN=>?_) (λzs H2 e dy len pr=>?_))⟩
 ·obtain⟨h,hh,r⟩:=aZ.at hB hy;have ln:∀l:List Int,(bx (l.map V.int):Int)=(bx l:Int):=λl=>by rw[aH]
  refine⟨Wk.set (by decide),_,rfl,_,rfl,tb,_,rfl,.inr (e.cm p2),_,rfl,gb,_,rfl,.inr (e.cm p3),y,h,_,_,rfl,(r.same e1).same e,hm h (bK hh),λb' H3 e3 i3=>hN _ _ e3 ⟨h,b',hh,rfl,?_⟩⟩;rw[ln,ln] at i3;exact i3
 obtain⟨bs,hbs,hb⟩:∃bs:List Bool,zs=bs.map V.bl/\∀i b,bs[i]?=av b->∃h,hs[i]?=av h/\(b=true ↔ ef h (bx h0.1) (bx h0.2)):=by
  refine⟨zs.map (λv=>match v with|.bl b=>b|_=>false),?_,λi b hi=>?_⟩
  ·rw[bC];refine dR λi=>?_;rw[aP];cases hz:zs[i]? with
   |none=>rfl
   |some v =>
    obtain⟨h,b,_,rfl,_⟩:=pr i v hz;rfl
  ·rw[aP] at hi;cases hz:zs[i]? with
   |none=>rw[hz] at hi;cases hi
   |some v =>
    obtain⟨h,b',hh,rfl,ii⟩:=pr i v hz;rw[hz] at hi;cases hi;exact⟨h,hh,ii⟩
 rw[hbs] at dy;refine⟨p,bs,rfl,.inl (ah.of dy),q _ _ (e1.trans e) ?_⟩;have bl:bx bs=bx hs:=by
  rw[hbs,aH] at len;lia
 rw[fE];constructor
 ·intro z;refine⟨⟨c1,c2⟩,h0,Ky,Ms,λh hh=>?_⟩;obtain⟨i,hi⟩:=iL hh;have nj:=(cA.mp hi).1;obtain⟨h',Kp,ii⟩:=hb i _ (aS (by lia));rw[hi] at Kp;cases Kp;exact ii.mp (z _ (eF _))
 ·rintro⟨_,GC,yq,_,g⟩ b ou;rw[Ky] at yq;cases yq;obtain⟨i,hi⟩:=iL ou;obtain⟨h,hh,ii⟩:=hb i b hi;exact ii.mpr (g h (bK hh))
def RU(K:aF)(H:Hp)(v:V):Option i8->Prop
 |none=>v=.non
 |some h=>HS K H v h
def Mz:Option i8->dI
 |none=>.none
 |some h=>Y5 h
inductive Zp(K:aF)(CT:aA)(vs:List V)(H:Hp)(Q:VK)(E:XK):Prop|mk:∀z:S,vs=[.str z]->J6 z->z.length<=100000->(HJ z=bh->∀H',af H H'->E (.ref CT) bh H')->(∀hs,HJ z=av hs->∀l xs H',af H H'->H l=bh->H' l=av (.lst xs)->Bk K H' xs hs->Q (.ref l) H')->Zp K CT vs H Q E
def BU:p7 ["text","book"] ["text"] (i9 VV):={}
theorem b5A:(["row"]:List aC).Nodup:=by simp
theorem b6y o:cK (Mz o) .none=o.isNone:=by
 cases o with
 |none=>simp[Mz,cK]
 |some h=>simp[Mz,Y5,cK]
theorem b2y(F:Aj K "read_book" VV f fd)(T:v8 mg)(kT:X4 K CT)(mT:mg "NoText"=av (.ref CT))(C:C9 P w K mg base n "read_house" ["text"] (My K) fa da)(D:C9 P w K mg base n "is_book" ["thing"] (Zo K) fb db):bf P w K mg base (W2 P w) (n+1) f fd ["text"] (Zp K CT):=by
 refine F.ob BU λay A outer s H vs Q E hr h=>?_;obtain⟨z,rfl,ha,hl,q0,q1⟩:=h;refine⟨_,j0 (CA (i:=1) ["row"] [] BU.nd rfl rfl rfl (C6 (K7 eP iW iX U4 (pv 0) (c6 l9 c7))) (λ_ _ _ _=>j9 (i:=0) b5A rfl (aI rfl)) (λ_ _ _ _=>C.c hr (c6 (pv 0) c7)))
  (j0 (w6 (PW.pt (U0 (l5 (XI hr) D5 (pv 1) rfl) (R9 (S6 (X6 (D.c hr (c6 (pv 1) c7))))))) (j4 (T7 kT rfl mT hr.hd (c6 l9 c7))) r8)
  (j4 (o4 (pv 1)))),?_⟩
 have eQ:=J5 (z:=z) (c:=10);refine⟨_,rfl,rfl,z,ch 10,rfl,rfl,by decide,by rw[bE];lia,λl jl=>?_⟩;have s1:=af.new jl (.lst ((aU z (ch 10)).map V.str));refine⟨l,rfl,⟨_,ah.of ae⟩,λp hp=>(N5 (A3 (ah.of ae)) hp (by rw[aH,bE];lia) (λi y H'=>∃x,(aU z (ch 10))[i]?=av x/\∀xc:Hp,(∀b o,b≠p->H' b=av o->xc b=av o)->RU K xc y (D6 x)) (λi y Ha Hb ⟨h,h1,h2⟩ st=>⟨h,h1,λxc Gz=>h2 xc λb o hb hh=>Gz b o hb (st b o hb hh)⟩) (λi y H2 zs N hy e dy hN=>?_) (λzs H2 e dy len pr=>?_))⟩
 ·rw[aP] at hy;obtain⟨x,hx,rfl⟩:=fL.mp hy;have Eo:=bK hx;refine⟨Wk.set (by decide),_,rfl,x,rfl,Tx.fj ha Eo,bF (Q0 Eo) hl,λc H3 e3=>hN _ _ e3 ⟨x,hx,λxc _=>by rw[c];rfl⟩,λh c t ta ga H3 e3 ht GO Av=>hN _ _ e3 ⟨x,hx,λxc st=>?_⟩⟩;rw[c];have Di:=e3 _ _ dy;exact⟨t,ta,ga,rfl,cq.of (st _ _ (J7 ht Di nofun) ht),cq.of (st _ _ (J7 GO Di nofun) GO),cq.of (st _ _ (J7 Av Di nofun) Av)⟩
 have e2:=s1.trans e;rw[aH] at len;have PA:bR (RU K H2) zs ((aU z (ch 10)).map D6):=RT len λi y hy=>by
  obtain⟨x,hx,r⟩:=pr i y hy;exact⟨x,hx,r _ λb o _ h=>h⟩
 have dpH:∀{vs:List V}{os:List (Option i8)},bR (RU K H2) vs os->qc K H2 vs (os.map Mz):=λh=>by
  induction h with
  |nil=>exact .nil
  |@cons v o vs os r _ ih =>
   refine .cons ?_ ih;cases o with
   |none=>cases (show v=.non from r);exact .non
   |some h=>exact HS.dp r
 have ly:∀os:List (Option i8),cP (os.map Mz)=true:=λos=>by
  induction os with
  |nil=>rw[jY,cP]
  |cons o os ih =>
   rw[cS,cP,ih];cases o with
   |none=>rfl
   |some h=>show((Y5 h).canLay0&&true)=true;rw[WS];rfl
 refine⟨_,rfl,p,zs,_,.none,rfl,ah.of dy,dpH PA,.non,ly _,rfl,by decide,_,rfl,?_⟩;have ea:((((aU z (ch 10)).map D6).map Mz).any λe=>cK e .none)=((aU z (ch 10)).map D6).any (·.isNone):=by
  rw[lN];congr 1;funext o;exact b6y o
 rw[ea];refine y6 (λc=>?_) (λc=>?_)
 ·refine J3 ⟨(by show 1<=1000;decide),q0 ?_ _ e2⟩;unfold HJ;rw[any_none.mp c]
 ·cases jx:xa ((aU z (ch 10)).map D6) with
  |none=>exact absurd (any_none.mpr jx) c
  |some hs =>
   have en:=K9 jx;rw[en] at PA;have hB:Bk K H2 zs hs:=by
    have gen:∀{vs:List V}{hs:List i8},bR (RU K H2) vs (hs.map av)->Bk K H2 vs hs:=λ{vs hs}h=>by
     induction hs generalizing vs with
     |nil=>cases h;exact .nil
     |cons g hs ih =>
      cases h with
      |cons r t=>exact .cons r (ih t)
    exact gen PA
   have OW:∀h∈hs,jg h:=λh hh=>by
    have:av h∈(aU z (ch 10)).map D6:=by rw[en];exact aY.mpr ⟨h,hh,rfl⟩
    obtain⟨x,_,hx⟩:=aY.mp this;exact XM hx
   have hlen:hs.length=zs.length:=(dE hB).symm;refine⟨_,rfl,p,zs,hs,rfl,ah.of dy,hB,by lia,λh hh=>⟨by have:=(OW h hh).1.2;lia,by have:=(OW h hh).2.1.2;lia⟩,λb H3 e3 i3=>⟨_,rfl,?_⟩⟩;have eB:∀{x:Option (List i8)},(open Classical in if gz hs then av hs else bh)=x->HJ z=x:=λh=>by
    unfold HJ;rw[jx];exact h
   cases b with
   |true=>exact M7 ⟨_,rfl,q1 hs (eB (if_pos (i3.mp rfl))) p zs H3 (e2.trans e3) (s1.free hp) (e3 _ _ dy) (Bk.same e3 hB)⟩
   |false=>exact J3 ⟨(by show 1<=1000;decide),q0 (eB (if_neg λg=>by have:=i3.mpr g;cases this)) _ (e2.trans e3)⟩
end de
namespace de
open PySem L2 Fr
open Tx (S cs ch x6 J6 A5 w4 bu vk ext R7)
theorem R_ c(p q:S)(r:List S):cs (cO (ch c) (p::q::r))=cs p++c::cs (cO (ch c) (q::r)):=by
 show cs (p++ch c++cO (ch c) (q::r))=_;rw[bu,bu,vk,dC];rfl
theorem Yh:∀{ps:List S},d∈cs (cO (ch c) ps)->d=c\/∃p∈ps,d∈cs p
 |[],h=>by cases h
 |[p],h=>.inr ⟨p,.head _,h⟩
 |p::q::r,h=>by
  rw[R_] at h;rcases bJ.mp h with h|h
  ·exact .inr ⟨p,.head _,h⟩
  ·rcases bH.mp h with h|h
   ·exact .inl h
   ·rcases Yh h with h|⟨x,hx,h⟩
    ·exact .inl h
    ·exact .inr ⟨x,.tail _ hx,h⟩
theorem R'(h:0<=n)(hd:d∈cs (x6 n)):48<=d/\d<=57:=by
 obtain⟨m,rfl⟩:=jZ h;have:=Tx.sf m d hd;lia
theorem Sb(h:∀n∈ns,0<=n)(hd:d∈cs (G4 ns)):d=44\/(48<=d/\d<=57):=by
 rcases Yh hd with e|⟨p,hp,hd⟩
 ·exact .inl e
 ·obtain⟨n,hn,rfl⟩:=aY.mp hp;exact .inr (R' (h n hn) hd)
theorem Yi h:C2 h=cO (ch 62) [G4 h.1,G4 h.2]:=by
 refine ext ?_;rw[R_];unfold C2;rw[bu,bu,bu];show cs (G4 h.1)++([62]++(cs (G4 h.2)++[]))=_;rw[fP];rfl
def Pos(h:i8):Prop:=(∀n∈h.1,0<=n)/\∀n∈h.2,0<=n
theorem Yj(p:Pos h)(hd:d∈cs (C2 h)):d=44\/d=62\/(48<=d/\d<=57):=by
 rw[Yi] at hd;rcases Yh hd with e|⟨x,hx,hd⟩
 ·exact .inr (.inl e)
 ·rcases bH.mp hx with rfl|hx
  ·exact(Sb p.1 hd).imp id .inr
  ·rw[cJ.mp hx] at hd;exact(Sb p.2 hd).imp id .inr
theorem a4a(h0:ns≠[])(h:∀n∈ns,0<=n/\n<10^10):A6 (G4 ns)=av ns:=by
 unfold A6 G4;rw[R7 (by simp_all) λp hp z=>by
  obtain⟨n,hn,rfl⟩:=aY.mp hp;have:=R' (h n hn).1 z;lia]
 have:(ns.map x6).map w4=ns.map av:=by
  rw[bC];refine fM λn hn=>?_;obtain⟨h1,h2⟩:=h n hn;obtain⟨m,rfl⟩:=jZ h1;exact Tx.ET (by lia)
 rw[this,RQ]
theorem jg.pos(a:jg h):Pos h:=⟨λn hn=>by have:=a.2.2.1.2 n hn;lia,λn hn=>(a.2.2.2.1.2 n hn).1⟩
theorem a7B(a:jg h):D6 (C2 h)=av h:=by
 unfold D6;rw[Yi,R7 (by simp) λp hp z=>by
  rcases bH.mp hp with rfl|hp
  ·have:=Sb a.pos.1 z;lia
  ·rw[cJ.mp hp] at z;have:=Sb a.pos.2 z;lia]
 have n1:h.1≠[]:=λz=>by have:=a.1.1;rw[z] at this;simp at this
 have n2:h.2≠[]:=λz=>by have:=a.2.1.1;rw[z] at this;simp at this
 have e1:=a4a n1 (λn hn=>by have:=a.2.2.1.2 n hn;lia);have e2:=a4a n2 (λn hn=>by have:=a.2.2.2.1.2 n hn;lia);show(match [A6 (G4 h.1),A6 (G4 h.2)] with
  |[av a,av b]=>_
  |_=>bh)=_
 rw[e1,e2];exact if_pos a
theorem gz.any(b:gz hs):∀h∈hs,jg h:=λh hh=>by
 obtain⟨_,h0,e0,a0,g⟩:=b;have gh:=g h hh;have l1:bx h.1=bx h0.1:=by have:=gh.1.1;lia
 have l2:bx h.2=bx h0.2:=by have:=gh.2.1.1;lia
 refine⟨by rw[l1];exact a0.1,by rw[l2];exact a0.2.1,?_⟩;rw[l1,l2];exact gh
theorem a7U(b:gz hs):HJ (Ey hs)=av hs:=by
 have ne:hs.map C2≠[]:=λz=>by
  have:=b.1.1;rw[rR.mp z] at this;simp at this
 have:xa ((aU (Ey hs) (ch 10)).map D6)=av hs:=by
  unfold Ey;rw[R7 ne λp hp z=>by
   obtain⟨h,hh,rfl⟩:=aY.mp hp;have:=Yj (b.any h hh).pos z;lia,bC]
  have:hs.map (D6∘C2)=hs.map av:=fM λh hh=>a7B (b.any h hh);rw[this,RQ]
 unfold HJ;rw[this];exact if_pos b
end de
namespace de
open PySem L2 Fr
open Classical in
def one{α:Type}[Inhabited α](p:α->Prop):α:=if h:∃x,p x then Classical.choose h else default
theorem Jo[Inhabited α]{x:α}(u:∀y,p y->x=y)(h:p x):x=one p:=by
 have e:∃x,p x:=⟨x,h⟩;unfold one;rw[dif_pos e];exact u _ (Pi e)
instance:Inhabited Lp.Bo:=⟨Lp.S0 0 0 (λ_ _=>0) (λ_=>0) λ_=>0⟩
def BY(xs:List Int)(D:Int):dI:=.list (xs.map λx=>dF (low x D))
def Zq(ns:List Int):dI:=.list (ns.map gM)
theorem e8D:∀{ys}{ds},bx ys=bx ds->(∀(i:Nat)y d,ys[i]?=av y->ds[i]?=av d->Dq K H F y d)->dY K H F ys ds
 |[],[],_,_=>.nil
 |y::ys,d::ds,hl,h=>.cons (h 0 y d rfl rfl) (e8D (by simp_all) λi y' d' h1 h2=>h (i+1) y' d' h1 h2)
 |[],_::_,hl,_=>by simp at hl
 |_::_,[],hl,_=>by simp at hl
theorem mr(f:F a)(h:H a=av (.lst ys))(e:dk H ys xs D):Dq K H F (.ref a) (BY xs D):=by
 refine .lst f h (e8D (by rw[aH];exact e.1) λi y d hy hd=>?_);have hi:i<bx xs:=by rw[<-e.1];exact(cA.mp hy).1
 rw[aP,aS hi] at hd;cases hd;have:=e.2 i y hy;rw[bA,aS hi] at this;exact Ia this
def e9e(f:F a)(h:H a=av (.lst (ns.map V.int))):Dq K H F (.ref a) (Zq ns):=.lst f h (H_ ns)
theorem e7i:∀l,dY K H F (o6 l) (l.map λ(k:Nat)=>.int (k:Int))
 |[]=>.nil
 |k::r=>.cons (.int _) (e7i r)
def Jp(f:F a)(h:H a=av (.lst (o6 l))):Dq K H F (.ref a) (lu l):=.lst f h (e7i l)
theorem Zs:∀{as}{ls},nr H as ls->(∀a∈as,F a)->dY K H F (as.map V.ref) (ls.map lu)
 |[],[],_,_=>.nil
 |a::as,l::ls,h,f=>.cons (Jp (f a (.head _)) (h.2 0 a l rfl rfl)) (Zs ⟨by simpa using h.1,λk b m h1 h2=>h.2 (k+1) b m (by simp_all) (by simp_all)⟩ λb hb=>f b (.tail _ hb))
 |[],_::_,h,_=>by have:=h.1;simp at this
 |_::_,[],h,_=>by have:=h.1;simp at this
theorem e7Y(f:F a)(h:U6 H hs ws D j k a):Dq K H F (.ref a) (BY ((aW k).map λi=>(cV (·*·) (col (hs.map (V4 j)) i) ws).sum) D):=by
 obtain⟨ys,h1,h2,h3⟩:=h;refine mr f h1 ⟨by rw[aH,gZ];exact h2,λi y hy=>?_⟩;have hi:i<k:=by rw[<-h2];exact(cA.mp hy).1
 have e:((aW k).map λi=>(cV (·*·) (col (hs.map (V4 j)) i) ws).sum).getD i 0=(cV (·*·) (col (hs.map (V4 j)) i) ws).sum:=by
  rw[bA,aP,cU hi];rfl
 rw[e];exact h3 i y hy
def Jr:Option Q2->dI
 |none=>.none
 |some x=>dF x
theorem f0e(h:yS H v o):Dq K H F v (Jr o):=by
 cases o with
 |none=>have h':=h;subst h';exact .non
 |some x=>exact Ia h
theorem dY.s2(T:LT Pt H)(M:nv ag H)(e:il Pt ag H H')(h:dY K H F xs ds):dY K H' F xs ds:=by
 refine h.go (X:=λb=>b=Pt\/b=ag) ⟨λb o n q=>e b o (λz=>n (.inl z)) (λz=>n (.inr z)) q,λx hx=>?_⟩ λa ys f ha=>⟨f,λz=>z.elim (T.ne ha nofun) (M.ne ha nofun)⟩
 ·rcases hx with rfl|rfl
  ·exact Pd T
  ·exact Pd M
section
variable(z:aC)(hs:List i8)(h:i8)
def sd(S:Lp.Bo):List dI:=[BY ((K1 (mE hs) (qE z h) S).take (bx hs)) S.d,BY ((v7 (mE hs) (qE z h) S).take (bx h.1)) S.d,BY (((v7 (mE hs) (qE z h) S).drop (bx h.1)).take (bx h.2)) S.d]
def gd(S:Lp.Bo):List dI:=[BY ((K1 (mE hs) (qE z h) S).take (bx hs)) (S.T (mE hs) (qE z h)),BY ((v7 (mE hs) (qE z h) S).take (bx h.1)) (S.T (mE hs) (qE z h)),BY (((v7 (mE hs) (qE z h) S).drop (bx h.1)).take (bx h.2)) (S.T (mE hs) (qE z h))]
def rd(S:Lp.Bo):List dI:=if 0<S.T (mF hs) (qF z h) then [BY ((yI z hs h S).take (bx h.1)) S.d,BY (((yI z hs h S).drop (bx h.1)).take (bx h.2)) S.d] else [BY ((K1 (mF hs) (qF z h) S).take (bx hs)) ((K1 (mF hs) (qF z h) S).getD (bx hs) 0)]
def yV:List dI:=sd z hs h (one (sj z hs h))++gd z hs h (one (km z hs h))++rd z hs h (one (RF z hs h))
end
section
variable{z:aC}{hs:List i8}{h:i8}{S:Lp.Bo}
theorem sj.one(B:sj z hs h S):S=de.one (sj z hs h):=Jo (λy td=>B.1.one td.1 B.2.1 td.2.1) B
theorem km.one(B:km z hs h S):S=de.one (km z hs h):=Jo (λy td=>B.1.one td.1 B.2.1 td.2.1) B
theorem RF.one(B:RF z hs h S):S=de.one (RF z hs h):=Jo (λy td=>B.1.one td.1 B.2.1 td.2.1) B
theorem Zt(h:fh 1900 x):x.natAbs.log2<1920:=by
 by_cases h0:x.natAbs=0
 ·rw[h0];decide
 ·exact Nat.lt_trans ((mO h0).mpr h) (by decide)
theorem e9B(h1:fh 1900 x.1)(h2:fh 1900 x.2):dr 3850 2 (dF x):=by
 refine dr.tup (n:=1921) (m:=2) (λd hd=>?_) (aT _);simp only[bH,dJ,or_false] at hd;rcases hd with rfl|rfl
 ·exact .int (Zt h1)
 ·exact .int (Zt h2)
theorem f0p(h:fh n y)(h0:0<x)(hl:x<=y):fh n x:=gU (by lia) h
def e7O(hD:0<D)(hd:fh 1900 D)(hx:fh 1900 x):dr 3850 2 (dF (low x D)):=e9B (Bc hD hx) (f0p hd (pQ hD) (Bb hD))
abbrev SL:Nat:=100000
theorem pf(hD:0<D)(hd:fh 1900 D)(hx:∀x∈xs,fh 1900 x)(hl:bx xs<=8):dr SL 10 (BY xs D):=by
 refine dr.mono (dr.list (n:=3850) (k:=2) (λd zw=>?_) (by rw[aH];exact hl)) (by decide) (by decide);obtain⟨x,f',rfl⟩:=aY.mp zw;exact e7O hD hd (hx x f')
theorem e9t:∀k,k<20->Lp.ow (2^60) (k+1)<2^1800:=by decide
theorem Zu(O:Lp.Of m q A b c S)(sz:Sz 1800 m q S):∀x∈v7 m q S,fh 1800 x:=λx hx=>by
 unfold v7 at hx;obtain⟨v,Lx,rfl⟩:=aY.mp hx;have hv:=fF.mp Lx;rcases O.w.all v (by lia) with⟨i,hi,e⟩|⟨j,hj,e⟩
 ·have:Lp.cg m S q v=S.T i q:=by
   unfold Lp.cg;rw[Lp.cz hi λk hk hn=>if_neg λz=>hn (O.w.ii k i hk hi (z.trans e.symm)),if_pos e]
  rw[this];exact sz.1 i q (by lia) (by lia)
 ·have:Lp.cg m S q v=0:=Lp.dm λk hk=>if_neg λz=>O.w.io k j hk hj (z.trans e.symm);rw[this];exact sC (by decide)
theorem Zv(O:Lp.Of m q A b c S)(sz:Sz 1800 m q S):∀x∈K1 m q S,fh 1800 x:=λx hx=>by
 unfold K1 at hx;obtain⟨i,Ek,rfl⟩:=aY.mp hx;have hi:=fF.mp Ek;rcases O.w.all (q+i) (by lia) with⟨k,hk,e⟩|⟨j,hj,e⟩
 ·have:Lp.aq m q S (q+i)=0:=Lp.dm λj hj=>if_neg λz=>O.w.io k j hk hj (e.trans z.symm);rw[this];exact sC (by decide)
 ·have:Lp.aq m q S (q+i)=S.T m j:=by
   unfold Lp.aq;rw[Lp.cz hj λk hk hn=>if_neg λz=>hn (O.w.oo k j hk hj (z.trans e.symm)),if_pos e]
  rw[this];exact sz.1 m j (by lia) (by lia)
def Zw{k:Nat}(O:Lp.Of m q A b c S)(hM:∀v,Lp.Fits (2^60) (m+1) (Lp.Vv m q A b c v))(hk:m<20):Sz 1800 m q S :=
 ⟨λi j hi hj=>gU (O.w.Hu hM hi hj) (e9t m hk),gU (O.w.Ht hM) (e9t m hk)⟩
theorem ji(h:fh 1800 x):fh 1900 x:=h.mono (by decide)
theorem e9O(B:sj z hs h S)(hG:∀g∈hs,HG br kt kg g)(gh:HG br kt kg h)(hf:br<=2^60)(eQ:bx hs<=6)(k4:kt<=4)(g4:kg<=4):∀d∈sd z hs h S,dr SL 10 d:=by
 have sz:=Zw (k:=0) B.1 (S7 gh hG hf (qE z h)) (by lia);have lt:=gh.lt;have lg:=gh.lg;have a:=Zu B.1 sz;intro d hd;simp only[sd,bH,dJ,or_false] at hd;rcases hd with rfl|rfl|rfl
 ·exact pf B.1.w.pos (ji sz.2) (λx hx=>ji ((Zv B.1 sz) x (fV hx))) (by grind)
 ·exact pf B.1.w.pos (ji sz.2) (λx hx=>ji (a x (fV hx))) (by grind)
 ·exact pf B.1.w.pos (ji sz.2) (λx hx=>ji (a x (fK (fV hx)))) (by grind)
theorem e9Q(hz:O4 z){i:Nat}(hh:hs[i]?=av h)(B:km z hs h S)(hG:∀g∈hs,HG br kt kg g)(hf:br<=2^60)(eQ:bx hs<=6)(ij:1<=kt)(k4:kt<=4)(g4:kg<=4):∀d∈gd z hs h S,dr SL 10 d:=by
 have gh:=hG h (bK hh);have sz:=Zw (k:=0) B.1 (b6s gh hG hf (qE z h)) (by lia);have pos:=s0 B hG hh ij;have lt:=gh.lt;have lg:=gh.lg;have a:=Zu B.1 sz;have tb:=ji (sz.1 (mE hs) (qE z h) (jJ _) (jJ _));intro d hd;simp only[gd,bH,dJ,or_false] at hd;rcases hd with rfl|rfl|rfl
 ·exact pf pos tb (λx hx=>ji ((Zv B.1 sz) x (fV hx))) (by grind)
 ·exact pf pos tb (λx hx=>ji (a x (fV hx))) (by grind)
 ·exact pf pos tb (λx hx=>ji (a x (fK (fV hx)))) (by grind)
theorem e8H(hz:O4 z){i:Nat}(hh:hs[i]?=av h)(B:RF z hs h S)(hG:∀g∈hs,HG br kt kg g)(hf:br<=2^50)(eQ:bx hs<=6)(ij:1<=kt)(k4:kt<=4)(g4:kg<=4):∀d∈rd z hs h S,dr SL 10 d:=by
 have gh:=hG h (bK hh);have sz:=Zw (k:=0) B.1 (Wa gh hG hf (by lia) (by lia) (qF z h)) (by lia);have lt:=gh.lt;have lg:=gh.lg;have a:=Zu B.1 sz;have w:=Zv B.1 sz;unfold rd;split
 ·have r:∀x∈yI z hs h S,fh 1900 x:=λx hx=>by
   rcases bJ.mp hx with hx|hx
   ·obtain⟨y,hy,rfl⟩:=aY.mp hx;have b3:(2:Nat)^1800+2^1800<=2^1900:=by lia
    exact gU (Int.natAbs_add_le y _) (bS (aAA (a y (fV (fV hy))) (sz.1 (mF hs) (qF z h) (jJ _) (jJ _))) b3)
   ·exact ji (a x (fV (fK hx)))
  intro d hd;simp only[bH,dJ,or_false] at hd;rcases hd with rfl|rfl
  ·exact pf B.1.w.pos (ji sz.2) (λx hx=>r x (fV hx)) (by rw[cI];lia)
  ·exact pf B.1.w.pos (ji sz.2) (λx hx=>r x (fK (fV hx))) (by rw[cI];lia)
 ·next c =>
  have hl:bx hs<bx (K1 (mF hs) (qF z h) S):=by unfold K1;rw[aH,gZ];show bx hs<bx hs+2;lia
  intro d hd;simp only[bH,dJ,or_false] at hd;subst hd;refine pf (yD B hG hh ij c) (ji ?_) (λx hx=>ji (w x (fV hx))) (by grind);rw[bA,aS hl];exact w _ (eF hl)
end
end de
namespace de
open PySem L2 Fr
abbrev tN_:List aC:=["book","kept","sizes","prices","found","number","told","word","some","both"]
abbrev tP:List aC:=["book","kept","sizes","prices"]
section
variable{P:aM}{w:aL}{K:aF}{mg:aC->Option aE}{base:aJ}{f C CN CT Pt ag:aA}{fd:aK}{n:Nat}
def nh:p7 tN_ tP (i9 yy):={}
structure e9s(P:aM)(w:aL)(K:aF)(mg:aC->Option aE)(base:aJ)(n:Nat)(C CN CT Pt ag:aA)(a1 a2 a3 a4 a5 a6 a7 a8 a9 Jt JV J9 Kt Kv Kz:aA)(d1 d2 d3 d4 d5 d6 d7 d8 d9 KC KH KN KQ KR KY:aK):Prop where
 lv:C9 P w K mg base n "levels" ["book","sizes"] (Yg K Pt) a1 d1
 ro:C9 P w K mg base n "rim_of" ["book","sizes"] (RL K Pt) a2 d2
 st:CZ P w K mg base n "standing" ["book","sizes"] (YL K Pt ag) a3 d3
 ju_:C9 P w K mg base n "judged" ["book","prices"] (Ck K) a4 d4
 be:C9 P w K mg base n "best_at" ["book","prices"] (Zb K) a5 d5
 me:CZ P w K mg base n "merged" ["book","numbers"] (YQ K) a6 d6
 K3:vn P w K mg base n "read_book" ["text"] (Zp K CT) a7 d7
 bt:C9 P w K mg base n "book_text" ["book"] (Zm K) a8 d8
 ho:Bn P w K mg base J8 n C "houses" ["self"] (XQ K C) a9 d9
 SD:Bn P w K mg base J8 n C "shares" ["self"] (XS K C) Jt KC
 ri:Bn P w K mg base J8 n C "rim" ["self"] (XT K C Pt) JV KH
 ss:vn P w K mg base n "share_shown" ["book","number","sizes"] (Tb K CN Pt) J9 KN
 we:vn P w K mg base n "growth_shown" ["book","number","sizes"] (V' K CN Pt) Kt KQ
 rm:vn P w K mg base n "on_rim" ["book","number","sizes"] (X_ K CN Pt) Kv KR
 Cm:CZ P w K mg base n "mixed" ["book","mix"] (Zi K) Kz KY
variable{ay:aE}{A:aV}{outer:List Env}{s:aG}{H:Hp}{E:XK}{a1 a2 a3 a4 a5 a6 a7 a8 a9 Jt JV J9 Kt Kv Kz:aA}{d1 d2 d3 d4 d5 d6 d7 d8 d9 KC KH KN KQ KR KY:aK}
abbrev tX_(P:aM)(w:aL)(K:aF)(mg:aC->Option aE)(base:aJ)(f:aA)(ay:aE)(A:aV)(outer:List Env)(s:aG)(H:Hp)(E:XK):Cx:=(N8 J8 P w K mg base tN_ "_law_a_told" (i9 yy) f ay A outer s H E).oi
def f0i(T:v8 mg)(aw:TK K C)(Cs:e9s P w K mg base n C CN CT Pt ag a1 a2 a3 a4 a5 a6 a7 a8 a9 Jt JV J9 Kt Kv Kz d1 d2 d3 d4 d5 d6 d7 d8 d9 KC KH KN KQ KR KY)
  (hr:b_ n (A.deeper (cD "_law_a_told" (i9 yy) s.heap.objs.size f ay))):{t:TS//fu (tX_ P w K mg base f ay A outer s H E) (x9 yy) t} :=
 ⟨_,t8 (r6 (i:=4) nh.nd rfl (aI rfl) (v9 (c6 (Cs.lv.c hr (c6 (pv 0) (c6 (pv 2) c7))) (c6 (Cs.ro.c hr (c6 (pv 0) (c6 (pv 2) c7)))
   (c6 (Cs.st.c hr (c6 (pv 0) (c6 (pv 2) c7))) (c6 (Cs.ju_.c hr (c6 (pv 0) (c6 (pv 3) c7))) c7))))))
  (t8 (r6 (i:=4) nh.nd rfl (aI rfl) (j8 B9 (pv 4) (v9 (c6 (Cs.be.c hr (c6 (pv 0) (c6 (pv 3) c7)))
   (c6 (Cs.me.c hr (c6 (pv 0) (c6 (v9 (c6 d0 c7)) c7)))
   (c6 (l7 Cs.K3.ok hr rfl Cs.K3.m Cs.K3.k Cs.K3.b .nil RA (c6 (Cs.bt.c hr (c6 (pv 0) c7)) c7)) c7))))))
  (t8 (r6 (i:=4) nh.nd rfl (aI rfl) (j8 B9 (j8 B9 (pv 4) (v9 (c6 (M' (pv 1) aw.cl Cs.ho.me Cs.ho.ok hr Cs.ho.bd .nil v6) (c6 (M' (pv 1) aw.cl Cs.SD.me Cs.SD.ok hr Cs.SD.bd .nil v6) (c6 (M' (pv 1) aw.cl Cs.ri.me Cs.ri.ok hr Cs.ri.bd .nil v6) c7)))))
   (Cs.lv.c hr (c6 (pv 0) (c6 (pv 2) c7)))))
  (t8 (IF hO rfl (R8 rfl T.range (c6 (j7 j6 rfl T.len bB (c6 (pv 0) c7)) c7)) (j9 (i:=5) nh.nd rfl (aI rfl))
   (t8 (IF hO rfl (IE (A9 (c6 (l7 Cs.ss.ok hr rfl Cs.ss.m Cs.ss.k Cs.ss.b .nil RA (c6 (pv 0) (c6 (pv 5) (c6 (pv 2) c7)))) (c6 (l7 Cs.we.ok hr rfl Cs.we.m Cs.we.k Cs.we.b .nil RA (c6 (pv 0) (c6 (pv 5) (c6 (pv 2) c7)))) c7)))) (j9 (i:=6) nh.nd rfl (aI rfl))
    (j4 (r6 (i:=4) nh.nd rfl (aI rfl) (j8 B9 (pv 4) (v9 (c6 (l8 U8 (pv 6) d0 (λ_ _=>rfl)) (c6 (l8 U8 (l8 U8 (pv 6) d0 (λ_ _=>rfl)) d0 (λ_ _=>rfl)) (c6 (l8 U8 (l8 U8 (pv 6) d0 (λ_ _=>rfl)) d0 (λ_ _=>rfl)) c7))))))))
   (j0 (D3 (l7 Cs.rm.ok hr rfl Cs.rm.m Cs.rm.k Cs.rm.b .nil RA (c6 (pv 0) (c6 (pv 5) (c6 (pv 2) c7)))) (K4 rfl (p6 (j9 (i:=7) nh.nd rfl (aI rfl)) (p6 (j9 (i:=8) nh.nd rfl (aI rfl)) A4))))
   (j4 (w6 (l5 E6 (pv 7) l9 (r9 _))
    (j4 (r6 (i:=4) nh.nd rfl (aI rfl) (j8 B9 (pv 4) (v9 (c6 (l8 U8 (pv 8) d0 (λ_ _=>rfl)) (c6 (l8 U8 (pv 8) d0 (λ_ _=>rfl)) c7))))))
    (j4 (R3 (K7 iK jW jX P2 (pv 4) (c6 (pv 8) c7)))))))))
  (t8 (r6 (i:=9) nh.nd rfl (aI rfl) (Cs.Cm.c hr (c6 (pv 0) (c6 (j8 Q6 (v9 (c6 (A9 (c6 d0 (c6 d0 c7))) c7)) (j7 j6 rfl T.len bB (c6 (pv 0) c7))) c7))))
  (j4 (o4 (j8 B9 (pv 4) (v9 (c6 (l8 U8 (pv 9) d0 (λ_ _=>rfl)) (c6 (l8 U8 (pv 9) d0 (λ_ _=>rfl)) c7))))))))))⟩
end
theorem c9x:∀n left,bx left<=m->(∀k∈left,k<m)->bx (i6 z hs n left)<=n/\∀l∈i6 z hs n left,bx l<=m/\∀k∈l,k<m
 |0,left,_,_=>⟨Nat.le_refl _,nofun⟩
 |n+1,left,h1,h2=>by
  show bx (if left=[] then [] else lvl z hs left::i6 z hs n (jf z hs left))<=n+1/\∀l∈(if left=[] then [] else lvl z hs left::i6 z hs n (jf z hs left)),bx l<=m/\∀k∈l,k<m;by_cases c:left=[]
  ·rw[if_pos c];exact⟨Nat.zero_le _,nofun⟩
  ·rw[if_neg c];have r1:bx (jf z hs left)<=m:=by
    unfold jf;rw[aH];refine bF (oX _ _) ?_;rw[gZ];exact h1
   obtain⟨i1,i2⟩:=c9x n (jf z hs left) r1 λk hk=>h2 k (c9D hk);refine⟨Nat.succ_le_succ i1,λl hl=>?_⟩;rcases bH.mp hl with rfl|hl
   ·unfold lvl;refine⟨?_,λk hk=>?_⟩
    ·rw[aH];refine bF (oX _ _) ?_;rw[gZ];unfold yK;rw[aH];exact h1
    ·obtain⟨j,hj,rfl⟩:=aY.mp hk;exact h2 _ (c7L (Yf hj))
   ·exact i2 l hl
theorem e6V{ns:List Int}(h:bx ns<=m)(k:∀x∈ns,x.natAbs.log2<1920):dr (m*1923+2) 2 (.list (ns.map gM)) :=
 dr.list (λd hd=>by
  obtain⟨x,hx,rfl⟩:=aY.mp hd;exact .int (k x hx)) (by simp_all)
theorem e1f{ns:List Int}(h:bx ns<=m)(k:∀x∈ns,x.natAbs.log2<1920):dr (m*1923+4) 2 (.tuple (ns.map gM)) :=
 dr.tup (λd hd=>by
  obtain⟨x,hx,rfl⟩:=aY.mp hd;exact .int (k x hx)) (by simp_all)
theorem e7j(h:bx l<=6)(k:∀x∈l,x<1000):dr (6*1923+2) 2 (lu l):=by
 have:=e6V (ns:=l.map λ(x:Nat)=>(x:Int)) (by rw[aH];exact h) λx hx=>by
  obtain⟨y,hy,rfl⟩:=aY.mp hx;exact vg (by grind)
 rw[bC] at this;exact this
def yW(h:dr n k d)(a:n<=SL)(b:k<=10):dr SL 10 d:=h.mono a b
theorem e8Y(h:bx ls<=6)(k:∀l∈ls,bx l<=6/\∀x∈l,x<6):dr SL 10 (Yq ls):=by
 refine yW (dr.list (n:=6*1923+2) (k:=2) (λd hd=>?_) (by rw[aH];exact h)) (by decide) (by decide);obtain⟨l,hl,rfl⟩:=aY.mp hd;exact e7j (k l hl).1 λx hx=>by have:=(k l hl).2 x hx;lia
theorem e7I{x:Int}(h0:0<=x)(h1:x<=10^9):x.natAbs.log2<1920:=by
 exact Zt (show x.natAbs<2^1900 from gU (show x.natAbs<=10^9 by lia) (bS (show 10^9<2^30 by decide) (lG (by decide) (by decide))))
theorem e8d(g:HG (10^9) kt kg h)(k4:kt<=4)(g4:kg<=4):dr (2*(4*1923+4+2)+4) 3 (Y5 h):=by
 refine dr.tup (λd hd=>?_) (aT _);simp only[bH,dJ,or_false] at hd;rcases hd with rfl|rfl
 ·exact e1f (g.lt▸k4) λx hx=>e7I (by have:=(g.t x hx).1;lia) (g.t x hx).2
 ·exact e1f (g.lg▸g4) λx hx=>e7I (g.g x hx).1 (g.g x hx).2
theorem e0S{hs:List i8}(h:bx hs<=6)(hG:∀g∈hs,HG (10^9) kt kg g)(k4:kt<=4)(g4:kg<=4):dr SL 10 (.list (hs.map Y5)):=by
 refine yW (dr.list (n:=2*(4*1923+4+2)+4) (k:=3) (λd hd=>?_) (by rw[aH];exact h)) (by decide) (by decide);obtain⟨g,hg,rfl⟩:=aY.mp hd;exact e8d (hG g hg) k4 g4
theorem e8Z{qs:List Q2}(h:bx qs<=6)(k:∀q∈qs,fh 1900 q.1/\fh 1900 q.2):dr SL 10 (.list (qs.map dF)):=by
 refine yW (dr.list (n:=3850) (k:=2) (λd hd=>?_) (by rw[aH];exact h)) (by decide) (by decide);obtain⟨q,hq,rfl⟩:=aY.mp hd;exact e9B (k q hq).1 (k q hq).2
theorem K_:∀{l x:List Int},(∀a∈l,a.natAbs<=M)->(∀b∈x,b.natAbs<=N)->(cV (·*·) l x).sum.natAbs<=bx l*(M*N)
 |[],_,_,_=>by simp
 |_::_,[],_,_=>by simp
 |a::l,b::x,h1,h2=>by
  have i:=K_ (l:=l) (x:=x) (λc hc=>h1 c (.tail _ hc)) λc hc=>h2 c (.tail _ hc);have e:(a*b).natAbs<=M*N:=by rw[rV];exact rY (h1 a (.head _)) (h2 b (.head _))
  rw[eW,dW,eM,mI];have:=Int.natAbs_add_le (a*b) (cV (·*·) l x).sum;lia
theorem e8r:∀{l x:List Int},(∀a∈l,0<=a)->(∀b∈x,0<=b)->0<=(cV (·*·) l x).sum
 |[],_,_,_=>by simp
 |_::_,[],_,_=>by simp
 |a::l,b::x,h1,h2=>by
  have i:=e8r (l:=l) (x:=x) (λc hc=>h1 c (.tail _ hc)) λc hc=>h2 c (.tail _ hc);have e:=eO (h1 a (.head _)) (h2 b (.head _));rw[eW,dW];lia
theorem yX(h:x.natAbs<=10^12):fh 1900 x:=gU h (bS (show 10^12<2^40 by decide) (lG (by decide) (by decide)))
theorem e9l{hs:List i8}(h:bx hs<=6)(hG:∀g∈hs,HG (10^9) kt kg g)(k4:kt<=4)(g4:kg<=4)(pb:∀x∈pt++pg,0<=x/\x<=100):dr SL 10 (.list ((hs.map (DK pt pg 0)).map Jr)):=by
 refine yW (dr.list (n:=3850) (k:=2) (λd hd=>?_) (by rw[aH,aH];exact h)) (by decide) (by decide);rw[bC] at hd;obtain⟨g,hg,rfl⟩:=aY.mp hd;have G:=hG g hg;show dr 3850 2 (Jr (DK pt pg 0 g));unfold DK;by_cases c:fo g pt=0
 ·rw[if_pos c];exact dr.non.mono (by decide) (by decide)
 ·rw[if_neg c];have a1:(fo g pt).natAbs<=bx g.1*(10^9*100):=K_ (λa ha=>by have:=G.t a ha;lia) λb hb=>by have:=pb b (fW _ hb);lia
  have a2:(cV (·*·) g.2 pg).sum.natAbs<=bx g.2*(10^9*100):=K_ (λa ha=>by have:=G.g a ha;lia) λb hb=>by have:=pb b (eL _ hb);lia
  have a3:0<=fo g pt:=e8r (λa ha=>by have:=G.t a ha;lia) λb hb=>(pb b (fW _ hb)).1;have l1:=G.lt;have l2:=G.lg;refine e7O (by lia) (yX ?_) (yX ?_)
  ·have:bx g.1*(10^9*100)<=4*(10^9*100):=pJ _ (by lia);lia
  ·have:bx g.2*(10^9*100)<=4*(10^9*100):=pJ _ (by lia);unfold P7;lia
theorem e7Q{hs:List i8}(h:bx hs<=6)(hG:∀g∈hs,HG (10^9) kt kg g)(hk:k<=4):dr SL 10 (BY ((aW k).map λi=>(cV (·*·) (col (hs.map (V4 j)) i) (aQ (bx hs) 1)).sum) 2):=by
 refine pf (by decide) (yX (by decide)) (λx hx=>?_) (by grind);obtain⟨i,_,rfl⟩:=aY.mp hx;have e:bx (col (hs.map (V4 j)) i)<=6:=by unfold col;rw[aH,aH];exact h
 have a:(cV (·*·) (col (hs.map (V4 j)) i) (aQ (bx hs) 1)).sum.natAbs<=bx (col (hs.map (V4 j)) i)*(10^9*1):=K_ (λa ha=>?_) λb hb=>by rw[(lL.mp hb).2];decide
 ·refine yX (bF a ?_);have:bx (col (hs.map (V4 j)) i)*(10^9*1)<=6*(10^9*1):=pJ _ e;lia
 ·unfold col at ha;rw[bC] at ha;obtain⟨g,hg,rfl⟩:=aY.mp ha;have G:=hG g hg;show((V4 j g).getD i 0).natAbs<=10^9;rw[bA];by_cases c:i<bx (V4 j g)
  ·rw[aS c];have:∀x∈V4 j g,0<=x/\x<=10^9:=λx hx=>by
    unfold V4 at hx;split at hx
    ·have:=G.t x hx;lia
    ·have:=G.g x hx;lia
   have:=this _ (eF c);show((V4 j g)[i]).natAbs<=10^9;lia
  ·rw[bW (by lia)];decide
end de
namespace de
open PySem L2 Fr
open Tx (S cs ch x6 J6 A5 w4 bu vk ext R7)
theorem a5l(p:Pos h):J6 (C2 h):=λd hd=>by have:=Yj p hd;lia
theorem Zx(g:HG br kt kg h)(hf:br<=10^9):ef h kt kg:=⟨⟨by rw[g.lt],λx hx=>⟨(g.t x hx).1,xA (g.t x hx).2 hf⟩⟩,⟨by rw[g.lg],λx hx=>⟨(g.g x hx).1,xA (g.g x hx).2 hf⟩⟩,g.p⟩
theorem Sw(g:HG br kt kg h)(hf:br<=10^9)(h1:kt<=4)(h2:kg<=4):Sm h.1/\Sm h.2 :=
 ⟨⟨by rw[g.lt];lia,λx hx=>by have:=g.t x hx;lia⟩,by rw[g.lg];lia,λx hx=>by have:=g.g x hx;lia⟩
theorem c9W(h:hs.length<=16)(m:∀h∈hs,Sm h.1/\Sm h.2):(Ey hs).length<=100000:=by
 have h1:=bF (sD (ch 10) (hs.map C2)) (kC (O7 λx hx=>by
  obtain⟨g,hg,rfl⟩:=aY.mp hx;exact RD (m g hg).1 (m g hg).2) _)
 rw[aH] at h1;have h3:(ch 10).length=1:=rfl;rw[h3] at h1;show(cO (ch 10) (hs.map C2)).length<=100000;lia
def tj(Pt ag:aA)(H:Hp):Hp:=λb=>if b=Pt\/b=ag then bh else H b
section
variable{Pt ag:aA}{H H' H0:Hp}{K:aF}{C:aA}
theorem il.mk(e:il Pt ag H H'):af (tj Pt ag H) H':=λb o q=>by
 unfold tj at q;split at q
 ·cases q
 ·next n=>exact e b o (λz=>n (.inl z)) (λz=>n (.inr z)) q
theorem e9C:il Pt ag H (tj Pt ag H):=λb o n m q=>by
 unfold tj;rw[if_neg λz=>z.elim n m];exact q
theorem Zy(T:LT Pt H)(M:nv ag H):zp (λb=>b=Pt\/b=ag) H (tj Pt ag H) :=
 ⟨λb o n q=>e9C b o (λz=>n (.inl z)) (λz=>n (.inr z)) q,λx hx=>by
  rcases hx with rfl|rfl
  ·exact Pd T
  ·exact Pd M⟩
def yY(T:LT Pt H)(M:nv ag H)(h:H b=av o)(n:∀ps,o≠.my ps):tj Pt ag H b=av o:=il.get T M e9C h n
theorem e7P(T:LT Pt H)(M:nv ag H)(h:dk H ys xs D):dk (tj Pt ag H) ys xs D :=
 ⟨h.1,λi y hy=>by
  obtain⟨a,e,q⟩:=h.2 i y hy;exact⟨a,e,yY T M q nofun⟩⟩
structure qa(K:aF)(C:aA)(M:Hp)(ba p t pa:aA)(xs:List V)(hs:List i8)(kt kg:Nat)(L:So)(past:List So)(lo:List aA)(pt pg:List Int)(D:Int):Prop where
 l:M ba=av (.lst xs)
 b:Bk K M xs hs
 g:∀h∈hs,HG (10^9) kt kg h
 n1:1<=bx hs
 n6:bx hs<=6
 k1:1<=kt
 k4:kt<=4
 g1:1<=kg
 g4:kg<=4
 kp:h8 K C M p kt kg "any" L past pa lo
 lg:∀g∈L.1,HG (10^9) kt kg g
 l6:bx L.1<=6
 q:∀q∈L.2,fh 1900 q.1/\fh 1900 q.2
 l2:bx L.2<=6
 pr:nZ M t pt pg 0 D
 pn:sr pt pg 0 D kt kg
 pb:∀x∈pt++pg,0<=x/\x<=100
def qa.same(e:af M M'_)(I:qa K C M ba p t pa xs hs kt kg L past lo pt pg D):qa K C M'_ ba p t pa xs hs kt kg L past lo pt pg D :=
 ⟨e _ _ I.l,Bk.same e I.b,I.g,I.n1,I.n6,I.k1,I.k4,I.g1,I.g4,I.kp.same e,I.lg,I.l6,I.q,I.l2,I.pr.same e,I.pn,I.pb⟩
theorem qa.m2(T:LT Pt M)(U:nv ag M)(I:qa K C M ba p t pa xs hs kt kg L past lo pt pg D):qa K C (tj Pt ag M) ba p t pa xs hs kt kg L past lo pt pg D:=by
 obtain⟨dx,ta,wa,pv,hp,_,jt,_⟩:=I.kp.ex;refine⟨yY T U I.l nofun,Bk.jw (Zy T U) I.b,I.g,I.n1,I.n6,I.k1,I.k4,I.g1,I.g4,I.kp.jw (Zy T U) (λb hb z=>?_) (λz=>z.elim (T.ne hp nofun) (U.ne hp nofun)) λz=>z.elim (T.ne jt nofun) (U.ne jt nofun),I.lg,I.l6,I.q,I.l2,?_,I.pn,I.pb⟩
 ·obtain⟨xs,hx⟩:=I.kp.ls b hb;exact z.elim (T.ne hx nofun) (U.ne hx nofun)
 ·obtain⟨fa,ga,u,tx,wd,h1,h2,h3,h4,h5,a,e,h6⟩:=I.pr;exact⟨fa,ga,u,tx,wd,yY T U h1 nofun,yY T U h2 nofun,e7P T U h3,yY T U h4 nofun,e7P T U h5,a,e,yY T U h6 nofun⟩
theorem qa.bi(I:qa K C M ba p t pa xs hs kt kg L past lo pt pg D):O6 K M ba xs hs (10^9) kt kg :=
 ⟨ah.of I.l,I.b,I.g,by decide,by have:=I.n6;lia,by have:=I.k4;lia,by have:=I.g4;lia⟩
structure BS(K:aF)(Pt ag:aA)(H0 H:Hp)(l:aA)(ds:List dI):Prop where
 e:il Pt ag H0 H
 t:LT Pt H
 m:nv ag H
 f:H0 l=bh
 ex:∃xs,H l=av (.lst xs)/\dY K H (λa=>H0 a=bh/\a≠l) xs ds
 s:∀d∈ds,dr SL 10 d
theorem BS.go(h:BS K Pt ag H0 H l ds)(e:il Pt ag H H')(T:LT Pt H')(U:nv ag H'):BS K Pt ag H0 H' l ds:=by
 obtain⟨xs,h1,h2⟩:=h.ex;exact⟨h.e.trans e,T,U,h.f,⟨xs,e.get h.t h.m h1 nofun,dY.s2 h.t h.m e h2⟩,h.s⟩
def BS.same(h:BS K Pt ag H0 H l ds)(e:af H H'):BS K Pt ag H0 H' l ds:=h.go e.to2 (h.t.same e) (h.m.same e)
theorem BS.new(e:il Pt ag H0 H)(T:LT Pt H)(U:nv ag H)(hl:H l=bh)(h:dY K H (λa=>H0 a=bh) ys ds)(SD:∀d∈ds,dr SL 10 d):BS K Pt ag H0 (upd H l (.lst ys)) l ds:=by
 have s:=af.new hl (.lst ys);refine⟨e.trans s.to2,T.same s,U.same s,?_,⟨ys,ae,h.go s.jw λa zs f ha=>⟨⟨f,λz=>by rw[z,hl] at ha;cases ha⟩,λz=>z⟩⟩,SD⟩;cases q:H0 l with
 |none=>rfl
 |some o =>
  have tn:∀{sG:aA}{p0:pM}{q0:aC},cu sG p0 q0 H->l≠sG:=λql z0=>by
   subst z0;rcases ql with t|⟨c,t,_⟩<;>(rw[hl] at t;cases t)
  rw[e l o (tn T) (tn U) q] at hl;cases hl
def BS.wk_(h:dY K H (λa=>H0 a=bh/\a≠l) xs ds):dY K H (λa=>H0 a=bh) xs ds:=h.go (af.refl H).jw λa _ f _=>⟨f.1,λz=>z⟩
theorem BS.cat(h:BS K Pt ag H0 H l ds)(hb:H b=av (.lst ys))(d:dY K H (λa=>H0 a=bh) ys es)(SD:∀d∈es,dr SL 10 d)(nz_:bx ys<=1000)(nx:bx ds<=1000)(q:∀r H',BS K Pt ag H0 H' r (ds++es)->af H H'->Q (.ref r) H'):Pc (.ref l) (.ref b) H Q:=by
 obtain⟨xs,h1,h2⟩:=h.ex;refine⟨l,b,xs,ys,rfl,rfl,h1,hb,?_,λr hr=>q r _ (BS.new h.e h.t h.m hr (dY.app (BS.wk_ h2) d) λx hx=>(bJ.mp hx).elim (h.s x) (SD x)) (af.new hr _)⟩;have:=dY.len h2;have:(2000:Nat)<=sizeLine:=by decide
 lia
theorem BS.app(h:BS K Pt ag H0 H l ds)(SD:dr SL 10 d)(nx:bx ds<=1000)(q:∀H',BS K Pt ag H0 H' l (ds++[d])->Q .non H')(lk:Dq K H (λa=>H0 a=bh/\a≠l) v d):Pa (.ref l) [v] H Q:=by
 obtain⟨xs,h1,h2⟩:=h.ex;refine⟨l,xs,v,rfl,rfl,h1,?_,q _ ?_⟩
 ·have:=dY.len h2;have:(2000:Nat)<=sizeLine:=by decide
  lia
 ·have fr:zp (λb=>b=l) H (upd H l (.lst (xs++[v]))):=⟨λb o n q=>by rw[j3 n];exact q,λx hx=>by rw[show x=l from hx];exact S3 h1⟩;have e2:il Pt ag H0 (upd H l (.lst (xs++[v]))):=λb o n1 n2 q=>by
   have nb:b≠l:=λz=>by rw[z,h.f] at q;cases q
   rw[j3 nb];exact h.e b o n1 n2 q
  exact⟨e2,cu.write h.t h1,cu.write h.m h1,h.f,⟨_,ae,(dY.go fr (λb ys f _=>⟨f,f.2⟩) (dY.app h2 (.cons lk .nil)))⟩,λx hx=>(bJ.mp hx).elim (h.s x) λz=>by rw[cJ.mp z];exact SD⟩
end
section
variable(z:aC)(hs:List i8)(kt kg:Nat)(L:So)(pt pg:List Int)
def yZ:List dI:=[Yq (i6 z hs (bx hs) (aW (bx hs))),lu (Jg z hs),Zq (one λns=>∃os,Os z hs kt kg os/\DR os ns),.list ((hs.map (DK pt pg 0)).map Jr)]
def Dr:List dI:=[lu ((aW (bx hs)).filter (oE (hs.map (DK pt pg 0)))),.list (hs.map Y5),.list (hs.map Y5)]
def K':List dI:=[.list (L.1.map Y5),.list (L.2.map dF),lu (Jg "any" L.1)]
def Ds:List dI:=(i6 z hs (bx hs) (aW (bx hs))).map lu
def kF(i:Nat):List dI:=((hs.take i).map (yV z hs)).flatten
def La:List dI:=[BY ((aW kt).map λi=>(cV (·*·) (col (hs.map (V4 0)) i) (aQ (bx hs) 1)).sum) 2,BY ((aW kg).map λi=>(cV (·*·) (col (hs.map (V4 1)) i) (aQ (bx hs) 1)).sum) 2]
def mP:List dI:=yZ z hs kt kg pt pg++Dr hs pt pg++K' L++Ds z hs
def y_:List dI:=mP z hs kt kg L pt pg++kF z hs (bx hs)++La hs kt kg
end
def tq(K:aF)(H0 H:Hp)(t:aA)(ds:List dI):Prop:=∃u u' ml pt fa ga,H t=av (.tup [u,.ref ml,.ref pt])/\H pt=av (.tup [.ref fa,.ref ga,u'])/\dY K H (λa=>H0 a=bh) [.ref ml,.ref fa,.ref ga] ds
theorem tq.go(T:LT Pt H)(U:nv ag H)(e:il Pt ag H H')(h:tq K H0 H t ds):tq K H0 H' t ds:=by
 obtain⟨u,u',ml,pt,fa,ga,h1,h2,h3⟩:=h;exact⟨u,u',ml,pt,fa,ga,e.get T U h1 nofun,e.get T U h2 nofun,dY.s2 T U e h3⟩
theorem Zz(hh:hs[i]?=av h):kF z hs (i+1)=kF z hs i++yV z hs h:=by
 unfold kF;rw[rC,hh];simp
theorem e9F{S}:bx (rd z hs h S)<=2:=by
 unfold rd;split
 ·exact aT _
 ·exact lW 1
theorem Lb:∀i,i<=bx hs->bx (kF z hs i)<=8*i
 |0,_=>aT _
 |i+1,hi=>by
  have a:=Lb (z:=z) (hs:=hs) i (by lia);have Ek:i<bx hs:=by lia
  rw[Zz (aS Ek),aX];have b:bx (yV z hs hs[i])<=8:=by
   unfold yV;have:=e9F (z:=z) (hs:=hs) (h:=hs[i]) (S:=one (RF z hs hs[i]));rw[aX,aX];show 3+3+_<=8;lia
  lia
theorem e0Z:bx (mP z hs kt kg L pt pg)<=10+bx hs:=by
 have a:=Yr (z:=z) (hs:=hs) (bx hs) (aW (bx hs));unfold mP Ds;rw[aX,aX,aX,aH];show 4+3+3+_<=_;lia
inductive ZC(K:aF)(C Pt ag:aA)(vs:List V)(H:Hp)(Q:VK)(dj:XK):Prop|mk:∀ba p t pa z xs hs kt kg L past lo pt pg D,vs=[.ref ba,.ref p,.str z,.ref t]->O4 z->qa K C H ba p t pa xs hs kt kg L past lo pt pg D->LT Pt H->nv ag H->ag≠Pt->(∀l H',BS K Pt ag H H' l (y_ z hs kt kg L pt pg)->Q (.ref l) H')->ZC K C Pt ag vs H Q dj
theorem e8m(F:Aj K "_law_a_told" yy f fd)(T:v8 mg)(aw:TK K C)
  (Cs:e9s P w K mg base n C CN CT Pt ag a1 a2 a3 a4 a5 a6 a7 a8 a9 Jt JV J9 Kt Kv Kz d1 d2 d3 d4 d5 d6 d7 d8 d9 KC KH KN KQ KR KY):bf P w K mg base J8 (n+1) f fd tP (ZC K C Pt ag):=by
 refine F.oa nh λay A outer s H vs Q E hr h=>?_;obtain⟨ba,p,t,pa,z,xs,hs,kt,kg,L,past,lo,pt,pg,D,rfl,hz,I0,ql,yM,ne,q⟩:=h;refine⟨_,(f0i T aw Cs hr).2,?_⟩;have I:=I0.m2 ql yM;have xl:bx xs=bx hs:=dE I.b;have n1:=I.n1;have n6:=I.n6;have k1:=I.k1;have k4:=I.k4;have g1:=I.g1;have g4:=I.g4;have at_:∀{H':Hp},il Pt ag H H'->qa K C H' ba p t pa xs hs kt kg L past lo pt pg D:=λe=>I.same (il.mk e);have tu:∀{H1 H2:Hp},LT Pt H1->nv ag H1->bj Pt H1 H2->LT Pt H2->nv ag H2:=λT1 vK e T2=>cu.other T1 vK ne e;have nw:∀{H1:Hp}{x:aA},il Pt ag H H1->LT Pt H1->nv ag H1->H1 x=bh->H x=bh:=λ{H1 x}e T1 vK h=>by
  cases q:H x with
  |none=>rfl
  |some o =>
   have tn:∀{sG:aA}{p0:pM}{q0:aC},cu sG p0 q0 H1->x≠sG:=λql z0=>by
    subst z0;rcases ql with t|⟨c,t,_⟩<;>(rw[h] at t;cases t)
   rw[e x o (tn T1) (tn vK) q] at h;cases h
 have lb:=c9x (z:=z) (hs:=hs) (m:=6) (bx hs) (aW (bx hs)) (by rw[gZ];exact n6) λk hk=>by have:=fF.mp hk;lia
 have ZD:=e8Y (bF lb.1 n6) lb.2;have wk:∀{l:List Nat},bx l<=6->(∀x∈l,x<1000)->dr SL 10 (lu l):=λa b=>yW (e7j a b) (by decide) (by decide);have Dt:∀(z':aC)(we:List i8),bx we<=6->dr SL 10 (lu (Jg z' we)):=λz' we hg=>wk (bF (bF (oX _ _) (by rw[gZ];exact aT _)) hg) λx hx=>by have:=b4X hx;lia
 have shs:=e0S n6 I.g k4 g4;refine⟨λau H'=>∃l,au=[av (.ref ba),av (.ref p),av (.str z),av (.ref t),av (.ref l),bh,bh,bh,bh,bh]/\BS K Pt ag H H' l (yZ z hs kt kg pt pg),?_,?_⟩
 ·refine⟨_,rfl,_,rfl,ba,xs,hs,z,10^9,kt,kg,rfl,hz,I0.bi,by decide,k1,ql,λH1 r1 as1 e1 T1 OH GN na1 ZF=>?_⟩;have vK:=tu ql yM e1 T1;have D1:dY K H1 (λa=>H a=bh) [V.ref r1] [Yq (i6 z hs (bx hs) (aW (bx hs)))]:=.cons (.lst OH GN (Zs na1 ZF)) .nil;refine⟨_,rfl,_,rfl,ba,xs,hs,z,10^9,kt,kg,rfl,hz,(at_ e1.to2).bi,by decide,T1,λH2 r2 e2 T2 nr2 MB=>?_⟩;have f_:=tu T1 vK e2 T2;have yQ:il Pt ag H H2:=e1.to2.trans e2.to2;have D2:=dY.app (dY.s2 T1 vK e2.to2 D1) (.cons (Jp (nw e1.to2 T1 vK nr2) MB) .nil);refine⟨_,rfl,_,rfl,ba,xs,hs,z,10^9,kt,kg,rfl,hz,(at_ yQ).bi,by lia,k1,T2,f_,ne,λos ns l3 H3 vw gj e3 ZG wt ZJ KA=>?_⟩;have E3:=yQ.trans e3;have en:ns=one λns=>∃os,Os z hs kt kg os/\DR os ns:=Jo (λy ⟨Gd,a,b⟩=>by
   have:=Os.eq hz I.g vw a;subst this;exact gj.eq b) ⟨os,vw,gj⟩
  have sst:dr SL 10 (Zq ns):=by
   have len:bx os<=6:=by rw[vw.1];exact n6
   refine yW (e6V (m:=6) (by rw[gj.1.length_eq,aH,gZ];exact len) λx hx=>?_) (by decide) (by decide);obtain⟨k,hk,rfl⟩:=aY.mp (gj.1.mem_iff.mp hx);have:=fF.mp hk;exact vg (by lia)
  rw[en] at sst;have sh0:∀d∈yZ z hs kt kg pt pg,dr SL 10 d:=λd hd=>by
   simp only[yZ,bH,dJ,or_false] at hd;rcases hd with rfl|rfl|rfl|rfl
   ·exact ZD
   ·exact Dt z hs n6
   ·exact sst
   ·exact e9l n6 I.g k4 g4 I.pb
  have Lc:=dY.app (dY.s2 T2 f_ e3 D2) (.cons (e9e (nw yQ T2 f_ ZJ) KA) .nil);rw[en] at Lc;have I3:=at_ E3;refine⟨_,rfl,_,rfl,ba,t,xs,hs,pt,pg,0,D,10^9,kt,kg,rfl,ah.of I3.l,I3.b,by lia,I3.g,by decide,by lia,by lia,I3.pr,I3.pn,λl4 ys4 H4 e4 Du Od hj=>?_⟩;have T4_:=ZG.same e4;have Dv:=wt.same e4;have Dw:=dY.app (dY.s2 ZG wt e4.to2 Lc) (.cons (.lst (nw E3 ZG wt Du) Od (yH (λ_ _ r=>f0e r) hj)) .nil);refine⟨(by show 4<=sizeLine;decide),λl nl=>⟨l,rfl,BS.new (E3.trans e4.to2) T4_ Dv nl Dw sh0⟩⟩
 rintro _ H1 ⟨l1,rfl,F1⟩;refine⟨λau H'=>∃l,au=[av (.ref ba),av (.ref p),av (.str z),av (.ref t),av (.ref l),bh,bh,bh,bh,bh]/\BS K Pt ag H H' l (yZ z hs kt kg pt pg++Dr hs pt pg),?_,?_⟩
 ·have I1:=at_ F1.e;refine⟨_,rfl,_,rfl,_,rfl,ba,t,xs,hs,pt,pg,0,D,10^9,kt,kg,rfl,ah.of I1.l,I1.b,by lia,I1.g,by decide,by lia,by lia,I1.pr,I1.pn,λl2 H2 e2 nl2 j_=>?_⟩;have F2:=F1.same e2;have D2:dY K H2 (λa=>H a=bh) [V.ref l2] [lu ((aW (bx hs)).filter (oE (hs.map (DK pt pg 0))))]:=.cons (Jp (nw F1.e F1.t F1.m nl2) j_) .nil;refine⟨_,rfl,(by show 1<=sizeLine;decide),λnl knl=>?_⟩;have s3:=af.new knl (.lst [V.int 0]);have F3:=F2.same s3;have hnl:=ae (H:=H2) (a:=nl) (o:=.lst [V.int 0]);generalize upd H2 nl (.lst [V.int 0])=H3 at *;obtain⟨h0,Ky⟩:∃h,hs[0]?=av h:=⟨_,aS (by lia)⟩;have gh0:=I.g h0 (bK Ky);refine⟨ba,nl,xs,hs,kt,kg,rfl,(at_ F3.e).bi,k1,g1,ah.of hnl,n1,λr ys H4 e4 nr hr4 hy=>?_⟩;have F4:=F3.same e4;have Dw:=dY.app (dY.s2 F2.t F2.m (s3.trans e4).to2 D2) (.cons (.lst (nw F3.e F3.t F3.m nr) hr4 (yH (λ_ _ r=>XR r) hy)) .nil);have Dx:∀h∈hs,jg h:=λh hh=>⟨⟨by rw[(I.g h hh).lt];lia,by rw[(I.g h hh).lt];lia⟩,⟨by rw[(I.g h hh).lg];lia,by rw[(I.g h hh).lg];lia⟩,by rw[(I.g h hh).lt,(I.g h hh).lg];exact Zx (I.g h hh) (dL _)⟩;have isb:gz hs:=⟨⟨n1,by lia⟩,h0,Ky,Dx h0 (bK Ky),λh hh=>by rw[gh0.lt,gh0.lg];exact Zx (I.g h hh) (dL _)⟩;have smh:∀h∈hs,Sm h.1/\Sm h.2:=λh hh=>Sw (I.g h hh) (dL _) k4 g4;have er:=a7U isb;have asc:J6 (Ey hs):=Tx.se (by decide) λp hp=>by
   obtain⟨g,hg,rfl⟩:=aY.mp hp;exact a5l (Dx g hg).pos
  have I4:=at_ F4.e;refine⟨_,rfl,ba,xs,hs,rfl,ah.of I4.l,I4.b,by lia,smh,λH5 e5=>?_⟩;have F5:=F4.same e5;refine⟨_,rfl,asc,c9W (by lia) smh,λe=>(by rw[er] at e;cases e),λdt e l6 ys6 H6 e6 ZK ZL hy6=>?_⟩;rw[er] at e;cases e;have F6:=F5.same e6;have w_:=dY.app (dY.s2 F4.t F4.m (e5.trans e6).to2 Dw) (.cons (.lst (nw F5.e F5.t F5.m ZK) ZL (yH (λ_ _ r=>XR r) hy6)) .nil);refine⟨(by show 3<=sizeLine;decide),λl7_ nl7=>?_⟩;have s7:=af.new nl7 (.lst [V.ref l2,V.ref r,V.ref l6]);have Dy:∀d∈Dr hs pt pg,dr SL 10 d:=λd hd=>by
   simp only[Dr,bH,dJ,or_false] at hd;rcases hd with rfl|rfl|rfl
   ·exact wk (bF (oX _ _) (by rw[gZ];exact n6)) λx hx=>by have:=fF.mp (lI.mp hx).1;lia
   ·exact shs
   ·exact shs
  exact(F6.same s7).cat ae (dY.s2 F6.t F6.m s7.to2 w_) Dy (by show 3<=1000;decide) (by show 4<=1000;decide) λr H' Fr _=>⟨r,rfl,Fr⟩
 rintro _ H2 ⟨l2,rfl,F2⟩;refine⟨λau H'=>∃l,au=[av (.ref ba),av (.ref p),av (.str z),av (.ref t),av (.ref l),bh,bh,bh,bh,bh]/\BS K Pt ag H H' l (mP z hs kt kg L pt pg),?_,?_⟩
 ·have I2:=at_ F2.e;obtain⟨dx,ta,wa,pv,oy,_,Fo,_⟩:=I2.kp.ex;refine⟨_,rfl,_,rfl,p,dx,_,rfl,oy,rfl,p,pa,kt,kg,"any",L,past,lo,rfl,I2.kp,λl3 ys3 H3 e3 ZJ KA Zk=>?_⟩;have F3:=F2.same e3;have Lc:dY K H3 (λa=>H a=bh) [V.ref l3] [.list (L.1.map Y5)]:=.cons (.lst (nw F2.e F2.t F2.m ZJ) KA (yH (λ_ _ r=>XR r) Zk)) .nil;have I3:=at_ F3.e;obtain⟨dx3,ta3,wa3,pv3,Di,_,_,_⟩:=I3.kp.ex;refine⟨_,rfl,p,dx3,_,rfl,Di,rfl,p,pa,kt,kg,"any",L,past,lo,rfl,I3.kp,λl4 ys4 H4 e4 Du Od hy4=>?_⟩;have F4:=F3.same e4;have Dw:=dY.app (dY.s2 F3.t F3.m e4.to2 Lc) (.cons (.lst (nw F3.e F3.t F3.m Du) Od (yH (λ_ _ r=>Ia r) hy4)) .nil);have I4:=at_ F4.e;obtain⟨dx4,ta4,wa4,pv4,Mc,_,_,_⟩:=I4.kp.ex;refine⟨_,rfl,p,dx4,_,rfl,Mc,rfl,p,pa,kt,kg,"any",L,past,lo,rfl,I4.kp,⟨.inl rfl,k1,k4,g4⟩,I.lg,by have:=I.l6;lia,F4.t,λH5 Ld e5 Dz nl5 uJ=>?_⟩;have DG:=tu F4.t F4.m e5 Dz;have F5:=F4.go e5.to2 Dz DG;have za:=dY.app (dY.s2 F4.t F4.m e5.to2 Dw) (.cons (Jp (nw F4.e F4.t F4.m nl5) uJ) .nil);refine⟨(by show 3<=sizeLine;decide),λl6 ZK=>?_⟩;have s6:=af.new ZK (.lst [V.ref l3,V.ref l4,V.ref Ld]);have sh2:∀d∈K' L,dr SL 10 d:=λd hd=>by
   simp only[K',bH,dJ,or_false] at hd;rcases hd with rfl|rfl|rfl
   ·exact e0S I.l6 I.lg k4 g4
   ·exact e8Z I.l2 I.q
   ·exact Dt _ _ I.l6
  refine(F5.same s6).cat ae (dY.s2 F5.t F5.m s6.to2 za) sh2 (by show 3<=1000;decide) (by show 7<=1000;decide) λr H7 F7 _=>?_;refine⟨_,rfl,_,rfl,ba,xs,hs,z,10^9,kt,kg,rfl,hz,(at_ F7.e).bi,by decide,k1,F7.t,λH8 r8_ as8 e8 T8_ nr8 ZM na8 ZN=>?_⟩;have U8_:=tu F7.t F7.m e8 T8_;have F8:=F7.go e8.to2 T8_ U8_;have Iz:dY K H8 (λa=>H a=bh) (as8.map V.ref) (Ds z hs):=Zs na8 λa ha=>nw F7.e F7.t F7.m (ZN a ha);have ll:=dY.len Iz;have lv:=Yr (z:=z) (hs:=hs) (bx hs) (aW (bx hs));have sh3:∀d∈Ds z hs,dr SL 10 d:=λd hd=>by
   obtain⟨l,hl,rfl⟩:=aY.mp hd;exact wk (lb.2 l hl).1 λx hx=>by have:=(lb.2 l hl).2 x hx;lia
  exact F8.cat ZM Iz sh3 (by rw[ll];unfold Ds;rw[aH];lia) (by show 10<=1000;decide) λr H' Fr _=>⟨r,rfl,Fr⟩
 rintro _ H3 ⟨l3,rfl,F3⟩;have lB:=e0Z (z:=z) (hs:=hs) (kt:=kt) (kg:=kg) (L:=L) (pt:=pt) (pg:=pg);refine⟨λau H'=>∃(l:aA)(o5 o6 o7 o8:Option V),au=[av (.ref ba),av (.ref p),av (.str z),av (.ref t),av (.ref l),o5,o6,o7,o8,bh]/\BS K Pt ag H H' l (mP z hs kt kg L pt pg++kF z hs (bx hs)),?_,?_⟩
 ·refine⟨_,rfl,ba,_,rfl,.inl (ah.of (at_ F3.e).l),_,rfl,by lia,by lia,?_⟩;rw[cF,xl];refine PZ (n:=bx hs) (λi σ H'=>∃(l:aA)(o5 o6 o7 o8:Option V),σ=[av (.ref ba),av (.ref p),av (.str z),av (.ref t),av (.ref l),o5,o6,o7,o8,bh]/\BS K Pt ag H H' l (mP z hs kt kg L pt pg++kF z hs i)) ⟨l3,bh,bh,bh,bh,rfl,by rw[show kF z hs 0=[] from rfl,fP];exact F3⟩ ?_ (λσ H' h=>h);rintro i σ H4 hi ⟨l4,o5,o6,o7,o8,rfl,F4⟩;rw[lH];obtain⟨h,hh⟩:∃h,hs[i]?=av h:=⟨_,aS hi⟩;have gh:=I.g h (bK hh);have lH_:=Lb (z:=z) (hs:=hs) i (by lia);have li:(i:Int).natAbs.log2<1920:=vg (by lia);have good:AA (bx xs) (i:Int):=⟨by lia,by lia⟩;refine⟨λau H'=>∃(l:aA)(o6:Option V),au=[av (.ref ba),av (.ref p),av (.str z),av (.ref t),av (.ref l),av (.int (i:Int)),o6,o7,o8,bh]/\BS K Pt ag H H' l (mP z hs kt kg L pt pg++kF z hs i++sd z hs h (one (sj z hs h))++gd z hs h (one (km z hs h))),?_,?_⟩
  ·refine⟨_,rfl,_,rfl,_,rfl,ba,xs,hs,(i:Int),z,10^9,kt,kg,rfl,hz,(at_ F4.e).bi,li,F4.t,λi' h' S H5 t5 ml5 u5 v5_ mts5 Ek Kp Bs e5 Dz Ss hu5 ZP ZQ hm5 Oe=>?_,λbad=>absurd good bad⟩;have ei:i'=i:=by lia
   subst ei;cases hh.symm.trans Kp;have DG:=tu F4.t F4.m e5 Dz;have F5:=F4.go e5.to2 Dz DG;obtain⟨p5,fa5,ga5,w5,ft5,gt5,rfl,q1,q2,q3,q4,q5,q6,q7,q8⟩:=Oe;have za:dY K H5 (λa=>H a=bh) [V.ref ml5,V.ref fa5,V.ref ga5] (sd z hs h S):=.cons (mr (nw F4.e F4.t F4.m ZQ) ZP hm5) (.cons (mr (nw F4.e F4.t F4.m q7) q2 q3) (.cons (mr (nw F4.e F4.t F4.m q8) q4 q5) .nil));have sS_:=e9O Bs I.g gh (by decide) n6 k4 g4;rw[sj.one Bs] at za sS_;have A5_:tq K H H5 t5 (sd z hs h (one (sj z hs h))):=⟨u5,w5,ml5,p5,fa5,ga5,Ss,q1,za⟩;refine⟨_,rfl,_,rfl,_,rfl,ba,xs,hs,(i':Int),z,10^9,kt,kg,rfl,hz,(at_ F5.e).bi,k1,li,F5.t,λZR yg S6_ H6 t6 zb u6 v6_ ZS hi6 hh6 Bs6 e6 tw DN hu6 xf m8 ZV Rn=>?_,λbad=>absurd good bad⟩;have ei:ZR=i':=by lia
   subst ei;cases hh.symm.trans hh6;have qz:=tu F5.t F5.m e6 tw;have F6:=F5.go e6.to2 tw qz;obtain⟨Le,DP,sH,w6_,ft6,gt6,rfl,r1,r2,r3,r4,r5,r6_,r7,r8_⟩:=Rn;have w_:dY K H6 (λa=>H a=bh) [V.ref zb,V.ref DP,V.ref sH] (gd z hs h S6_):=.cons (mr (nw F5.e F5.t F5.m m8) xf ZV) (.cons (mr (nw F5.e F5.t F5.m r7) r2 r3) (.cons (mr (nw F5.e F5.t F5.m r8_) r4 r5) .nil));have sG_:=e9Q hz hh Bs6 I.g (by decide) n6 k1 k4 g4;rw[km.one Bs6] at w_ sG_;have A6_:tq K H H6 t6 (gd z hs h (one (km z hs h))):=⟨u6,w6_,zb,Le,DP,sH,DN,r1,w_⟩;have A56:=A5_.go F5.t F5.m e6.to2;refine⟨(by show 2<=sizeLine;decide),λtt ntt=>?_⟩;have s7:=af.new ntt (.tup [V.ref t5,V.ref t6]);have Pj:=ae (H:=H6) (a:=tt) (o:=.tup [V.ref t5,V.ref t6]);have F7:=F6.same s7;have A7_:=A56.go F6.t F6.m s7.to2;have B7_:=A6_.go F6.t F6.m s7.to2;generalize upd H6 tt (.tup [V.ref t5,V.ref t6])=H7 at *;refine⟨tt,rfl,⟨_,cq.of Pj⟩,?_⟩;refine e9b (xs:=[V.ref t5,V.ref t6]) (λj σ H'=>∃(l:aA)(o6:Option V),σ=[av (.ref ba),av (.ref p),av (.str z),av (.ref t),av (.ref l),av (.int (ZR:Int)),o6,o7,o8,bh]/\BS K Pt ag H H' l (mP z hs kt kg L pt pg++kF z hs ZR++([sd z hs h (one (sj z hs h)),gd z hs h (one (km z hs h))].take j).flatten)/\tq K H H' t5 (sd z hs h (one (sj z hs h)))/\tq K H H' t6 (gd z hs h (one (km z hs h)))/\H' tt=av (.tup [V.ref t5,V.ref t6]))
    ⟨l4,o6,rfl,by rw[List.take_zero,List.flatten_nil,fP];exact F7,A7_,B7_,Pj⟩ (λj σ H' _ ⟨_,_,_,_,_,_,k⟩=>cq.of k) ?_ ?_
   ·rintro j v σ H8 hv ⟨l8_,ZW,rfl,F8,A8_,B8_,ZX⟩;obtain⟨zd,ds,rfl,hd,ld,sj_,u,u',ml,pj_,fa,ga,y1,y2,y3⟩:∃zd ds,v=.ref zd/\[sd z hs h (one (sj z hs h)),gd z hs h (one (km z hs h))][j]?=av ds/\bx ds<=3/\(∀d∈ds,dr SL 10 d)/\tq K H H8 zd ds:=by
     match j,hv with
     |0,hv=>cases hv;exact⟨_,_,rfl,rfl,aT _,sS_,A8_⟩
     |1,hv=>cases hv;exact⟨_,_,rfl,rfl,aT _,sG_,B8_⟩
     |j+2,hv=>simp at hv
    have lj_:([sd z hs h (one (sj z hs h)),gd z hs h (one (km z hs h))].take j).flatten.length<=6:=by
     match j with
     |0=>exact dM _
     |1=>show 3<=6;decide
     |j+2=>show([sd z hs h (one (sj z hs h)),gd z hs h (one (km z hs h))].take (j+2)).flatten.length<=6;rw[fZ (by show 2<=j+2;lia)];exact aT 6
    refine⟨_,rfl,_,rfl,zd,_,1,_,rfl,rfl,cq.of y1,U9 _ _ _,_,rfl,zd,_,2,_,rfl,rfl,cq.of y1,e9z _ _ _,pj_,_,0,_,rfl,rfl,cq.of y2,e9r _ _ _,_,rfl,zd,_,2,_,rfl,rfl,cq.of y1,e9z _ _ _,pj_,_,1,_,rfl,rfl,cq.of y2,U9 _ _ _,(by show 3<=sizeLine;decide),λLf DQ=>?_⟩;have s9:=af.new DQ (.lst [V.ref ml,V.ref fa,V.ref ga]);refine(F8.same s9).cat ae (dY.s2 F8.t F8.m s9.to2 y3) sj_ (by show 3<=1000;decide) (by rw[aX,aX];lia) λr H' Fr zH=>⟨r,_,rfl,?_,A8_.go F8.t F8.m (s9.trans zH).to2,B8_.go F8.t F8.m (s9.trans zH).to2,zH _ _ (s9 _ _ ZX)⟩;rw[rC,hd];simpa[dC] using Fr
   ·rintro σ H8 ⟨l8_,ZW,rfl,F8,_⟩;exact⟨l8_,ZW,rfl,by simpa[dC] using F8⟩
  rintro _ H5 ⟨Ld,ZW,rfl,F5⟩;have NO:bx (mP z hs kt kg L pt pg++kF z hs i++sd z hs h (one (sj z hs h))++gd z hs h (one (km z hs h)))<=1000:=by
   rw[aX,aX,aX];show _+_+3+3<=1000;lia
  have pe_:yV z hs h=sd z hs h (one (sj z hs h))++gd z hs h (one (km z hs h))++rd z hs h (one (RF z hs h)):=rfl;refine⟨_,rfl,_,rfl,_,rfl,ba,xs,hs,(i:Int),z,10^9,kt,kg,rfl,hz,(at_ F5.e).bi,by decide,k1,li,F5.t,λi' h' S H6 t6 v6_ Ek Kp Bs c e6 tw DN Rn=>?_,λi' h' S H6 t6 zb ZS Ek Kp Bs c e6 tw DN xf m8 ZV=>?_,λbad=>absurd good bad⟩
  ·have ei:i'=i:=by lia
   subst ei;cases hh.symm.trans Kp;have qz:=tu F5.t F5.m e6 tw;have F6:=F5.go e6.to2 tw qz;obtain⟨Le,DP,sH,w6_,ft6,gt6,rfl,q1,q2,q3,q4,q5,q6,q7,q8⟩:=Rn;have w_:dY K H6 (λa=>H a=bh) [V.ref DP,V.ref sH] (rd z hs h S):=by
    unfold rd;rw[if_pos c];exact .cons (mr (nw F5.e F5.t F5.m q7) q2 q3) (.cons (mr (nw F5.e F5.t F5.m q8) q4 q5) .nil)
   have DT:=e8H hz hh Bs I.g (by decide) n6 k1 k4 g4;rw[RF.one Bs] at w_ DT;refine⟨t6,_,rfl,cq.of DN,rfl,_,_,rfl,_,_,rfl,rfl,?_⟩;refine⟨_,rfl,rfl,_,rfl,y6 (λ_=>?_) (λc=>absurd (by decide) c)⟩;refine⟨_,rfl,_,rfl,Le,_,0,_,rfl,rfl,cq.of q1,e9r _ _ _,_,rfl,Le,_,1,_,rfl,rfl,cq.of q1,U9 _ _ _,(by show 2<=sizeLine;decide),λLf DQ=>?_⟩;have s9:=af.new DQ (.lst [V.ref DP,V.ref sH]);refine(F6.same s9).cat ae (dY.s2 F6.t F6.m s9.to2 w_) DT (by show 2<=1000;decide) NO λr H' Fr _=>⟨r,_,_,_,_,rfl,?_⟩;rw[Zz hh,pe_];simpa[dC] using Fr
  ·have ei:i'=i:=by lia
   subst ei;cases hh.symm.trans Kp;have qz:=tu F5.t F5.m e6 tw;have F6:=F5.go e6.to2 tw qz;have er:rd z hs h S=[BY ((K1 (mF hs) (qF z h) S).take (bx hs)) ((K1 (mF hs) (qF z h) S).getD (bx hs) 0)]:=by
    unfold rd;rw[if_neg c]
   obtain⟨xs5,uJ,_⟩:=F5.ex;have nl:zb≠Ld:=λz0=>by rw[z0,uJ] at m8;cases m8
   have K6_:∀{F:aA->Prop},F zb->Dq K H6 F (.ref zb) (BY ((K1 (mF hs) (qF z h) S).take (bx hs)) ((K1 (mF hs) (qF z h) S).getD (bx hs) 0)):=λf=>mr f xf ZV;have nm6:=nw F5.e F5.t F5.m m8;refine⟨t6,_,rfl,cq.of DN,rfl,_,_,rfl,_,_,rfl,rfl,?_⟩;refine⟨_,rfl,rfl,_,rfl,y6 (λc=>absurd c (by decide)) (λ_=>?_)⟩;obtain⟨xs6,ZL,_⟩:=F6.ex;refine⟨_,rfl,.inl ⟨rfl,_,ah.of ZL⟩,_,rfl,?_⟩;dsimp only[Z2,yb];have DT:=e8H hz hh Bs I.g (by decide) n6 k1 k4 g4;rw[er] at DT;refine F6.app (DT _ (.head _)) NO (λH' Fr=>⟨Ld,_,_,_,_,rfl,?_⟩) (K6_ ⟨nm6,nl⟩);rw[Zz hh,pe_,<-RF.one Bs,er];simpa[dC] using Fr
 rintro _ H4 ⟨l4,o5,o6,o7,o8,rfl,F4⟩;refine⟨λau H'=>∃(r tl gl:aA),au=[av (.ref ba),av (.ref p),av (.str z),av (.ref t),av (.ref l4),o5,o6,o7,o8,av (.ref r)]/\BS K Pt ag H H' l4 (mP z hs kt kg L pt pg++kF z hs (bx hs))/\H' r=av (.tup [.ref tl,.ref gl])/\dY K H' (λa=>H a=bh) [.ref tl,.ref gl] (La hs kt kg),?_,?_⟩
 ·refine⟨_,rfl,(by show 2<=sizeLine;decide),λt1 k1'=>?_⟩;have s1:=af.new k1' (.tup [V.int 1,V.int 2]);have Dl:=ae (H:=H4) (a:=t1) (o:=.tup [V.int 1,V.int 2]);have F5:=F4.same s1;generalize upd H4 t1 (.tup [V.int 1,V.int 2])=H5 at *;refine⟨(by show 1<=sizeLine;decide),λm1 ZZ=>?_⟩;have s2:=af.new ZZ (.lst [V.ref t1]);have r_:=ae (H:=H5) (a:=m1) (o:=.lst [V.ref t1]);have F6:=F5.same s2;have Kj:=s2 _ _ Dl;generalize upd H5 m1 (.lst [V.ref t1])=H6 at *;have z6:(6:Nat)<=sizeLine:=by decide
  refine⟨_,rfl,ba,xs,rfl,.inl (ah.of (at_ F6.e).l),m1,_,_,rfl,rfl,r_,by lia,by lia,by rw[cF];show 1*bx xs<=sizeLine;lia,λm2 Z5=>?_⟩;rw[cF];have fl:(aQ (bx xs) [V.ref t1]).flatten=aQ (bx xs) (V.ref t1):=by
   generalize bx xs=k;induction k with
   |zero=>rfl
   |succ k ih=>rw[eZ,gE,ih];rfl
  rw[fl];have s3:=af.new Z5 (.lst (aQ (bx xs) (V.ref t1)));have uL:=ae (H:=H6) (a:=m2) (o:=.lst (aQ (bx xs) (V.ref t1)));have F7:=F6.same s3;have Zl:=s3 _ _ Kj;generalize upd H6 m2 (.lst (aQ (bx xs) (V.ref t1)))=H7 at *;have I7:=at_ F7.e;refine⟨ba,m2,xs,_,hs,aQ (bx hs) 1,2,10^9,kt,kg,rfl,ah.of I7.l,I7.b,n1,by lia,ah.of uL,⟨by rw[bP,bP,xl],λj y hy=>?_⟩,λx hx=>?_,by decide,by decide +kernel,bP,I7.g,by decide,by lia,by lia,λr tl gl H8 e8 ZM st sg nt Gh=>?_⟩
  ·have hj:=(cA.mp hy).1;rw[bP] at hj;rw[gD,if_pos hj] at hy;cases hy;rw[bA,gD,if_pos (by lia)];exact⟨t1,rfl,cq.of Zl⟩
  ·rw[(lL.mp hx).2];show(1:Int).natAbs<2^20000;exact Nat.one_lt_two_pow (by decide)
  exact⟨r,tl,gl,rfl,F7.same e8,ZM,.cons (e7Y (nw F7.e F7.t F7.m nt) st) (.cons (e7Y (nw F7.e F7.t F7.m Gh) sg) .nil)⟩
 rintro _ H5 ⟨r,tl,gl,rfl,F5,Z_,za⟩;refine⟨_,rfl,_,rfl,r,_,0,_,rfl,rfl,cq.of Z_,Oz _ _,_,rfl,r,_,1,_,rfl,rfl,cq.of Z_,Mj _ _,(by show 2<=sizeLine;decide),λLf DQ=>?_⟩;have s9:=af.new DQ (.lst [V.ref tl,V.ref gl]);have lH_:=Lb (z:=z) (hs:=hs) (bx hs) (aT _);exact(F5.same s9).cat ae (dY.s2 F5.t F5.m s9.to2 za) (λd hd=>by
  simp only[La,bH,dJ,or_false] at hd;rcases hd with rfl|rfl
  ·exact e7Q n6 I.g k4
  ·exact e7Q n6 I.g g4) (by show 2<=1000;decide) (by rw[aX];lia) λr H' Fr _=>q r H' Fr
end de
namespace de
open PySem L2 Fr
abbrev b9x:List aC:=["script","book","kept","house","prices","sizes","handed","first","due","again","one"]
section
variable{P:aM}{w:aL}{K:aF}{mg:aC->Option aE}{base:aJ}{f C CB CT Pt ag:aA}{fd:aK}{n:Nat}
def eu:p7 b9x ["script"] (i9 M1):={}
structure e9u(P:aM)(w:aL)(K:aF)(mg:aC->Option aE)(base:aJ)(C fi:aA)(di:aK):Prop where
 WA:Mk K C fi
 ok:∀m:Nat,bf P w K mg base J8 (m+1) fi di ["self","takes","gives","sizes"] (HQ K C)
 bd:Binds K di ["self","takes","gives","sizes"] []
 m:mg "Kept"=av (.ref C)
structure Calls(P:aM)(w:aL)(K:aF)(mg:aC->Option aE)(base:aJ)(n:Nat)(C CB CT Pt ag:aA)(a1 a2 a3:aA)(d1 d2 d3:aK):Prop where
 ab:CZ P w K mg base n "_law_a_book" ["script","at","most","far"] (S4 K) a1 d1
 Z':Bn P w K mg base (W2 P w) n C "come" ["self","house"] (Xt K C CB CT Pt) a2 d2
 ta:CZ P w K mg base n "_law_a_told" tP (ZC K C Pt ag) a3 d3
abbrev X1(P:aM)(w:aL)(K:aF)(mg:aC->Option aE)(base:aJ)(f:aA)(ay:aE)(A:aV)(outer:List Env)(s:aG)(H:Hp)(E:XK):Cx:=(N8 J8 P w K mg base b9x "law" (i9 M1) f ay A outer s H E).oi
variable{ay:aE}{A:aV}{outer:List Env}{s:aG}{H:Hp}{E:XK}{a1 a2 a3 fi:aA}{d1 d2 d3 di:aK}
abbrev mx(i:Nat):aO:=(x9 M1).getD i (.Pass ⟨0,0,0,0⟩)
def e9R(T:v8 mg)(zs:mg "str"=bh)(aw:TK K C)(Cs:Calls P w K mg base (n+2) C CB CT Pt ag a1 a2 a3 d1 d2 d3)
  (hr:b_ (n+2) (A.deeper (cD "law" (i9 M1) s.heap.objs.size f ay))):{t:TS//PS (X1 P w K mg base f ay A outer s H E) (mx 4) t} :=
 ⟨_,IF hO rfl (C6 (v9 (c6 l9 (c6 l9 (c6 l9 (c6 l9 c7)))))) (j9 (i:=5) eu.nd rfl (aI rfl))
   (t8 (r6 (i:=6) eu.nd rfl (aI rfl) (v5 C5 rfl T.list fJ (c6 (pv 1) c7)))
   (t8 (r6 (i:=7) eu.nd rfl (aI rfl) (Cs.ta.c hr (c6 (pv 6) (c6 (pv 2) (c6 (pv 5) (c6 (pv 4) c7))))))
   (t8 (r6 (i:=8) eu.nd rfl (aI rfl) (v5 (X8 hr) rfl zs iB (c6 (pv 7) c7)))
   (t8 (r6 (i:=9) eu.nd rfl (aI rfl) (Cs.ta.c hr (c6 (pv 6) (c6 (pv 2) (c6 (pv 5) (c6 (pv 4) c7))))))
   (t8 (IF hO rfl (C6 (pv 7)) (j9 (i:=10) eu.nd rfl (aI rfl))
    (j4 (w6 (S6 (X6 (j7 Uz rfl T.En gB (c6 (pv 10) (c6 (Ln (v:=.ty "list") rfl T.list fJ rfl) c7))))) XE r8)))
   (t8 (IF hO rfl (C6 (pv 7)) (j9 (i:=10) eu.nd rfl (aI rfl))
    (j4 (R3 (K7 iK jW jX P2 (pv 10) (c6 d0 c7)))))
   (t8 (w6 (PW.pt (U0 (l5 Ei (v5 (X8 hr) rfl zs iB (c6 (pv 9) c7)) (pv 8) (r9 _)) (R9 (l5 (JU hr) (pv 6) (pv 1) (r9 _))))) XE r8)
   (t8 (w6 (l5 (JU hr) (pv 4) (A9 (c6 (j8 Q6 (v9 (c6 (A9 (c6 d0 (c6 d0 c7))) c7)) (j7 j6 rfl T.len bB (c6 (l8 U8 (l8 j5 (pv 1) d0 (λ_ _=>rfl)) d0 (λ_ _=>rfl)) c7)))
    (c6 (j8 Q6 (v9 (c6 (A9 (c6 d0 (c6 d0 c7))) c7)) (j7 j6 rfl T.len bB (c6 (l8 U8 (l8 j5 (pv 1) d0 (λ_ _=>rfl)) d0 (λ_ _=>rfl)) c7))) (c6 (A9 (c6 d0 (c6 d0 c7))) c7)))) (r9 _)) XE r8)
   (j4 (w6 (l5 Ei (v5 (X8 hr) rfl zs iB (c6 (Cs.ta.c hr (c6 (pv 6) (c6 (pv 2) (c6 (pv 5) (c6 (pv 4) c7))))) c7)) (pv 8) (r9 _)) XE r8))))))))))⟩
def c1p(T:v8 mg)(zs:mg "str"=bh)(aw:TK K C)(M:e9u P w K mg base C fi di)(Cs:Calls P w K mg base (n+2) C CB CT Pt ag a1 a2 a3 d1 d2 d3)
  (hr:b_ (n+2) (A.deeper (cD "law" (i9 M1) s.heap.objs.size f ay))):{t:TS//fu (X1 P w K mg base f ay A outer s H E) (x9 M1) t} :=
 ⟨_,t8 (r6 (i:=1) eu.nd rfl (aI rfl) (Cs.ab.c hr (c6 (pv 0) (c6 d0 (c6 d0 (c6 (j8 Qa d0 d0) c7))))))
  (t8 (r6 (i:=2) eu.nd rfl (aI rfl) (a9F M.WA (M.ok n) hr rfl M.m M.bd .nil v6 (c6 (j7 j6 rfl T.len bB (c6 (l8 U8 (l8 j5 (pv 1) d0 (λ_ _=>rfl)) d0 (λ_ _=>rfl)) c7)) (c6 (j7 j6 rfl T.len bB (c6 (l8 U8 (l8 j5 (pv 1) d0 (λ_ _=>rfl)) d0 (λ_ _=>rfl)) c7)) (c6 l9 c7)))))
  (t8 (IF hO rfl (C6 (B7 M0 (pv 1) G1 (B8 d0))) (j9 (i:=3) eu.nd rfl (aI rfl))
   (j4 (R3 (TQ (pv 2) aw.cl Cs.Z'.me Cs.Z'.ok hr Cs.Z'.bd .nil RA (c6 (pv 3) c7)))))
  (t8 (r6 (i:=4) eu.nd rfl (aI rfl) (A9 (c6 (j8 Q6 (v9 (c6 (A9 (c6 d0 (c6 d0 c7))) c7)) (j7 j6 rfl T.len bB (c6 (l8 U8 (l8 j5 (pv 1) d0 (λ_ _=>rfl)) d0 (λ_ _=>rfl)) c7)))
   (c6 (j8 Q6 (v9 (c6 (A9 (c6 d0 (c6 d0 c7))) c7)) (j7 j6 rfl T.len bB (c6 (l8 U8 (l8 j5 (pv 1) d0 (λ_ _=>rfl)) d0 (λ_ _=>rfl)) c7))) (c6 (A9 (c6 d0 (c6 d0 c7))) c7)))))
  (t8 (e9R T zs aw Cs hr).2
  (j4 (o4 JC))))))⟩
end
def isL(d:dI):Prop:=∃es,d=.list es
theorem e7G:∀d∈y_ z hs kt kg L pt pg,isL d:=λd hd=>by
 unfold y_ mP yZ Dr K' La at hd;simp only[bJ,bH,dJ,or_false] at hd;rcases hd with(((((rfl|rfl|rfl|rfl)|rfl|rfl|rfl)|rfl|rfl|rfl)|hd)|hd)|rfl|rfl
 all_goals first|exact⟨_,rfl⟩|skip
 ·obtain⟨l,_,rfl⟩:=aY.mp hd;exact⟨_,rfl⟩
 ·obtain⟨l,hl,hd⟩:=yC.mp hd;obtain⟨h,_,rfl⟩:=aY.mp hl;unfold yV sd gd rd at hd;simp only[bJ,bH,dJ,or_false] at hd;rcases hd with((rfl|rfl|rfl)|rfl|rfl|rfl)|hd
  all_goals first|exact⟨_,rfl⟩|skip
  split at hd
  ·simp only[bH,dJ,or_false] at hd;rcases hd with rfl|rfl<;>exact⟨_,rfl⟩
  ·rw[cJ.mp hd];exact⟨_,rfl⟩
theorem e8C(h:bx hs<=6):bx (y_ z hs kt kg L pt pg)<=100:=by
 have a:=e0Z (z:=z) (hs:=hs) (kt:=kt) (kg:=kg) (L:=L) (pt:=pt) (pg:=pg);have b:=Lb (z:=z) (hs:=hs) (bx hs) (aT _);unfold y_;rw[aX,aX];show _+_+2<=100;lia
theorem e1a:∀ts,2*bx ts<=piled ts
 |[]=>dM _
 |t::ts=>by
  have:=e1a ts;rw[oZ,eM];lia
theorem dr.len(h:dr n k (.list es)):bx es<=n:=by
 have a:=h.l;rw[dD,Ib] at a;have b:=piled_le_listText (es.map dD);have c:=e1a (es.map dD);rw[aH] at c;lia
theorem e8W(h:∀d∈ds,dr SL 10 d)(l:bx ds<=100):∃n,n<=sizeLine/\dr n 60 (.list ds) :=
 ⟨100*(SL+2)+2,by decide,(dr.list h l).mono (aT _) (by decide)⟩
theorem e8o(h:Dq K H F v (.list es)):∃a ys,v=.ref a/\F a/\H a=av (.lst ys)/\bx ys=bx es:=by
 cases h with
 |lst f h r=>exact⟨_,_,rfl,f,h,dY.len r⟩
structure xg(X:aA->Prop)(i:Nat)(H H':Hp):Prop where
 k:∀b o,¬X b->H b=av o->H' b=av o
 l:∀b,X b->∃ys,H' b=av (.lst ys)/\bx ys<=SL+i
theorem xg.step(w:xg X i H H')(x:X a)(h:H' a=av (.lst ys))(hl:bx ys<=SL+i):xg X (i+1) H (upd H' a (.lst (ys++[v]))) :=
 ⟨λb o n q=>by
  have nb:b≠a:=λz=>n (z▸x);rw[j3 nb];exact w.k b o n q,λb xb_=>by
  by_cases e:b=a
  ·subst e;exact⟨_,ae,by rw[aX,fR];lia⟩
  ·obtain⟨zs,h1,h2⟩:=w.l b xb_;exact⟨zs,by rw[j3 e];exact h1,by lia⟩⟩
theorem xg.fr(w:xg X i H H')(x:∀b,X b->∃ys,H b=av (.lst ys)):zp X H H':=⟨w.k,λb hb=>by
 obtain⟨ys,h⟩:=x b hb;exact S3 h⟩
theorem e7J{kt kg:Nat}(hc:∀H1 Q1,af H H1->Q1 (.int (kt:Int)) H1->tc σ H1 Q1)(hd:∀H1 Q1,af H H1->Q1 (.int (kg:Int)) H1->fO σ H1 Q1)(k2:kt<=4)(g2:kg<=4)
  (q:∀t H',af H H'->nZ H' t (aQ kt 3) (aQ kg 4) 0 6->Q (.ref t) H') :
  uh (Z2 (P_ zE (Qe (Z2 (uh (Z2 (tC (.int 1)) (Z2 (tC (.int 2)) yb))) yb)) tc) (Z2 (P_ zE (Qe (Z2 (uh (Z2 (tC (.int 2)) (Z2 (tC (.int 3)) yb))) yb)) fO) (Z2 (uh (Z2 (tC (.int 0)) (Z2 (tC (.int 1)) yb))) yb))) σ H Q:=by
 have fl:∀(k:Nat)(x:V),(aQ k [x]).flatten=aQ k x:=λk x=>by
  induction k with
  |zero=>rfl
  |succ k ih=>rw[eZ,gE,ih,eZ];rfl
 have z4:(4:Nat)<=sizeLine:=by decide
 have side:∀{H0}{ty}{a b x}{k:Nat}{Q0_},af H H0->(∀H1 Q1,af H H1->Q1 (.int (k:Int)) H1->ty σ H1 Q1)->k<=4->low x 6=(a,b)->(∀r fs H',af H0 H'->H' r=av (.lst fs)->dk H' fs (aQ k x) 6->Q0_ (.ref r) H')->(P_ zE (Qe (Z2 (uh (Z2 (tC (.int a)) (Z2 (tC (.int b)) yb))) yb)) ty) σ H0 Q0_:=by
  intro H0 ty a b x k Q0_ e0 hy h4 hx q0;refine⟨by grind,λt1 k1=>?_⟩;have s1:=af.new k1 (.tup [V.int a,V.int b]);have Dl:=ae (H:=H0) (a:=t1) (o:=.tup [V.int a,V.int b]);generalize upd H0 t1 (.tup [V.int a,V.int b])=H1 at *;refine⟨(by show 1<=sizeLine;decide),λm1 ZZ=>?_⟩;have s2:=af.new ZZ (.lst [V.ref t1]);have r_:=ae (H:=H1) (a:=m1) (o:=.lst [V.ref t1]);have Kj:=s2 _ _ Dl;generalize upd H1 m1 (.lst [V.ref t1])=H2 at *;refine hy _ _ (e0.trans (s1.trans s2)) ⟨m1,(k:Int),_,rfl,rfl,r_,by lia,by lia,by rw[cF];show 1*k<=sizeLine;lia,λm2 Z5=>?_⟩;rw[cF,fl];have s3:=af.new Z5 (.lst (aQ k (V.ref t1)));refine q0 m2 _ _ (s1.trans (s2.trans s3)) ae ⟨by rw[bP,bP],λj y hy=>?_⟩;have hj:=(cA.mp hy).1;rw[bP] at hj;rw[gD,if_pos hj] at hy;cases hy;rw[bA,gD,if_pos hj];refine⟨t1,rfl,?_⟩;show(upd H2 m2 (.lst (aQ k (V.ref t1)))) t1=av (HO.tup [.int (low x 6).1,.int (low x 6).2]);rw[hx];exact s3 _ _ Kj
 refine side (af.refl _) hc k2 (x:=3) (by decide) λr1 f1 H1 e1 h1 p1=>(side e1 hd g2 (x:=4) (by decide) λr2 f2 H2 e2 h2 p2=>⟨by decide,λt0 k0=>?_⟩);have s3:=af.new k0 (.tup [V.int 0,V.int 1]);have ht0:=ae (H:=H2) (a:=t0) (o:=.tup [V.int 0,V.int 1]);generalize upd H2 t0 (.tup [V.int 0,V.int 1])=H3 at *;refine⟨(by show 3<=sizeLine;decide),λt kt'=>?_⟩;have s4:=af.new kt' (.tup [V.ref r1,V.ref r2,V.ref t0]);have Lg:=e2.trans (s3.trans s4);exact q t _ (e1.trans Lg) ⟨r1,r2,.ref t0,f1,f2,ae,Lg _ _ h1,p1.same Lg,(s3.trans s4) _ _ h2,p2.same (s3.trans s4),t0,rfl,by rw[show low 0 6=(0,1) by decide];exact s4 _ _ ht0⟩
theorem f0M:sr (aQ kt 3) (aQ kg 4) 0 6 kt kg:=by
 refine⟨List.length_replicate,bP,λx hx=>?_,λx hx=>?_,?_,?_,?_⟩
 all_goals first|(rw[(lL.mp hx).2];exact⟨by decide,(yX (by decide)).mono (by decide)⟩)|exact(yX (by decide)).mono (by decide)|decide|decide +kernel
def xh(kt kg:Nat):dI:=.tuple [BY (aQ kt 3) 6,BY (aQ kg 4) 6,dF (low 0 6)]
theorem e7L xs D:(BY xs D).canLay0=true:=by
 unfold BY;rw[fU];induction xs with
 |nil=>rw[jY,cP]
 |cons x xs ih=>rw[cS,cP,ih,yB];rfl
theorem e7D kt kg:(xh kt kg).canLay0=true:=by
 unfold xh;rw[fU,cP,cP,cP,cP,e7L,e7L,yB];rfl
theorem e7V xs D:(BY xs D).depth<=6:=by
 unfold BY;have:iC (xs.map λx=>dF (low x D))<=5:=by
  induction xs with
  |nil=>simp[iC]
  |cons x xs ih=>rw[cS,iC];exact kA.mpr ⟨e8t _,ih⟩
 rw[iY];lia
theorem e9N kt kg:(xh kt kg).depth<=60:=by
 unfold xh;have a:=e7V (aQ kt 3) 6;have b:=e7V (aQ kg 4) 6;have c:=e8t (low 0 6);simp only[iY,iC];lia
theorem e9x(h:nZ H t (aQ kt 3) (aQ kg 4) 0 6):Dp K H (.ref t) (xh kt kg):=by
 obtain⟨fa,ga,u,tx,wd,h1,h2,h3,h4,h5,h6⟩:=h;have g:∀{a:aA}{ys:List V}{xs:List Int},H a=av (.lst ys)->dk H ys xs 6->Dq K H (λ_=>True) (.ref a) (BY xs 6):=λa b=>mr trivial a b;exact(Dq.tup (cq.of h1) (.cons (g h2 h3) (.cons (g h4 h5) (.cons (Ia h6) .nil)))).dp
theorem e9h(T:LT Pt H)(M:nv ag H)(ne:ag≠Pt)(k:h8 K C H p kt kg z L past pa lo)(lf:Sq Pt p pa H H'):nv ag H':=by
 obtain⟨dx,ta,wa,pv,hp,_,jt,_⟩:=k.ex;rcases M with e|⟨c,e1,e2⟩
 ·exact .inl (lf _ _ (J7 e hp nofun) ne (J7 e jt nofun) e)
 ·exact .inr ⟨c,lf _ _ (J7 e1 hp nofun) ne (J7 e1 jt nofun) e1,lf _ _ (J7 e2 hp nofun) (T.ne e2 nofun) (J7 e2 jt nofun) e2⟩
theorem e9g(a:Bl z hs kt kg qs):∀q∈qs,fh 1900 q.1/\fh 1900 q.2:=λq hq=>by
 obtain⟨i,hi⟩:=iL hq;have hl:i<bx hs:=by rw[<-a.1];exact(cA.mp hi).1
 obtain⟨A,B,s,rfl⟩:=a.2 i hs[i] q (aS hl) hi;have up:∀{x:Int},x.natAbs<2^1200->fh 1900 x:=λh=>bS h (lG (by decide) (by decide));exact⟨Bc s.b (up s.n.1),f0p (up s.n.2) (pQ s.b) (Bb s.b)⟩
theorem e7S{pv}(lf:Sq Pt p pa H H')(hp:H p=av (.ins C dx fs))(jt:H pa=av (.lst pv))(T:LT Pt H):zp (λb=>b=p\/b=Pt\/b=pa) H H':=by
 refine⟨λb u n q=>lf b u (λz=>n (.inl z)) (λz=>n (.inr (.inl z))) (λz=>n (.inr (.inr z))) q,λx hx=>?_⟩;rcases hx with rfl|rfl|rfl
 ·exact Sn hp
 ·exact Pd T
 ·exact S3 jt
def e7t(a:Sq Pt p pa H H')(b:Sq Pt p pa H' xc):Sq Pt p pa H xc:=λc o n1 n2 n3 h=>b c o n1 n2 n3 (a c o n1 n2 n3 h)
theorem e7B(hs:List i8):fU (.list (hs.map Y5))=true:=by rw[fU];exact SX _
theorem e9Y(hs:List i8):iY (.list (hs.map Y5))<=60:=by
 rw[iY];have:=e0U hs;lia
inductive DW(K:aF)(Pt ag:aA)(vs:List V)(H:Hp)(Q:VK)(dj:XK):Prop|mk:∀(a:aA)(ns:List Int),vs=[.ref a]->ah K H a (ns.map V.int)->bx ns<=63->LT Pt H->nv ag H->ag≠Pt->(∀H',Q (.bl true) H')->DW K Pt ag vs H Q dj
def qa.at{b}(I:qa K C M ba p t pa xs hs kt kg L past lo pt pg D)(h:M b=av (.lst xs)):qa K C M b p t pa xs hs kt kg L past lo pt pg D :=
 ⟨h,I.b,I.g,I.n1,I.n6,I.k1,I.k4,I.g1,I.g4,I.kp,I.lg,I.l6,I.q,I.l2,I.pr,I.pn,I.pb⟩
abbrev qU:List V:=[.str "any",.str "one",.str "less",.str "more"]
theorem e9k{m:Nat}(h:qU[m]?=av v):∃z,v=.str z/\O4 z:=by
 match m,h with
 |0,h=>cases h;exact⟨_,rfl,.inl rfl⟩
 |1,h=>cases h;exact⟨_,rfl,.inr (.inl rfl)⟩
 |2,h=>cases h;exact⟨_,rfl,.inr (.inr (.inl rfl))⟩
 |3,h=>cases h;exact⟨_,rfl,.inr (.inr (.inr rfl))⟩
 |m+4,h=>simp at h
theorem b7G(F:Aj K "law" M1 f fd)(T:v8 mg)(zs:mg "str"=bh)(aw:TK K C)(M:e9u P w K mg base C fi di)(Cs:Calls P w K mg base (n+2) C CB CT Pt ag a1 a2 a3 d1 d2 d3) :
  bf P w K mg base J8 (n+3) f fd ["script"] (DW K Pt ag):=by
 refine F.oa eu λay A outer s H vs Q E hr h=>?_;obtain⟨a,ns,rfl,hS,h63,L,U,ne,q⟩:=h;refine⟨_,(c1p T zs aw M Cs hr).2,λau H1=>∃bl xs hs kt kg,au=[av (.ref a),av (.ref bl),bh,bh,bh,bh,bh,bh,bh,bh,bh]/\af H H1/\H1 bl=av (.lst xs)/\Bk K H1 xs hs/\1<=bx hs/\bx hs<=6/\1<=kt/\kt<=4/\1<=kg/\kg<=4/\∀h∈hs,HG (10^9) kt kg h,?_,?_⟩
 ·exact⟨_,rfl,_,_,rfl,rfl,⟨by decide,by decide,by decide⟩,a,ns,0,6,_,rfl,hS,by decide,by decide,by decide,by decide,λbl H1 xs hs kt kg e1 kj hB yU hn6 ij wx Ja wy hG=>⟨bl,xs,hs,kt,kg,rfl,e1,kj,hB,yU,by lia,ij,wx,Ja,wy,hG⟩⟩
 rintro _ H1 ⟨bl,xs,hs,kt,kg,rfl,e1,kj,hB,yU,hn6,ij,wx,Ja,wy,hG⟩;have xl:=dE hB;obtain⟨xv0,DX⟩:∃xv,xs[0]?=av xv:=⟨_,aS (by lia)⟩;obtain⟨g0,hg0,a0,t0,ga0,rfl,r1,r2,r3⟩:=aZ.at hB DX;have gg0:=hG g0 (bK hg0);have kd:U7 xs 0=av (V.ref a0):=A2 (j:=0) DX;have lt0:bx (g0.1.map V.int)=kt:=by rw[aH];exact gg0.lt
 have lg0:bx (g0.2.map V.int)=kg:=by rw[aH];exact gg0.lg
 refine⟨λau H'=>∃p pa lo,au=[av (.ref a),av (.ref bl),av (.ref p),bh,bh,bh,bh,bh,bh,bh,bh]/\af H1 H'/\H1 p=bh/\H1 pa=bh/\h8 K C H' p kt kg "any" ([],[]) [] pa lo,?_,?_⟩
 ·refine⟨_,rfl,bl,_,0,_,rfl,rfl,ah.of kj,kd,a0,_,0,_,rfl,rfl,r1,Oz _ _,t0,_,rfl,.inr r2,_,rfl,bl,_,0,_,rfl,rfl,ah.of kj,kd,a0,_,1,_,rfl,rfl,r1,Mj _ _,ga0,_,rfl,.inr r3,?_⟩;rw[lt0,lg0];refine made (K:=K) (C:=C) (H:=H1) (kt:=kt) (kg:=kg) (z:="any") (E:=E0) (Q:=λv H'=>∃p pa lo,[av (.ref a),av (.ref bl),av v,bh,bh,bh,bh,bh,bh,bh,bh]=[av (.ref a),av (.ref bl),av (.ref p),bh,bh,bh,bh,bh,bh,bh,bh]/\af H1 H'/\H1 p=bh/\H1 pa=bh/\h8 K C H' p kt kg "any" ([],[]) [] pa lo) λp pa lo H' e' n1 n2 n3 gm=>?_;exact⟨p,pa,lo,rfl,e',n1,n2,gm⟩
 rintro _ H2 ⟨p,pa,Jq,rfl,e2,np,npa,KP0⟩;have L2:=(L.same e1).same e2;have xi:=e2 _ _ kj;have B2:=Bk.same e2 hB;have nbp:bl≠p:=λz=>by rw[z,np] at kj;cases kj
 have nba:bl≠pa:=λz=>by rw[z,npa] at kj;cases kj
 have c3:P5 xs bh (av 3)=xs.take 3:=by
  unfold P5;rw[show HT.wc (bx xs) (bx xs) (av 3)=min 3 (bx xs) from HT.gy _ _ 3,HT.rp,oY,Nat.sub_zero];by_cases h:3<=bx xs
  ·rw[jT h]
  ·rw[yE (by lia),wO,fZ (by lia)]
 obtain⟨dx0,ta0,wa0,GS,Cc,_,KG,_⟩:=KP0.ex;refine⟨λau H'=>∃(o3:Option V)(qs:List Q2)(past:List So)(lo:List aA),au=[av (.ref a),av (.ref bl),av (.ref p),o3,bh,bh,bh,bh,bh,bh,bh]/\Sq Pt p pa H2 H'/\LT Pt H'/\nv ag H'/\h8 K C H' p kt kg "any" (hs.take 3,qs) past pa lo/\bx qs=bx (hs.take 3)/\(∀q∈qs,fh 1900 q.1/\fh 1900 q.2),?_,?_⟩
 ·refine⟨_,rfl,_,rfl,bl,_,rfl,ah.of xi,λl3 DY=>?_⟩;rw[c3];have s3:=af.new DY (.lst (xs.take 3));have KA:=ae (H:=H2) (a:=l3) (o:=.lst (xs.take 3));have Ep:l3≠p:=λz=>by rw[z,Cc] at DY;cases DY
  have Yn:l3≠pa:=λz=>by rw[z,KG] at DY;cases DY
  have L3:=L2.same s3;have wt:=((U.same e1).same e2).same s3;generalize upd H2 l3 (.lst (xs.take 3))=H3 at *;refine⟨l3,rfl,⟨_,ah.of KA⟩,?_⟩;refine xZ (xs:=xs.take 3) (λi σ H'=>∃(o3:Option V)(qs:List Q2)(past:List So)(lo:List aA),σ=[av (.ref a),av (.ref bl),av (.ref p),o3,bh,bh,bh,bh,bh,bh,bh]/\Sq Pt p pa H3 H'/\LT Pt H'/\nv ag H'/\h8 K C H' p kt kg "any" (hs.take i,qs) past pa lo/\bx qs=bx (hs.take i)/\bx past=i/\i<=3/\(∀q∈qs,fh 1900 q.1/\fh 1900 q.2))
   ⟨_,[],[],Jq,rfl,λ_ _ _ _ _ h=>h,L3,wt,KP0.same s3,rfl,rfl,by lia,nofun⟩ (λi σ H' _ ⟨_,_,_,_,_,lf,_⟩=>ah.of (lf _ _ Ep (L3.ne KA nofun) Yn KA)) ?_ ?_
  ·rintro i v σ H4 hv ⟨o3,qs,past,lo,rfl,lf,L4,Dv,zk,lq,tJ,hi3,yT⟩;have hi:=(cA.mp hv).1;rw[cI] at hi;rw[List.getElem?_take,if_pos (by lia)] at hv;obtain⟨h,hh,OC⟩:=aZ.at (Bk.jw (e7S lf (s3 _ _ Cc) (s3 _ _ KG) L3) (Bk.same s3 B2)) hv;have gh:=hG h (bK hh);obtain⟨dx,ta,wa,pv,Mc,_,hpa4,_⟩:=id zk.ex;have tk:hs.take i++[h]=hs.take (i+1):=by rw[rC,hh];rfl
   have li:bx (hs.take i)=i:=by rw[cI];lia
   refine⟨_,rfl,p,dx,_,rfl,Mc,rfl,_,rfl,?_⟩;refine⟨p,pa,v,h,kt,kg,"any",(hs.take i,qs),past,lo,rfl,zk,⟨.inl rfl,ij,wx,wy⟩,OC,⟨by rw[gh.lt];lia,by rw[gh.lg];lia⟩,(λg hg=>hG g (fV hg)),by show bx (hs.take i)<=16;lia,lq,by lia,L4,λgk ui H5 ha wa' r cl u qs' x KP5 SD n1 n2 lf5 L5 n4 Z_ hu n5 ch _ _=>?_,λbad=>absurd (Zx gh (dL _)) bad,λ_ ui=>absurd ui (by show ¬16<=bx (hs.take i);lia)⟩;refine⟨_,qs'++[x],past++[(hs.take i,qs)],_,rfl,e7t lf lf5,L5,e9h L4 Dv ne zk lf5,by rw[<-tk];exact KP5,by rw[<-tk];exact SD.1,by rw[aX,tJ];rfl,by lia,e9g SD⟩
  ·rintro σ H4 ⟨o3,qs,past,lo,rfl,lf,L4,Dv,zk,lq,tJ,hi3,yT⟩;have tk:hs.take (bx (xs.take 3))=hs.take 3:=by
    rw[cI,xl];by_cases h:3<=bx hs
    ·rw[jT h]
    ·rw[yE (by lia),wO,fZ (by lia)]
   rw[tk] at zk lq;exact⟨o3,qs,past,lo,rfl,λb o n1 n2 n3 h=>lf b o n1 n2 n3 (s3 _ _ h),L4,Dv,zk,lq,yT⟩
 rintro _ H5 ⟨o3,qs,past,lo,rfl,lf,L5,DG,KP5,lq,yT⟩;have xj:H5 bl=av (.lst xs):=lf _ _ nbp (L2.ne xi nofun) nba xi;have PY:=e7S lf Cc KG L2;have ll3:bx (hs.take 3)<=6:=by rw[cI];lia
 have q1:=PY.KD (e2.cm r1);have q2:=PY.KD (e2.cm r2);have q3:=PY.KD (e2.cm r3);refine⟨λau H'=>∃t,au=[av (.ref a),av (.ref bl),av (.ref p),o3,av (.ref t),bh,bh,bh,bh,bh,bh]/\af H5 H'/\nZ H' t (aQ kt 3) (aQ kg 4) 0 6,?_,?_⟩
 ·refine e7J (λH6 Q6_ e6 h=>?_) (λH6 Q6_ e6 h=>?_) wx wy λt H6 e6 hp=>⟨t,rfl,e6,hp⟩
  ·refine⟨_,rfl,bl,_,0,_,rfl,rfl,ah.of (e6 _ _ xj),kd,a0,_,0,_,rfl,rfl,e6.cm q1,Oz _ _,t0,_,rfl,.inr (e6.cm q2),?_⟩;rw[lt0];exact h
  ·refine⟨_,rfl,bl,_,0,_,rfl,rfl,ah.of (e6 _ _ xj),kd,a0,_,1,_,rfl,rfl,e6.cm q1,Mj _ _,ga0,_,rfl,.inr (e6.cm q3),?_⟩;rw[lg0];exact h
 rintro _ H6 ⟨t,rfl,e6,hPr⟩;have L6:=L5.same e6;have qz:=DG.same e6;have I6:qa K C H6 bl p t pa xs hs kt kg (hs.take 3,qs) past lo (aQ kt 3) (aQ kg 4) 6 :=
  ⟨e6 _ _ xj,Bk.same e6 (Bk.jw PY B2),hG,yU,hn6,ij,wx,Ja,wy,KP5.same e6,λg hg=>hG g (fV hg),ll3,yT,by show bx qs<=6;lia,hPr,f0M,λx hx=>by
   rcases bJ.mp hx with hx|hx<;>rw[(lL.mp hx).2]<;>decide⟩
 obtain⟨D,hD⟩:∃D:aC->List dI,∀z,D z=y_ z hs kt kg (hs.take 3,qs) (aQ kt 3) (aQ kg 4):=⟨_,λ_=>rfl⟩;have dl:∀z,∀d∈D z,isL d:=λz d hd=>by rw[hD] at hd;exact e7G d hd
 have dn:∀z,bx (D z)<=100:=λz=>by rw[hD];exact e8C hn6
 refine⟨λau H'=>True,?_,λ_ _ _=>q _⟩;refine⟨(by show 4<=sizeLine;decide),λl4 Du=>?_⟩;have s7:=af.new Du (.lst qU);have Od:=ae (H:=H6) (a:=l4) (o:=.lst qU);have su:=L6.same s7;have U7_:=qz.same s7;refine⟨l4,rfl,⟨_,ah.of Od⟩,?_⟩;have D_:∀{H':Hp},il Pt ag (upd H6 l4 (.lst qU)) H'->qa K C H' bl p t pa xs hs kt kg (hs.take 3,qs) past lo (aQ kt 3) (aQ kg 4) 6:=λe=>(λe=>(I6.m2 L6 qz).same (il.mk e)) (s7.to2.trans e);have s67:il Pt ag H6 (upd H6 l4 (.lst qU)):=s7.to2;change (upd H6 l4 (.lst qU)) l4=av (.lst qU) at Od;generalize upd H6 l4 (.lst qU)=H7 at *;refine xZ (xs:=qU) (λi σ H'=>∃(o5 o6 o7 o8 o9 HC:Option V),σ=[av (.ref a),av (.ref bl),av (.ref p),o3,av (.ref t),o5,o6,o7,o8,o9,HC]/\il Pt ag H7 H'/\LT Pt H'/\nv ag H')
  ⟨bh,bh,bh,bh,bh,bh,rfl,il.refl,su,U7_⟩ (λi σ H' _ ⟨_,_,_,_,_,_,_,e,_⟩=>ah.of (e.get su U7_ Od nofun)) ?_ (λ_ _ _=>trivial)
 rintro i v σ G hv ⟨o5,o6,o7,o8,o9,HC,rfl,e0,L0,yM⟩;obtain⟨z,rfl,hz⟩:=e9k hv;refine⟨λau H'=>∃hd,au=[av (.ref a),av (.ref bl),av (.ref p),o3,av (.ref t),av (.str z),av (.ref hd),o7,o8,o9,HC]/\af G H'/\H' hd=av (.lst xs),?_,?_⟩
 ·exact⟨_,rfl,bl,xs,rfl,.inl (ah.of (D_ e0).l),λhd nhd=>⟨hd,rfl,af.new nhd _,ae⟩⟩
 rintro _ Lh ⟨hd,rfl,ea,YV⟩;have La_:=L0.same ea;have Ua_:=yM.same ea;have zq:=e0.trans ea.to2;refine⟨λau H'=>∃l1,au=[av (.ref a),av (.ref bl),av (.ref p),o3,av (.ref t),av (.str z),av (.ref hd),av (.ref l1),o8,o9,HC]/\BS K Pt ag Lh H' l1 (D z),?_,?_⟩
 ·refine⟨_,rfl,_,rfl,_,rfl,_,rfl,hd,p,t,pa,z,xs,hs,kt,kg,_,past,lo,_,_,6,rfl,hz,(D_ zq).at YV,La_,Ua_,ne,λl1 H' F1=>⟨l1,rfl,by rw[hD];exact F1⟩⟩
 rintro _ G1_ ⟨l1,rfl,F1⟩;obtain⟨KZ,Aw,D1⟩:=F1.ex;have Dy:=e8W F1.s (dn z);refine⟨λau H'=>au=[av (.ref a),av (.ref bl),av (.ref p),o3,av (.ref t),av (.str z),av (.ref hd),av (.ref l1),av (.str (aD (D z)).shown),o9,HC]/\H'=G1_,?_,?_⟩
 ·exact⟨_,rfl,l1,.list (D z),rfl,.lst (ah.of Aw) (dY.dp D1),Dy,rfl,rfl⟩
 rintro _ Gb_ ⟨rfl,hGb⟩;subst hGb;refine⟨λau H'=>∃l2,au=[av (.ref a),av (.ref bl),av (.ref p),o3,av (.ref t),av (.str z),av (.ref hd),av (.ref l1),av (.str (aD (D z)).shown),av (.ref l2),HC]/\BS K Pt ag Gb_ H' l2 (D z),?_,?_⟩
 ·refine⟨_,rfl,_,rfl,_,rfl,_,rfl,hd,p,t,pa,z,xs,hs,kt,kg,_,past,lo,_,_,6,rfl,hz,(D_ (zq.trans F1.e)).at (F1.e.get La_ Ua_ YV nofun),F1.t,F1.m,ne,λl2 H' F2=>⟨l2,rfl,by rw[hD];exact F2⟩⟩
 rintro _ Li ⟨l2,rfl,F2⟩;obtain⟨xs2,j_,D2⟩:=F2.ex;have q_:Li l1=av (.lst KZ):=F2.e.get F1.t F1.m Aw nofun;have len1:=dY.len D1;have dn1:=dn z;have pl:∀{j:Nat}{v:V},KZ[j]?=av v->∃a' ys,v=.ref a'/\Lh a'=bh/\a'≠l1/\Gb_ a'≠bh/\Li a'=av (.lst ys)/\bx ys<=SL:=λ{j v}hv=>by
  obtain⟨d,zw,dq_⟩:=XX (dY.s2 F1.t F1.m F2.e D1) hv;obtain⟨es,rfl⟩:=dl z d (bK zw);obtain⟨a',ys,rfl,⟨f1,f2⟩,h1,h2⟩:=e8o dq_;obtain⟨d2,hd2,dq2⟩:=XX D1 hv;rw[zw] at hd2;cases hd2;obtain⟨a2,ys2,JP,_,h3,_⟩:=e8o dq2;cases JP;exact⟨_,ys,rfl,f1,f2,by rw[h3];simp,h1,by rw[h2];exact dr.len (F1.s _ (bK zw))⟩
 refine⟨λau H'=>∃HC:Option V,au=[av (.ref a),av (.ref bl),av (.ref p),o3,av (.ref t),av (.str z),av (.ref hd),av (.ref l1),av (.str (aD (D z)).shown),av (.ref l2),HC]/\H'=Li,?_,?_⟩
 ·refine⟨_,rfl,l1,rfl,⟨_,ah.of q_⟩,?_⟩;refine xZ (xs:=KZ) (λj σ H'=>∃HC:Option V,σ=[av (.ref a),av (.ref bl),av (.ref p),o3,av (.ref t),av (.str z),av (.ref hd),av (.ref l1),av (.str (aD (D z)).shown),av (.ref l2),HC]/\H'=Li) ⟨HC,rfl,rfl⟩ (λj σ H' _ ⟨_,_,e⟩=>by rw[e];exact ah.of q_) ?_ (λσ H' h=>h);rintro j v σ Gc Lx ⟨xk,rfl,hGc⟩;subst hGc;obtain⟨a',ys,rfl,_,_,_,h5,_⟩:=pl Lx;exact⟨_,rfl,_,_,"list",true,rfl,.lst h5,U5 _,_,rfl,M7 ⟨_,rfl,rfl⟩⟩
 rintro _ Gc ⟨xk,rfl,hGc⟩;subst hGc;obtain⟨X,hX⟩:∃X:aA->Prop,∀b,X b ↔ ∃j:Nat,KZ[j]?=av (V.ref b):=⟨λb=>∃j:Nat,KZ[j]?=av (V.ref b),λ_=>pC⟩;have zA:∀b,X b->∃ys,Gc b=av (.lst ys)/\bx ys<=SL/\Lh b=bh/\b≠l1/\Gb_ b≠bh:=λb hb=>by
  obtain⟨j,hj⟩:=(hX b).mp hb;obtain⟨a',ys,e,f1,f2,f3,h1,h2⟩:=pl hj;cases e;exact⟨ys,h1,h2,f1,f2,f3⟩
 refine⟨λau H'=>∃HC:Option V,au=[av (.ref a),av (.ref bl),av (.ref p),o3,av (.ref t),av (.str z),av (.ref hd),av (.ref l1),av (.str (aD (D z)).shown),av (.ref l2),HC]/\xg X (bx KZ) Gc H'/\LT Pt H'/\nv ag H',?_,?_⟩
 ·refine⟨_,rfl,l1,rfl,⟨_,ah.of q_⟩,?_⟩;have nl1:¬X l1:=λz0=>by obtain⟨_,_,_,_,n,_⟩:=zA _ z0;exact n rfl
  refine xZ (xs:=KZ) (λj σ H'=>∃HC:Option V,σ=[av (.ref a),av (.ref bl),av (.ref p),o3,av (.ref t),av (.str z),av (.ref hd),av (.ref l1),av (.str (aD (D z)).shown),av (.ref l2),HC]/\xg X j Gc H'/\LT Pt H'/\nv ag H') ⟨xk,rfl,⟨λb o _ q=>q,λb hb=>by obtain⟨ys,h1,h2,_⟩:=zA b hb;exact⟨ys,h1,by lia⟩⟩,F2.t,F2.m⟩ (λj σ H' _ ⟨_,_,w,_⟩=>ah.of (w.k _ _ nl1 q_)) ?_ (λσ H' h=>h);rintro j v σ Lj Lx ⟨xk,rfl,w,Ld_,Ud_⟩;obtain⟨a',qg,rfl,_⟩:=pl Lx;have xa_:X a':=(hX a').mpr ⟨j,Lx⟩;obtain⟨ys,h1,h2⟩:=w.l a' xa_;have hj:=(cA.mp Lx).1;have z17:(200000:Nat)<=sizeLine:=by decide
  have hSL:SL=100000:=rfl;exact⟨_,rfl,.inl ⟨rfl,_,ah.of h1⟩,a',ys,_,rfl,rfl,h1,by show bx ys<sizeLine;lia,_,rfl,w.step xa_ h1 h2,cu.write Ld_ h1,cu.write Ud_ h1⟩
 rintro _ Lk ⟨HC,rfl,w,L3,wt⟩;have F':zp X Gc Lk:=w.fr λb hb=>by obtain⟨ys,h1,_⟩:=zA b hb;exact⟨ys,h1⟩
 have LG:il Pt ag Lh Lk:=λb o n1 n2 q0=>w.k b o (λz0=>by obtain⟨_,_,_,f1,_⟩:=zA b z0;rw[f1] at q0;cases q0) (F2.e b o n1 n2 (F1.e b o n1 n2 q0));have I3:=D_ (zq.trans LG);have Ea:=LG.get La_ Ua_ YV nofun;have nX2:¬X l2:=λz0=>by
  obtain⟨_,_,_,_,_,n⟩:=zA _ z0;exact n F2.f
 have D23:dY K Lk (λ_=>True) xs2 (D z):=dY.go F' (λb ys f hb=>⟨trivial,λz0=>by
  obtain⟨_,_,_,_,_,n⟩:=zA _ z0;exact n f.1⟩) D2
 refine⟨λau H'=>au=[av (.ref a),av (.ref bl),av (.ref p),o3,av (.ref t),av (.str z),av (.ref hd),av (.ref l1),av (.str (aD (D z)).shown),av (.ref l2),HC]/\H'=Lk,?_,?_⟩
 ·refine⟨_,rfl,l2,.list (D z),rfl,.lst (ah.of (w.k _ _ nX2 j_)) (dY.dp D23),Dy,?_⟩;refine⟨_,rfl,rfl,_,rfl,?_⟩;rw[show(!decide (V.str (aD (D z)).shown=V.str (aD (D z)).shown))=false by rw[decide_eq_true rfl];rfl];refine M7 ?_;refine⟨_,rfl,_,rfl,.list (hs.map Y5),.list (hs.map Y5),.lst (ah.of Ea) (Bk.Gi I3.b),.lst (ah.of I3.l) (Bk.Gi I3.b),e7B _,e7B _,bF (sF _ _) (e9Y _),_,rfl,?_⟩;rw[U_ _ (e7B _)];exact M7 ⟨rfl,rfl⟩
 rintro _ Lj ⟨rfl,hGd⟩;subst hGd;refine⟨λau H'=>au=[av (.ref a),av (.ref bl),av (.ref p),o3,av (.ref t),av (.str z),av (.ref hd),av (.ref l1),av (.str (aD (D z)).shown),av (.ref l2),HC]/\af Lj H',?_,?_⟩
 ·refine⟨_,rfl,?_⟩;have w1:Lj bl=av (.lst xs):=I3.l;have get:∀{b:aA}{ys:List V},cq K H5 b ys->cq K Lj b ys:=λh=>(zp.KD (Zy L6 qz) (e6.cm h) |> (il.mk (s67.trans (zq.trans LG))).cm);refine e7J (λH8 Q8_ e8 h=>?_) (λH8 Q8_ e8 h=>?_) wx wy λt2 H8 e8 hp=>?_
  ·refine⟨_,rfl,bl,_,0,_,rfl,rfl,ah.of (e8 _ _ w1),kd,a0,_,0,_,rfl,rfl,e8.cm (get q1),Oz _ _,t0,_,rfl,.inr (e8.cm (get q2)),?_⟩;rw[lt0];exact h
  ·refine⟨_,rfl,bl,_,0,_,rfl,rfl,ah.of (e8 _ _ w1),kd,a0,_,1,_,rfl,rfl,e8.cm (get q1),Mj _ _,ga0,_,rfl,.inr (e8.cm (get q3)),?_⟩;rw[lg0];exact h
  ·refine⟨xh kt kg,xh kt kg,e9x (I3.pr.same e8),e9x hp,e7D _ _,e7D _ _,bF (sF _ _) (e9N _ _),_,rfl,?_⟩;rw[U_ _ (e7D _ _)];exact M7 ⟨rfl,e8⟩
 rintro _ Ge_ ⟨rfl,L7⟩;have eae:=LG.trans L7.to2;refine⟨_,rfl,_,rfl,_,rfl,_,rfl,hd,p,t,pa,z,xs,hs,kt,kg,_,past,lo,_,_,6,rfl,hz,(D_ (zq.trans eae)).at (L7 _ _ Ea),L3.same L7,wt.same L7,ne,λLf G9_ F9=>?_⟩;rw[<-hD] at F9;obtain⟨xs9,hl9,D9_⟩:=F9.ex;refine⟨Lf,.list (D z),rfl,.lst (ah.of hl9) (dY.dp D9_),Dy,?_⟩;refine⟨_,rfl,rfl,_,rfl,?_⟩;rw[show(!decide (V.str (aD (D z)).shown=V.str (aD (D z)).shown))=false by rw[decide_eq_true rfl];rfl];exact M7 ⟨_,_,_,_,_,_,rfl,zq.trans (eae.trans F9.e),F9.t,F9.m⟩
end de
namespace L2
open PySem PySem.W
theorem KO(q:excIn K C B nid=true):∃nm qn N bs bm hdct sn sub ab col dd k0 k1 k2 k3 k5,K.lookup C=av (excClassObj nm qn C N bs bm hdct sn sub ab col dd k0 k1 k2 k3 k5 nid)/\nsOkIn K N=true/\nsIn K N "__init__"=av bh/\tailIn K B bm=true:=by
 unfold excIn at q;split at q
 ·rename_i e1 e2 e3 lk
  split at q
  ·rename_i C' bm w0 w1 w2 w3 nn w5 em es
   simp only[fQ,beq_iff_eq,yL] at q;obtain⟨⟨⟨⟨⟨u1,u2⟩,u3⟩,u4⟩,u5⟩,u6⟩:=q;cases u1;cases u2;obtain⟨n1,n2,n3,n4,n5,n6,n7,n8,n9,WU,WV⟩:=e2;obtain⟨ls⟩:=e3;replace em:n3=_:=em;replace u3:WV=false:=u3;replace es:ls=_:=es;subst em u3 es;exact⟨n1,n5,n4,n2,bm,n6,n7,n8,n9,WU,e1,w0,w1,w2,w3,w5,lk,u5,u6,u4⟩
  ·cases q
 ·cases q
def HK(K:fA)(x qual:aC)(st:aO)(f:aA)(cd:aE):Prop:=∃oc od kV dc pm an ct sl,K.lookup f=av ⟨oc,od,.func (fnOf x qual (Q4 st) (x9 st) (i9 st) .none kV dc pm an cd ct),sl⟩/\codeIn K cd qual=true/\pR K (.ref f)=true
structure ff(K:fA)(x:aC)(st:aO)(f:aA)(cd:aE):Prop where
 a:nsIn K mainGlobals x=av (av (.ref f))
 l:HK K x x st f cd
structure EA(K:fA)(C:aA)(x qual:aC)(st:aO)(f:aA)(cd:aE):Prop where
 a:iI K (.ref C) x=av (av (.ref f))
 n:isFn K (.ref f)=true
 l:HK K x qual st f cd
theorem df.b1(F:df K x qual st f fd)(h:∀kV doc pm an ay ct v0,bindArgs (fnOf x qual (Q4 st) (x9 st) (i9 st) .none kV doc pm an ay ct) ⟨[v0],[]⟩=pure [(p0,v0)]:=by intros;rfl):Binds K fd [p0] [] :=
 F.binds λa b c d e g us hl=>match us,hl with|[v0],_=>h a b c d e g v0
theorem df.b2(F:df K x qual st f fd)(h:∀kV doc pm an ay ct v0 v1,bindArgs (fnOf x qual (Q4 st) (x9 st) (i9 st) .none kV doc pm an ay ct) ⟨[v0,v1],[]⟩=pure [(p0,v0),(p1,v1)]:=by intros;rfl):Binds K fd [p0,p1] [] :=
 F.binds λa b c d e g us hl=>match us,hl with|[v0,v1],_=>h a b c d e g v0 v1
theorem df.b3(F:df K x qual st f fd)(h:∀kV doc pm an ay ct v0 v1 v2,bindArgs (fnOf x qual (Q4 st) (x9 st) (i9 st) .none kV doc pm an ay ct) ⟨[v0,v1,v2],[]⟩=pure [(p0,v0),(p1,v1),(p2,v2)]:=by intros;rfl):Binds K fd [p0,p1,p2] [] :=
 F.binds λa b c d e g us hl=>match us,hl with|[v0,v1,v2],_=>h a b c d e g v0 v1 v2
theorem df.b4(F:df K x qual st f fd)(h:∀kV doc pm an ay ct v0 v1 v2 v3,bindArgs (fnOf x qual (Q4 st) (x9 st) (i9 st) .none kV doc pm an ay ct) ⟨[v0,v1,v2,v3],[]⟩=pure [(p0,v0),(p1,v1),(p2,v2),(p3,v3)]:=by intros;rfl):Binds K fd [p0,p1,p2,p3] [] :=
 F.binds λa b c d e g us hl=>match us,hl with|[v0,v1,v2,v3],_=>h a b c d e g v0 v1 v2 v3
end L2
namespace L2
open PySem PySem.Spec PyProof.Rows
def vp(e:mZ)(kv:aC×Addr):Prop:=∃t,e.key=.str kv.1 t/\e.val=.ref kv.2
structure KTab(K:aF)(Pm:gN)(mg:aC->Option aE)(name:aC)(d:aA)(dz:List (aC×Addr)):Prop where
 m:mg name=av (.ref d)
 ex:∃es n,K.lookup d=av ⟨.type "dict",bh,.dict es n,#[]⟩/\lK Pm es.toList/\bR vp es.toList dz
 sys:(d==sysModules)=false
end L2
namespace L2
open PySem PySem.W
structure b9(K:fA)(mg:aC->Option aE)(x:aC)(st:aO)(f:aA)(fd:aK):Prop where
 F:df K x x st f fd
 m:mg x=av (.ref f)
def fnJ{kV}(X:K.In h)(G:h.Ns mainGlobals mg)(a:nsIn K mainGlobals x=av (av (.ref f)))(l:K.lookup f=av ⟨oc,od,.func (fnOf x x (Q4 st) (x9 st) (i9 st) .none kV dc pm an cd ct),sl⟩)(c:codeIn K cd x=true)(k:pR K (.ref f)=true):b9 K mg x st f (fnOf x x (Q4 st) (x9 st) (i9 st) .none kV dc pm an cd ct):=⟨b2i l c k,mg_of X G a⟩
structure k6(K:fA)(C:aA)(x qual:aC)(st:aO)(f:aA)(fd:aK):Prop where
 F:df K x qual st f fd
 me:Ly K C x f
def meJ{kV}(a:iI K (.ref C) x=av (av (.ref f)))(n:isFn K (.ref f)=true)(l:K.lookup f=av ⟨oc,od,.func (fnOf x qual (Q4 st) (x9 st) (i9 st) .none kV dc pm an cd ct),sl⟩)(c:codeIn K cd qual=true)(k:pR K (.ref f)=true):k6 K C x qual st f (fnOf x qual (Q4 st) (x9 st) (i9 st) .none kV dc pm an cd ct):=⟨b2i l c k,a,n,k⟩
def exK(o:excIn K c [.type "ValueError",.type "Exception",.type "BaseException",.type "object"] "ValueError.__new__"=true)(ga:iI K (.ref c) "__getattribute__"=av (av (.builtin "BaseException.__getattribute__")))(gn:iI K (.ref c) "__getattr__"=av bh)(ca:iI K (.ref c) "__class__"=av (av (.builtin "object.__class__")))(mo:mroIn K c (.type "object")=av true)(mb:mroIn K c (.type "BaseException")=av true):X4 K c:=⟨KO o,ga,gn,ca,mo,mb⟩
structure k7(K:fA)(mg:aC->Option aE)(x:aC)(c:aA):Prop where
 m:mg x=av (.ref c)
 k:X4 K c
theorem tpJ(l:K.lookup t=av ⟨.type "tuple",od,.seq vs n,sl⟩)(hs:vs.size<=9)(hv:Vals xs vs.toList)H:cq K H t xs:=.inr ⟨_,_,_,l,rfl,rfl,bF hs (by decide),hv⟩
def kdJ(b:K.lookup d=av ⟨.type "dict",bh,.dict es n,#[]⟩)(c:KeysLit Pm es.toList):Rr K Pm d:=⟨_,_,b,c⟩
def sgJ(a:nsIn K d z=av (av (.ref t)))(l:K.lookup t=av ⟨.type "tuple",od,.seq vs n,sl⟩)(hs:vs.size<=9)(hv:Vals xs vs.toList):∃t,nsIn K d z=av (av (.ref t))/\∀H,cq K H t xs:=⟨_,a,tpJ l hs hv⟩
end L2
namespace de
open PySem L2 Fr
theorem C9.ct(C:C9 P w K mg base n "come_to" ["amounts","tops"] (yP K) fa da):C9 P w K mg base n "come_to" ["amounts","tops"] (Gq K) fa da :=
 ⟨C.ok.imp λvs H Q E h=>by
  obtain⟨a,t,xs,ys,rfl,ha,ht,hl,hx,hy,k⟩:=h;exact⟨true,false,a,t,xs,ys,rfl,ha,ht,hl,λx f'=>(hx x f').mono (by decide),λy T_=>(hy y T_).mono (by decide),k⟩,C.b,C.k,C.m⟩
def e7r(F:Aj K "told_prices" uz f fd)(N:v8 mg)(G:Sg K w.params mg d)(Cl:CZ P w K mg base n "lowest" ["top","bottom"] Xd f1 d1)(gW:C9 P w K mg base n "come_to" ["amounts","tops"] (yP K) f2 d2):bf P w K mg base J8 (n+1) f fd ["house","sizes","amounts","bottom"] (va K):=e8h F N G Cl gW.ct
theorem c1a(RG:mg "law"=av (.ref fa))
    (aK_:mg "Kept"=av (.ref rb))
    (aB:mg "Board"=av (.ref CB))
    (u2:b9 K mg "_law_cell_at" VM f2 e2)
    (u3:b9 K mg "_law_draws" VN f3 e3)
    (u4:b9 K mg "_law_near" VO f4 e4)
    (u5:b9 K mg "_law_a_book" LR f5 e5)
    (u6:b9 K mg "house_of" VD f6 e6)
    (Eb:b9 K mg "swept" VE f11 IK)
    (m9:b9 K mg "greatest" S2 f15 YN)
    (u16:b9 K mg "house_rows" X2 f16 HN)
    (t_:b9 K mg "greatest_earned" LO f17 e17)
    (ua:b9 K mg "common_divisor" VB f18 e18)
    (gf:b9 K mg "lowest" VC f19 n6)
    (ub:b9 K mg "held_against" VF f20 e20)
    (Ec:b9 K mg "share" VG f21 e21)
    (Ed:b9 K mg "is_whole" VP f23 i5)
    (Ee:b9 K mg "are_amounts" Z9 f24 Lg)
    (nk:b9 K mg "is_house" VQ f25 e25)
    (Ef:b9 K mg "refuse_unfit" X7 f26 zm)
    (Ez:b9 K mg "with_one_more" V0 f27 z9)
    (Ff:b9 K mg "changes" RZ f28 F1)
    (uc:b9 K mg "greatest_floor" LQ f30 F3)
    (nq:b9 K mg "rim_of" VL f31 F4)
    (Fi:b9 K mg "levels" yf f32 F7)
    (Fl:b9 K mg "without" VH f33 F8)
    (Fp:b9 K mg "share_of_others" VI f34 F9)
    (nu:b9 K mg "over_one_bottom" l0 f35 RI)
    (Fq:b9 K mg "standing" t7 f36 Dm)
    (ud:b9 K mg "come_to" RM f37 e37)
    (Fs:b9 K mg "worths" yt f38 e38)
    (ue:b9 K mg "judged" yv f39 e39)
    (Ft:b9 K mg "compared" RX f40 e40)
    (Fu:b9 K mg "best_at" yw f41 e41)
    (Fv:b9 K mg "together" Sd f42 e42)
    (Fw:b9 K mg "merged" yx f43 e43)
    (Fx:b9 K mg "read_number" Z4 f44 e44)
    (Fy:b9 K mg "read_amounts" Y7 f45 kq)
    (ug:b9 K mg "is_any_house" W9 f46 e46)
    (Fz:b9 K mg "read_house" VU f47 e47)
    (FG:b9 K mg "is_book" VR f48 e48)
    (FH:b9 K mg "read_book" VV SM e49)
    (FJ:b9 K mg "numbers_text" Y1 SN e50)
    (FK:b9 K mg "house_text" VS SQ e51)
    (FN:b9 K mg "book_text" VT f52 e52)
    (ny:b9 K mg "told_prices" uz SS e56)
    (FP:b9 K mg "share_shown" RN f57 e57)
    (FQ:b9 K mg "greatest_given" LP f58 e58)
    (FR:b9 K mg "growth_shown" RW SU e59)
    (FV:b9 K mg "on_rim" yu SV e60)
    (FW:b9 K mg "come_together" yo SW e61)
    (FX:b9 K mg "mixed" yr f62 e62)
    (FZ:b9 K mg "_law_a_told" yy f63 e63)
    (MF:b9 K mg "law" M1 f64 e64)
    (u1:k6 K rb "__init__" "Kept.__init__" D0 f1 e1)
    (u7:k6 K CB "__init__" "Board.__init__" Ob f7 e7)
    (u8:k6 K CB "coming" "Board.coming" Wh f8 e8)
    (u9:k6 K CB "is_ahead" "Board.is_ahead" Wj f9 e9)
    (MJ:k6 K CB "going" "Board.going" Wi f10 GL)
    (MK:k6 K CB "exchange" "Board.exchange" W6 f12 Oy)
    (MN:k6 K CB "amounts" "Board.amounts" Wl f13 GR)
    (MP:k6 K CB "weights" "Board.weights" Wm f14 Ew)
    (M6:k6 K rb "turn_to" "Kept.turn_to" b8 f22 zf)
    (Nv:k6 K rb "come" "Kept.come" Se f29 F2)
    (Ny:k6 K rb "houses" "Kept.houses" R0 SR e53)
    (Nz:k6 K rb "shares" "Kept.shares" Q1 f54 e54)
    (N1:k6 K rb "rim" "Kept.rim" Sf f55 e55)
    (hc:e8.code=.ref Ct)
    (Aq:Dm.code=.ref Ct2)
    (T:v8 mg)
    (Js:TB K CB)
    (bm:nQ K CB=true)
    (bk:dX K (.ref CB)=true)
    (aw:TK K rb)
    (km_:nQ K rb=true)
    (kk:dX K (.ref rb)=true)
    (SG:Sg K w.params mg dS)
    (CF:mg "FIGURES"=av (.str Kw tFIG))
    (zs:mg "str"=bh)
    (eS:k7 K mg "NoHouse" a_)
    (bp:k7 K mg "NoBook" bq)
    (k8:k7 K mg "TooMany" bb)
    (m6:k7 K mg "NoText" cf)
    (vf:mg "MOST_AMOUNT"=av (.int 1000000000 ph))
    (ju:mg "MOST_HOUSES"=av (.int 16 pL))
    (uf:mg "MOST_FIGURES"=av (.int 10 nz))
    (xm:mg "MOST_KINDS"=av (.int 4 rD))
    (jb:YK K mg zB)
   :∃fd,(∀s v,lU s fd ⟨[v],[]⟩ [("script",v)])/\∀base,K.In base->base.Ns mainGlobals mg->QO mg base->(∀t∈[(Ct,Pt),(Ct2,Pt2)],oV base t.1 t.2)->bf P w K mg base J8 14 fa fd ["script"] (DW K Pt Pt2):=by
  cases RG.symm.trans MF.m;refine⟨e64,λs v=>?_,λbase _ _ BM hCH=>?_⟩
  . obtain⟨_,_,_,_,_,_,_,_,_,rfl,_⟩:=MF.F.ex
    exact .of_eq rfl
  have g1 (n:Nat):=d0y (P:=P) (w:=w) (base:=base) (mg:=mg) (n:=n) u1.F aw;have g2 (n:Nat):=b5t (P:=P) (w:=w) (base:=base) (n:=n) u2.F T;have g3 (n:Nat):=b1t (P:=P) (w:=w) (base:=base) (n:=n) u3.F T;have g4 (n:Nat):=b4E (P:=P) (w:=w) (base:=base) (n:=n) u4.F T;have g5 (n:Nat):=b3t u5.F T (g2 n) u2.F.b2 u2.F.kp u2.m (g3 n) u3.F.b3 u3.F.kp u3.m (g4 n) u4.F.b3 u4.F.kp u4.m;have g6 (n:Nat):=b7u (P:=P) (w:=w) (base:=base) (n:=n) u6.F T eS.k eS.m;have g7 (n:Nat):=b4m (P:=P) (w:=w) (base:=base) (n:=n) u7.F T Js;have g8 (n:Nat):=b0B (P:=P) (w:=w) (base:=base) (n:=n) u8.F hc (hCH _ (.head _)) BM T Js;have g9 (n:Nat):=b2r (P:=P) (w:=w) (base:=base) (mg:=mg) (n:=n) u9.F Js;have g10 (n:Nat):=b2X MJ.F T Js ⟨g9 n,u9.F.b4,u9.me⟩;have WW (n:Nat):=b1w (P:=P) (w:=w) (base:=base) (n:=n) Eb.F T;have g12 (n:Nat):=a6E MK.F Js ⟨WW n,Eb.F.b4,Eb.F.kp,Eb.m⟩;have g13 (n:Nat):=b4W (P:=P) (w:=w) (base:=base) (n:=n) MN.F T Js;have g14 (n:Nat):=b7Y (P:=P) (w:=w) (base:=base) (n:=n) MP.F T Js;have g15 (n:Nat):=a7f m9.F Js ⟨⟨bm,u7.me.1,u7.me.2,bk⟩,g7 (n+2),u7.F.b4,aB,⟨g8 n,u8.F.b1,u8.me⟩,⟨g10 (n+1),MJ.F.b2,MJ.me⟩,⟨g12 (n+1),MK.F.b3,MK.me⟩,⟨g13 (n+2),MN.F.b1,MN.me⟩,⟨g14 (n+2),MP.F.b1,MP.me⟩⟩;have g16 (n:Nat):=a5Z (P:=P) (w:=w) (base:=base) (n:=n) u16.F T SG;have g17 (n:Nat):=b0M t_.F T SG ⟨g15 n,m9.F.b3,m9.F.kp,m9.m⟩ ⟨g16 (n+4),u16.F.b2,u16.F.kp,u16.m⟩;have g18 (n:Nat):=b6B (P:=P) (w:=w) (base:=base) (n:=n) ua.F T;have xu (n:Nat):=b7t gf.F T ⟨g18 n,ua.F.b2,ua.F.kp,ua.m⟩;have g20 (n:Nat):=b5C ub.F ⟨g17 n,t_.F.b3,t_.F.kp,t_.m⟩ ⟨xu (n+4),gf.F.b2,gf.F.kp,gf.m⟩;have g21 (n:Nat):=b1g Ec.F ⟨g6 (n+6),u6.F.b2,u6.F.kp,u6.m⟩ ⟨g20 n,ub.F.b3,ub.F.kp,ub.m⟩;have g22 (n:Nat):=d0i M6.F T aw ⟨g21 n,Ec.F.b3,Ec.F.kp,Ec.m⟩;have g23 (n:Nat):=b5H (P:=P) (w:=w) (base:=base) (n:=n) Ed.F T;have g24 (n:Nat):=b4J Ee.F T ⟨_,vf⟩ ⟨g23 n,Ed.F.b1,Ed.F.kp,Ed.m⟩;have g25 (n:Nat):=b4A nk.F T ⟨g24 n,Ee.F.b3,Ee.F.kp,Ee.m⟩;have g26 (n:Nat):=b0s Ef.F bp.k bp.m ⟨g25 n,nk.F.b3,nk.F.kp,nk.m⟩;have g27 (n:Nat):=a8p Ez.F T k8.k k8.m ⟨_,ju⟩ ⟨g26 n,Ef.F.b3,Ef.F.kp,Ef.m⟩;have g28 (n:Nat):=c9b (P:=P) (w:=w) (base:=base) (n:=n) Ff.F T;have g29 (n:Nat):=d0M Nv.F aw ⟨g22 n,M6.F.b2,M6.me⟩ ⟨g27 (n+4),Ez.F.b4,Ez.F.kp,Ez.m⟩ ⟨g28 (n+8),Ff.F.b2,Ff.F.kp,Ff.m⟩;have g30 (n:Nat):=b2V uc.F T ⟨g15 n,m9.F.b3,m9.F.kp,m9.m⟩ ⟨g16 (n+4),u16.F.b2,u16.F.kp,u16.m⟩;have g31 (n:Nat):=b3q nq.F T ⟨g30 n,uc.F.b3,uc.F.kp,uc.m⟩;have g32 (n:Nat):=c9S Fi.F T ⟨g31 n,nq.F.b2,nq.F.kp,nq.m⟩;have Ta (n:Nat):=a8I Fl.F ⟨g6 n,u6.F.b2,u6.F.kp,u6.m⟩;have g34 (n:Nat):=c9V Fp.F ⟨g6 (n+6),u6.F.b2,u6.F.kp,u6.m⟩ ⟨Ta (n+5),Fl.F.b2,Fl.F.kp,Fl.m⟩ ⟨g20 n,ub.F.b3,ub.F.kp,ub.m⟩;have g35 (n:Nat):=e8T nu.F ⟨g18 n,ua.F.b2,ua.F.kp,ua.m⟩;have g36 (n:Nat):=c8K Fq.F Aq (hCH _ (.tail _ (.head _))) BM T jb ⟨g34 n,Fp.F.b3,Fp.F.kp,Fp.m⟩ ⟨g35 (n+6),nu.F.b1,nu.F.kp,nu.m⟩;have g37 (n:Nat):=e8Q (P:=P) (w:=w) (base:=base) (n:=n) ud.F T;have g38 (n:Nat):=e8e Fs.F T ⟨g35 n,nu.F.b1,nu.F.kp,nu.m⟩ ⟨g37 (n+1),ud.F.b2,ud.F.kp,ud.m⟩;have g39 (n:Nat):=e8f ue.F T ⟨g38 n,Fs.F.b2,Fs.F.kp,Fs.m⟩ ⟨xu (n+1),gf.F.b2,gf.F.kp,gf.m⟩;have g40 (n:Nat):=e8X (P:=P) (w:=w) (base:=base) (mg:=mg) (n:=n) Ft.F;have g41 (n:Nat):=e8V Fu.F T ⟨g39 n,ue.F.b2,ue.F.kp,ue.m⟩ ⟨g40 (n+3),Ft.F.b2,Ft.F.kp,Ft.m⟩;have g42 (n:Nat):=e9T (P:=P) (w:=w) (base:=base) (n:=n) Fv.F T;have g43 (n:Nat):=e9M Fw.F T ⟨_,vf⟩ ⟨g6 n,u6.F.b2,u6.F.kp,u6.m⟩ ⟨g42 n,Fv.F.b1,Fv.F.kp,Fv.m⟩;have g44 (n:Nat):=b3y (P:=P) (w:=w) (base:=base) (n:=n) Fx.F T ⟨_,uf⟩ ⟨_,CF⟩;have g45 (n:Nat):=b2w Fy.F T ⟨g44 n,Fx.F.b1,Fx.F.kp,Fx.m⟩;have g46 (n:Nat):=b5i ug.F T ⟨_,xm⟩ ⟨g25 n,nk.F.b3,nk.F.kp,nk.m⟩;have g47 (n:Nat):=b2v Fz.F T ⟨g45 (n+2),Fy.F.b1,Fy.F.kp,Fy.m⟩ ⟨g46 n,ug.F.b1,ug.F.kp,ug.m⟩;have g48 (n:Nat):=b7S FG.F T ⟨_,ju⟩ ⟨g46 n,ug.F.b1,ug.F.kp,ug.m⟩ ⟨g25 (n+1),nk.F.b3,nk.F.kp,nk.m⟩;have g49 (n:Nat):=b2y FH.F T m6.k m6.m ⟨g47 n,Fz.F.b1,Fz.F.kp,Fz.m⟩ ⟨g48 n,FG.F.b1,FG.F.kp,FG.m⟩;have g50 (n:Nat):=b5w (P:=P) (w:=w) (base:=base) (mg:=mg) (n:=n) FJ.F zs;have g51 (n:Nat):=b0m FK.F ⟨g50 n,FJ.F.b1,FJ.F.kp,FJ.m⟩;have g52 (n:Nat):=b2s FN.F ⟨g51 n,FK.F.b1,FK.F.kp,FK.m⟩;have g53 (n:Nat):=c8U (P:=P) (w:=w) (base:=base) (n:=n) Ny.F T aw;have g54 (n:Nat):=c8V (P:=P) (w:=w) (base:=base) (n:=n) Nz.F T aw;have g55 (n:Nat):=d1O N1.F aw ⟨g31 n,nq.F.b2,nq.F.kp,nq.m⟩;have g56 (n:Nat):=e7r ny.F T SG ⟨xu n,gf.F.b2,gf.F.kp,gf.m⟩ ⟨g37 (n+1),ud.F.b2,ud.F.kp,ud.m⟩;have g57 (n:Nat):=e8P FP.F ⟨g6 (n+5),u6.F.b2,u6.F.kp,u6.m⟩ ⟨g17 n,t_.F.b3,t_.F.kp,t_.m⟩ ⟨xu (n+4),gf.F.b2,gf.F.kp,gf.m⟩ ⟨g56 (n+3),ny.F.b4,ny.F.kp,ny.m⟩;have g58 (n:Nat):=b3T FQ.F T SG ⟨g15 n,m9.F.b3,m9.F.kp,m9.m⟩ ⟨g16 (n+4),u16.F.b2,u16.F.kp,u16.m⟩;have g59 (n:Nat):=e8x FR.F ⟨g6 (n+5),u6.F.b2,u6.F.kp,u6.m⟩ ⟨g58 n,FQ.F.b3,FQ.F.kp,FQ.m⟩ ⟨xu (n+4),gf.F.b2,gf.F.kp,gf.m⟩ ⟨g56 (n+3),ny.F.b4,ny.F.kp,ny.m⟩;have g60 (n:Nat):=e8w FV.F T ⟨g6 (n+5),u6.F.b2,u6.F.kp,u6.m⟩ ⟨g30 n,uc.F.b3,uc.F.kp,uc.m⟩ ⟨xu (n+4),gf.F.b2,gf.F.kp,gf.m⟩ ⟨g56 (n+3),ny.F.b4,ny.F.kp,ny.m⟩;have g61 (n:Nat):=e9j FW.F T ⟨xu n,gf.F.b2,gf.F.kp,gf.m⟩;have g62 (n:Nat):=e8i FX.F ⟨g35 (n+1),nu.F.b1,nu.F.kp,nu.m⟩ ⟨g61 n,FW.F.b3,FW.F.kp,FW.m⟩;have g63 (n:Nat):=e8m FZ.F T aw ⟨⟨g32 (n+4),Fi.F.b2,Fi.F.kp,Fi.m⟩,⟨g31 (n+5),nq.F.b2,nq.F.kp,nq.m⟩,⟨g36 n,Fq.F.b2,Fq.F.kp,Fq.m⟩,⟨g39 (n+8),ue.F.b2,ue.F.kp,ue.m⟩,⟨g41 (n+7),Fu.F.b2,Fu.F.kp,Fu.m⟩,⟨g43 (n+10),Fw.F.b2,Fw.F.kp,Fw.m⟩,⟨g49 (n+6),FH.F.b1,FH.F.kp,FH.m⟩,⟨g52 (n+9),FN.F.b1,FN.F.kp,FN.m⟩,⟨g53 (n+11),Ny.F.b1,Ny.me⟩,⟨g54 (n+11),Nz.F.b1,Nz.me⟩,⟨g55 (n+4),N1.F.b1,N1.me⟩,⟨g57 (n+5),FP.F.b3,FP.F.kp,FP.m⟩,⟨g59 (n+5),FR.F.b3,FR.F.kp,FR.m⟩,⟨g60 (n+5),FV.F.b3,FV.F.kp,FV.m⟩,⟨g62 (n+8),FX.F.b2,FX.F.kp,FX.m⟩⟩;exact b7G MF.F T zs aw ⟨⟨km_,u1.me.1,u1.me.2,kk⟩,g1,u1.F.b4,aK_⟩ ⟨⟨g5 11,u5.F.b4,u5.F.kp,u5.m⟩,⟨g29 3,Nv.F.b2,Nv.me⟩,⟨g63 0,FZ.F.b4,FZ.F.kp,FZ.m⟩⟩
end de
namespace PySem.W.Fast
def tw13572765413299851494:=0
def tw1322476451273462672:=0
def tw11947428016702055722:=0
def tw2990787554599307517:=0
def tw15714791331002641087:=0
def tw3970711588778985297:=0
def tw14431600078704189051:=0
def tw11260203808393337003:=0
def tw6037702701808627856:=0
def tw8207822972268465910:=0
def tw16468681988631626223:=0
def tw13947071840921278360:=0
def tw16698877338634203310:=0
def tw11872641419681587591:=0
def tw12043619722789509650:=0
def tw17167296618240081653:=0
def tw3168788794247728342:=0
def tw7368229321165969182:=0
def tw16343416562039334476:=0
def tw9335645850856784583:=0
def tw5478273806733980432:=0
def tw16989971603077787511:=0
def tw3049501331992330502:=0
def tw18295362244347456591:=0
def tw10170586521797394504:=0
def tw13340919453477021102:=0
def tw8842542687551097:=0
def tw719695582776702880:=0
def tw9376070601396954541:=0
def tw12730830974571419392:=0
def tw6219282246571604114:=0
def tw16136524249471469817:=0
def tw8744138135541666054:=0
def tw573328291524902770:=0
def tw12577557552523556286:=0
def tw8720970080712442345:=0
def tw15504449431466966851:=0
def tw8494938773678454769:=0
def tw10534544862311054965:=0
def tw2243601089198226309:=0
def tw5495291288029722267:=0
def tw16218008161567638520:=0
def tw5362129750641644081:=0
def tw16280379870008140512:=0
def tw7746641483434614768:=0
def tw3753453776227324524:=0
def tw17411348875042013009:=0
def tw8673335846298173376:=0
def tw69104160747235662:=0
def tw3706456586588776101:=0
def tw5063860411735629893:=0
def tw8924810911050298158:=0
def tw11147545879836624049:=0
def tw14537630375546920890:=0
def tw12764818881866088921:=0
def tw9319780696928182558:=0
def tw10974856600772238880:=0
def tw14927174541113273359:=0
def tw8335466623201678125:=0
def tw4749205474810236054:=0
def tw17830615579796730091:=0
def tw17223861542158778631:=0
def tw15190286866713979233:=0
def tw11156260928099590588:=0
def tw4896783395344334719:=0
def tw17242710536457029163:=0
def tw2898880657538281442:=0
def tw12600941933348565425:=0
def tw17626005948502127367:=0
def tw14994163555120717456:=0
def tw12606751947157276115:=0
def tw13821699563810225653:=0
def tw9117488277687779396:=0
def tw701084825619725868:=0
def tw9715214706218562589:=0
def tw15121968721801331726:=0
def tw12057885366308660705:=0
def tw3122572354886696399:=0
def tw7209301952228364465:=0
def tw8650308835373970790:=0
def tw9256117422066508913:=0
def tw9124217000997380537:=0
def tw13934633391494902922:=0
def tw12663156926824434836:=0
def tw10238506685086740166:=0
def tw9019703314958697128:=0
def tw3470502870031222500:=0
def tw11208773080299000214:=0
def tw11486899847893010801:=0
def tw7881159797170610789:=0
def tw16888160030122136877:=0
def tw14408736677880116660:=0
def tw7396382188430679329:=0
def tw17314936460757457944:=0
def tw17526692700173780351:=0
def tw3436466538791981299:=0
def tw1362233311947245860:=0
def tw5154693596712386402:=0
def tw5709885978494553120:=0
def tw10341540371688222916:=0
def tw11084026758607199069:=0
def tw14313409516367529455:=0
def tw5627207934220721023:=0
def tw14504602218260318656:=0
def tw6241480244722157468:=0
def tw14277630313735257256:=0
def tw16913210440561997160:=0
def tw14264061682031720620:=0
def tw246213539196001943:=0
def tw9210781200846114860:=0
def tw6172581349567181263:=0
def tw293936495784634092:=0
def tw4063662266057751249:=0
def tw4034449757489753462:=0
def tw10812484562079682865:=0
def tw7626796287147586517:=0
def tw16860860960709649231:=0
def tw9239226725233032723:=0
def tw11202981691322587947:=0
def tw10381066761706844722:=0
def tw14421543567044214328:=0
def tw9310486535846587998:=0
def tw11431990649534603034:=0
def tw3260378890593696189:=0
def tw2203787923705722983:=0
def tw6652196224387991623:=0
def tw16297172763060138021:=0
def tw7800896304037160767:=0
def tw3992774699587109965:=0
def tw17939581262772971456:=0
def tw3350916456593006005:=0
def tw2120825011495371987:=0
def tw16769563819684591814:=0
def tw12175150462629980399:=0
def tw2190601538406708002:=0
def tw3708020520563952800:=0
def tw12989772274564052588:=0
def tw4081934501715030709:=0
def tw7444093215512643998:=0
def tw3590973305812842825:=0
def tw11436073675908654274:=0
def tw5741040371840367565:=0
def tw10768794467721223094:=0
def tw16150888160885504959:=0
def tw12871768373538853061:=0
def tw7241270727101700764:=0
def tw2370262693949713908:=0
def tw1149370883051994754:=0
def tw3276788133207651235:=0
def tw2016701339396445927:=0
def tw11320396514578074978:=0
def tw3058230557716233677:=0
def tw17084828050939638451:=0
def tw4339923263267292216:=0
def tw2454756840549834715:=0
def tw15390830049587790152:=0
def tw10524261259690129057:=0
def tw1340906473148200612:=0
def tw12203738776949770257:=0
def tw15492529633871975958:=0
def tw5059995713358322419:=0
def tw3481760833779180493:=0
def tw6581249897481879020:=0
def tw8050297317795222298:=0
def tw16885697087473837901:=0
def tw17399401459143492457:=0
def tw5347907385268063557:=0
def tw3899361477616835660:=0
def tw2556759783542707360:=0
def tw2569270928631234808:=0
def tw14767959442984522593:=0
def tw3035874946409842410:=0
def tw2386994112827071126:=0
def tw10326313428497351217:=0
def tw48661675573044325:=0
def tw11600877746013282871:=0
def tw18162337194879670339:=0
def tw16347253613953429582:=0
def tw8772201478729041530:=0
def tw7831183316221004580:=0
def tw5717604305711084496:=0
def tw14874312705924628784:=0
def tw13917670618786469323:=0
def tw3467877883015921959:=0
def tw161194766131369244:=0
def tw17760209980472816396:=0
def tw8292970744961644856:=0
def tw10490954334049219291:=0
def tw6849534043541032421:=0
def tw5168378331040094113:=0
def tw13669174384743537688:=0
def tw5359457406670885848:=0
def tw14234144945374532180:=0
def tw11973352428899772381:=0
def tw3121911919289635227:=0
def tw10195660435034399031:=0
def tw10759209984605798398:=0
def tw13836542908340570371:=0
def tw13718344607454301630:=0
def tw10424232468931781137:=0
def tw13200750503703575392:=0
def tw15174644493842635705:=0
def tw17960414444067873513:=0
def tw17555593652222238376:=0
def tw24993947470282913:=0
def tw14687319871451903047:=0
def tw12879019464475976638:=0
def tw12042273534749685360:=0
def tw1409601434345024710:=0
def tw11192621094637555298:=0
def tw6514433263660703324:=0
def tw706877916955691607:=0
def tw16462133150022388840:=0
def tw7217167169953781168:=0
def tw9387624178551403309:=0
def tw15643991079902665367:=0
def tw12162080306335902125:=0
def tw912465930809705229:=0
def tw15092307845111098602:=0
def tw14438959605225066090:=0
def tw11035687461355274006:=0
def tw18267125652651968437:=0
def tw11908729907130243682:=0
def tw13771138838778091466:=0
def tw1452347880195471677:=0
def tw5167262024853206127:=0
def tw11572453653065955113:=0
def tw15432830987858661376:=0
def tw9025776255954458591:=0
def tw9265278313589844927:=0
def tw3351604465552790186:=0
def tw9133904961632699621:=0
def tw10386997474624342542:=0
def tw11597497584315109662:=0
def tw13937949506204996205:=0
def tw11043964338954531597:=0
def tw10000045689914466456:=0
def tw6953961752923656070:=0
def tw11446897068738071660:=0
def tw13287684609158505531:=0
def tw11485272824334680255:=0
def tw3868577100314915891:=0
def tw3204179253099055582:=0
def tw15638310754751941528:=0
def tw12329874297438851623:=0
def tw16882296380078521399:=0
def tw14000062869272287153:=0
def tw16370605362275577603:=0
def tw18446624723995146777:=0
def tw7778166757582050392:=0
def tw8734003277482435521:=0
def tw1369105936184407873:=0
def tw9996953407335513753:=0
def tw1423234804068770072:=0
def tw14527698566767459910:=0
def tw9630006978775500113:=0
def tw16774535648883069334:=0
def tw15991081510342071969:=0
def tw6601876768449124320:=0
def tw7898239897371064881:=0
def tw8912232010637678990:=0
def tw9478897221505117163:=0
def tw7393515557412451082:=0
def tw11824625979313436027:=0
def tw305104057486446250:=0
def tw12753627541281671041:=0
def tw380945514212264343:=0
def tw18416972386331921357:=0
def tw8812397143315364958:=0
def tw12680414672295527133:=0
def tw979519346625577239:=0
def tw13218149638061036868:=0
def tw9406555611062192270:=0
def tw7148535981140765014:=0
def tw5698502106525887032:=0
def tw5195486483148189302:=0
def tw8475338516640010290:=0
def tw4682762874947619760:=0
def tw7921361503961425954:=0
def tw11619039314861821937:=0
def tw13413478376580529038:=0
def tw16614831543439804239:=0
def tw3496967585962340999:=0
def tw13965280262476603116:=0
def tw10332152488120411860:=0
def tw3728648621232426658:=0
def tw1371666510484334343:=0
def tw6548032162741804905:=0
def tw7730641352203601188:=0
def tw8645837459300283316:=0
def tw13167458894705382589:=0
def tw3262266708931654223:=0
def tw4618980478653302855:=0
def tw8612536951557103453:=0
def tw7227972327116402661:=0
def tw10637741965398684065:=0
def tw14154257830194009545:=0
def tw11465263265326899661:=0
def tw2496542250821234715:=0
def tw15811698411242507820:=0
def tw16824973843075860170:=0
end PySem.W.Fast
namespace de
open PySem L2 Fr
theorem walk{l:W.OpenLaw}{q:aM}{loose:List aC}{Ge:(aC->Option aE)->aJ->Prop}{ye:aL->aJ->Prop}{d:DefRec}{K:gN->aF}{Ct Pt Ct2 Pt2:aA}(mm:Pt2≠Pt)(hn:l.most=av 63)(zF:d.params.defaults=[])
  (hY:∀(w:aL)(h:aJ),ye w h->(K w.params).In h/\∀t∈[(Ct,Pt),(Ct2,Pt2)],h.get? t.2=av (oW #[]))
  (hC:∀(w:aL),∀t∈[(Ct,Pt),(Ct2,Pt2)],No (K w.params) t.1 t.2=true/\(K w.params).lookup t.2=bh)
  (F:∀(w:aL)(mg:aC->Option aE)(fa:aA)(h:aJ),(K w.params).In h->h.Ns mainGlobals mg->mg d.name=av (.ref fa) →
   ∃fd:aK,(∀(s:aG)(u:aE),lU s fd ⟨[u],[]⟩ [("script",u)])/\∀base:aJ,(K w.params).In base->base.Ns mainGlobals mg->QO mg base->(∀t∈[(Ct,Pt),(Ct2,Pt2)],oV base t.1 t.2)->bf l.prog w (K w.params) mg base J8 14 fa fd ["script"] (DW (K w.params) Pt Pt2)) :
  W.WalkO q loose Ge ye l.row.toRowW d [] (λf vs=>Fa f vs) :=
 L2.aao (n:=63) (k:=14) (x:="script") (Ts_:=[(Ct,Pt),(Ct2,Pt2)]) (CX:=λ_=>J8) (sp:=λw=>DW (K w.params) Pt Pt2) hn (by decide) zF ⟨rfl,rfl,by decide,by decide⟩ hY hC F (λ_ _ a ns hl hT hS=>⟨a,ns,rfl,hS,hl,.inl (hT _ (.head _)),.inl (hT _ (.tail _ (.head _))),mm,λ_=>rfl⟩) λ_ _ _ _ _ z=>z
end de
open PySem PySem.W PyProof.Rows
set_option maxRecDepth 100000 in
set_option maxHeartbeats 0 in
theorem PySem.Challenge.cw_rimhouse_k38_lists_of_ones_own_holds : PySem.Challenge.rw_rimhouse_k38_lists_of_ones_own.Holds := by
  w_on;o_law;km_head;(case hw=>w_witness2)
  k_fill
  refine' de.walk (l:=PySem.Challenge.rw_rimhouse_k38_lists_of_ones_own) (Ct:=_) (Pt:=207) (Ct2:=_) (Pt2:=447) (by decide) rfl rfl ?Y ?C ?F
  case Y=>exact λw h Y=>⟨W.km_in_of Y,λt ht=>by
    rcases bH.mp ht with rfl|ht
    . exact W.km_tabs_of Y _ (.tail _ (.head _))
    . rw[cJ.mp ht];exact W.km_tabs_of Y _ (.head _)⟩
  case F =>
    intro w mg fa h KX G zG;apply de.c1a zG
    (case aK_|aB=>(refine' mg_of KX G ?_;k_is))
    (case u2|u3|u4|u5|u6|Eb|m9|u16|t_|ua|gf|ub|Ec|Ed|Ee|nk|Ef|Ez|Ff|uc|nq|Fi|Fl|Fp|nu|Fq|ud|Fs|ue|Ft|Fu|Fv|Fw|Fx|Fy|ug|Fz|FG|FH|FJ|FK|FN|ny|FP|FQ|FR|FV|FW|FX|FZ|MF=>(refine' L2.fnJ KX G ?a ?l ?c ?k;(case a|l|c|k=>k_is)))
    (case u1|u7|u8|u9|MJ|MK|MN|MP|M6|Nv|Ny|Nz|N1=>(refine' L2.meJ ?a ?n ?l ?c ?k;(case a|n|l|c|k=>k_is)))
    (case hc|Aq=>exact rfl)
    (case T=>(constructor<;>(refine' mg_none_of KX G ?_;k_is)))
    (case Js=>(refine'⟨⟨?_,?_,?_,?_⟩,?_,?_,?_,?_,?_⟩<;>(first|k_is|(unfold L2.dg;k_is))))
    (case bm|bk=>k_is)
    (case aw=>(refine'⟨⟨?_,?_,?_,?_⟩,?_,?_,?_,?_,?_,?_⟩<;>(first|k_is|(unfold L2.dg;k_is))))
    (case km_|kk=>k_is)
    (case SG=>(refine'⟨mg_of KX G ?a,L2.kdJ ?b ?c,?d⟩;(case a|b=>k_is);(case c=>k_keys);(case d=>rintro z (rfl|rfl|rfl|rfl)<;>(refine' L2.sgJ ?a ?l ?s ?v;(case a=>k_is);(case l=>k_is);(case s=>decide);(case v=>(repeat(first|exact .nil|refine' .cons ⟨_,rfl⟩ ?_)))))))
    (case CF=>(refine' mg_of KX G ?_;k_is))
    (case zs=>(refine' mg_none_of KX G ?_;k_is))
    (case eS|bp|k8|m6=>(refine'⟨mg_of KX G ?a,L2.exK ?b ?c ?d ?e ?f ?g⟩;(case a|c|d|e|f|g=>k_is);(case b=>k_exc)))
    (case vf|ju|uf|xm=>(refine' mg_of KX G ?_;k_is))
    (case jb=>(refine'⟨mg_of KX G ?a,L2.tpJ ?l ?s ?v⟩;(case a=>k_is);(case l=>k_is);(case s=>decide);(case v=>(repeat(first|exact .nil|refine' .cons ⟨_,rfl⟩ ?_)))))
  case C=>exact λw t ht=>(bH.mp ht).elim (λz=>by subst z;exact⟨by kernel_rfl,by kernel_rfl⟩) (λz=>by rw[cJ.mp z];exact⟨by kernel_rfl,by kernel_rfl⟩)
