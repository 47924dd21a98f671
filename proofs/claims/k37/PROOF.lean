import PyProof.Rows.All
import Wide.All
import OpenK.AllK
import Wide.FinOn
import Lean
import PyProof.EqAt
import PyProof.EqKinds
import PyProof.TupleCall
import PyProof.NeData
import PyProof.ZipIter
import PyProof.EnumMake
import PyProof.EnumFor
import KE.KMinKey
import KE.KUnpack
import KE.KNestM
import PyProof.AssignAttr
import KE.KLam
import PySem.Challenge.RW_rimhouse_k37_numbers_of_none_at_all_door
set_option Elab.async false
set_option maxHeartbeats 16000000
set_option linter.all false
set_option maxRecDepth 100000
open Array renaming getElem?_eq_some_iff->oO,length_toList->rL,toList->rN,getElem?_eq_getElem->wB
open Bool renaming false_ne_true->cS,eq_false_iff->eW,and_eq_true->fV,eq_iff_iff->jR,false_eq_true->nA,noConfusion->uH,and_true->vT
open Classical renaming byContradiction->kW
open False renaming elim->dD
open ForInStep renaming yield->nB
open Iff renaming rfl->oJ
open Int renaming mul_comm->bJ,mul_assoc->bK,le_of_lt->bR,toNat_natCast->bW,mul_zero->cC,le_refl->dR,mul_nonneg->eE,mul_pos->eF,emod_lt_of_pos->eR,mul_neg->eY,add_mul->fE,mul_le_mul_of_nonneg_right->fP,add_zero->gP,neg_mul->gZ,zero_mul->hU,emod_nonneg->hX,mul_one->iE,one_mul->jJ,mul_add->kQ,mul_sub->kS,mul_le_mul_of_nonneg_left->kU,lt_of_lt_of_le->kY,zero_add->lW,lt_of_le_of_lt->mG,natAbs_neg->mI,mul_eq_zero->oH,gcd->qI,natAbs_mul->qJ,eq_of_mul_eq_mul_right->qK,le_of_mul_le_mul_right->qQ,le_trans->qR,toNat_of_nonneg->qW,fdiv_eq_ediv_of_nonneg->rY,le_of_dvd->uP,dvd_mul_of_dvd_left->uQ,mul_ediv_cancel_left->uR,mul_ediv_cancel'->uS,mul_dvd_mul_left->uT,natAbs_dvd_natAbs->uU,mul_le_mul->vD
open List renaming length_map->aH,getElem?_map->aQ,range->aR,getElem?_eq_getElem->aV,getD_eq_getElem?_getD->aZ,replicate->bA,mem_cons->bD,length_append->bF,mem_map->bL,mem_of_getElem?->bN,map_map->bO,getElem?_eq_some_iff->bP,length_replicate->bQ,mem_append->bU,not_mem_nil->bX,getElem?_set_ne->bY,getElem?_range->bZ,size_toArray->cG,map_cons->cJ,getElem?_eq_none->cK,mem_cons_of_mem->cQ,length_take->cU,map_append->cV,mem_singleton->cX,getElem?_append_left->dB,length_set->dG,getElem?_set_self->dI,mem_append_right->dJ,sum_cons->dO,getElem?_append_right->dP,zipWith->dQ,mem_cons_self->dU,zipWith_cons_cons->dX,mem_range->dY,ext_getElem?->eD,cons_append->eV,length_drop->eZ,lookup_cons->fA,getElem_mem->fB,length_range->fF,length_cons->fL,length_singleton->fN,getElem?_replicate->fU,map_congr_left->fX,take_of_length_le->gF,mem_of_mem_take->gR,mem_of_mem_drop->gS,append_assoc->gX,zip->iA,mem_append_left->iC,mem_filterMap->iF,lookup->iI,replicate_succ->iK,forIn_cons->iM,length_nil->iS,getElem?_of_mem->iT,append_nil->jC,nil_append->jF,all_eq_true->jG,forIn_nil->jH,set_comm->jP,length->jW,length_zipWith->kH,filterMap_cons->lC,flatten_cons->lM,take_succ->lP,range_succ->lX,mem_filter->mP,nodup_cons->mY,of_mem_zip->mZ,zipIdx_cons->nR,zipIdx_nil->nU,take_length->oE,drop_zero->oF,mem_or_eq_of_mem_set->oK,getElem?_eq_none_iff->oR,all_cons->pK,any_cons->pL,foldl->pM,map_nil->pQ,getElem_of_mem->pW,any_eq_true->pX,length_pos_iff->pY,filter_append->qO,length_filter_le->qP,map_set->qT,dropLast_concat_getLast->qY,map->qZ,getElem?_take_of_lt->sK,take_succ_eq_append_getElem->tV,range_succ_eq_map->vA,getElem?_drop->vB,set_set->vC,getElem?_zipWith->vF,mem_set->vH,map_take->vJ,mem_replicate->vL,eq_nil_of_length_eq_zero->vN,filterMap_append->wD,length_zip->wF,all_map->wK,forIn_toArray->wL
open List.Pairwise renaming nil->tS
open Nat renaming le_refl->aU,lt_of_lt_of_le->bM,ne_of_lt->cF,lt_irrefl->cN,le_trans->cO,zero_le->dA,ne_of_gt->eH,lt_of_le_of_lt->eJ,le_of_lt->fJ,le_add_right->gN,sub_self->hV,lt_succ_self->jB,add_sub_cancel_left->jL,lt_succ_of_lt->jZ,pow_le_pow_right->lV,min_le_left->mJ,le_succ->mX,min_eq_left->oG,succ_mul->pP,le_of_not_lt->pS,log2_lt->pZ,not_lt_zero->qS,pow_pos->qX,le_of_eq->sC,mul_comm->tG,lt_of_succ_le->tK,succ_ne_self->uO,le_antisymm->vE,pow_add->vK,add_assoc->vM,pow_lt_pow_right->vO,max_le->vS,not_lt->wI,sub_zero->wJ,min_eq_right->wP
open Ne renaming symm->bI
open Option renaming getD_some->gE,map_some->hW,getD_none->sY,none->tJ
open Option.some renaming inj->bG
open Or renaming inl->aM,inr->fO
open PyProof.Rows renaming envOfC->dE,boot_list->fG,IsTup->fT,envOfC->fY,boot_isinstance->fZ,AllBare->gA,IsTupIter->iO,callWith_type1->iZ,boot_tuple->jK,Call_->jQ,IntsAre->lN,boot_min->mF,joinParts_cons->nJ,slot_tupleiter_next->nL,assignInOrder_cons->oY,boot_enumerate->qH,boot_int->qU,boot_max->qV,Constant_none->rH,assignInOrder_nil->rO,floordiv_int->rX,subscriptTail_builtinR->sX,JoinedStr_many->uB,FormattedValue_plain->uC,formatField_int_small->uD,joinParts_nil->uG,entry_tupleiter_next->uJ,args_tupleiter_next->uK,get?_update_seq->uX,boot_range->vG,boot_all->wE,joinParts_consE->wO,callWith_builtin1->xO,callWith_kw->yI,boot_sum->yK,boot_bool->yL,boot_any->yM
open PyProof.Rows.Boot renaming abs->yJ
open PyProof.Rows.IsTup renaming new->oZ
open PySem renaming Addr->aA,Value->aC,Shared->aD,wpAny_bind->aF,Heap->aG,World->aI,FuncData->aJ,Program->aL,Expr->aN,Stmt->aO,Paired->aS,wpAny_pure->aT,Around->aY,IsPair->bH,Scope->bS,wpAny_field->cA,boot_len->cD,Paired->cW,wpAny_mono->cZ,IsZip->dN,wpAny_setField_rec->dW,PyData->eL,wpAny_seqItems->eM,IsEnum->eX,ZipApart->fD,wpAny_holding->fK,wpAny_letGo->fW,wpAny_truthy_bool->gB,Builtin->gH,wpAny_onRaise->gM,wpAny_standAt->gU,wpAny_rule->iD,Result->iG,BindsTo->iJ,Params->iL,wpAny_callSpecial?_slot->iP,wpAny_call_entry->iQ,Model->iW,wpAny_passesOwn->iY,wpAny_Call_Name_kw->jD,NameKind->jE,wpAny_loadPart_at->jI,sizeLine_eq->jS,codeAny_mono->jV,Arguments->jX,wpAny_updateSeq_pair->kA,wpAny_pyIter_enum->kJ,wpAny_tryCatch->kP,wpAny_execs_nil->lD,wpAny_newObj_type->lE,CmpOp->lF,wpAny_call->lH,mem_of_lookup->lJ,wpAny_comprehension_free->lO,Fin->lQ,wpAny_pyIter_zip->lU,wpAny_assign_Name->mQ,wpAny_pyIter_list->mS,pushCells_keeps->nD,strLen_append->nK,wpAny_setField->nN,wpAny_newTuple->nV,wpAny_attempt->nX,Within->oS,wpAny_Name->oW,wpAny_execs_cons->oX,Keyword->pE,seqIndex_of->pH,seqIndex_neg->pI,call_meets->pO,call->pT,exec_Assign_Name_used->pU,codeAny_builtin->qB,callType_new->qF,wpAny_letOwnedTupleGo_enum->qG,wpAny_updateSeq->qL,IsEnumOut->rB,wpAny_bindName->rP,wpAny_pyIter_tuple->rR,rangeSize_one->rT,call_range_1->rV,intBits_le_64->rW,wpAny_loadPart->sA,name_of_addr->sJ,codeAny_call_function->sL,wpAny_newFunctionEnv_cells->sN,codeAny_func->sO,concat_meets->sP,noFill_tuple_add->sQ,seq_tuple_add->sR,evalPart_none->sW,call_list_seq->tD,wpAny_tests_nil->tM,codeAny_loop->tN,compTurn_list->tO,cellsFrom_ok->tR,codeAny_compStart_list->tT,eval_ListComp->tU,codeAny_call_builtin->tY,int_text_length_le->uE,ofString_length->uF,wpAny_looks_onW->uI,wpAny_isInstance->uM,isSubtype_stop->uN,wpAny_evalAll_cons->uZ,sub_enumerate->vV,wpAny_pyNext_enum_endD->wC,passOn->wG
open PySem.Around renaming under->pC,frames_deeper->pG,under_plainId->uW
open PySem.AutoListH renaming list___mul___list_int_3->yG
open PySem.Builtin.Builtins renaming bindParams->uY
open PySem.Builtin.Int renaming intBits->tX
open PySem.Builtin.List renaming listTooLong->pN
open PySem.Builtin.Range renaming rangeSize->rS
open PySem.Builtin.SmallTypes renaming nextOf->cP,ownedTupleIsFree->gK,ownedTupleHandOut->kF,calledThroughType->vU
open PySem.Calls renaming Name_function_global->rJ,spliced_cons->sH,evalArgs_plain->tE
open PySem.CmpOf renaming ints_lt->tW
open PySem.Code renaming isFrame->pD,frames->sG
open PySem.Data renaming fields->rQ,dict->vP
open PySem.DictEntry renaming refKey->xM
open PySem.Env renaming kindOf->tL
open PySem.EqMixed renaming eq_bool_str->wV,eq_int_str->wX,eq_str_bool->wZ,eq_str_int->xA,ne_bool_str->xG,ne_int_str->xI,ne_str_bool->xK,ne_str_int->xL
open PySem.EqNone renaming eq_none_none->wQ,eq_none_bool->wR,eq_none_int->wS,eq_none_str->wT,eq_bool_none->wU,eq_int_none->wW,eq_str_none->wY,ne_none_none->xB,ne_none_bool->xC,ne_none_int->xD,ne_none_str->xE,ne_bool_none->xF,ne_int_none->xH,ne_str_none->xJ
open PySem.F renaming slot_zip_next->iR,plain_min_loop->kO,plainAttrs_list->lY,slot_list_append->lZ,type_list_append->mD,entry_zip_next->nY,args_zip_next_1->nZ,slot_enumerate_next->oP,slot_gs_get->qA,slot_tuple_add->sS,entry_tuple_add->sU,args_tuple_add_2->sV,slot_int_rmul->tF,excAttr_ValueError->tZ,entry_min_loop->uV,called_enumerate->vW,typeCall_enumerate_1->vX,newCall_enumerate_1->vY,args_object_init_2->vZ,entry_enumerate_new->wA,entry_enumerate_next->wM,args_enumerate_next_1->wN
open PySem.Heap renaming lt_size->bC,get?_push_of_some->bE,get?_push_size->cI,size_push->eQ,SameBut->iX,get?_update_other->jY,ExtBut->lT,get?_update_self->pJ,FlyingW->uA,FunFrames->wH
open PySem.Heap.IsSliceOf renaming new->xP
open PySem.Heap.Ns renaming new->tQ
open PySem.Heap.SameBut renaming update->lS
open PySem.IsL renaming update->yF
open PySem.NameKind renaming free->eK,cell->gY
open PySem.Obj renaming mapSeq->gD,data_mapFields->nQ,isFreed_of_fields->uL
open PySem.Paired renaming length->dH
open PySem.PassesOwn renaming never->fQ
open PySem.PyData renaming eqv->dZ,canLay0->eG,canLayAll0->eN,depthAll->fH,eqvAll->gQ,depth->hZ,int->oM
open PySem.SeqAt renaming EqAt->sZ
open PySem.SeqAt.EqAt renaming int_str->rC,str_int->rD,same->xQ,none_bool->xR,none_int->xS,none_str->xT,bool_none->xU,bool_bool->xV,bool_int->xW,bool_str->xX,int_none->xY,int_bool->xZ,int_int->yA,str_none->yB,str_bool->yC,str_str->yE
open PySem.Shared renaming heap->oA
open PySem.Str renaming ofString->gJ,empty->jU
open PySem.Value renaming ref->cY,int->fR,none->gT,str->kZ,builtin->lR,bool->mK,float->oQ,bytes->rE,type->rF
open PySem.Value.ref renaming inj->qD
open PySem.Value.type renaming inj->yH
open PySem.W renaming Frag->aE,nsIn->aW,mg_of->aX,findIn->bB,kitOne->bV,keepIn->dL,mroIn->dM,isFn->eI,mg_none_of->eO,hideAll->eP,Frag->eU,kia_one->fM,mroIn->gG,fnOf->gW,instObj->iB,emptyDict->iH,findIn->iN,tabObj->jM,fnOf->jN,excIn->jO,plainGet->jT,CodeHd->kK,tabObj->kL,hasDictIn->lG,callWith_K->lI,codeIn->lK,hideAll_get->mO,lookIn->mU,plainOver->mV,makesIn->mW,looks_mroIn->nF,kla_obj->oB,methodObj->oU,of_hideAll->oV,plainGet_of->pA,takerIn->pB,cellsFrom_some->pF,OpenLaw->pR,looks_findIn->qC,OpenLaw->rA,hideAll_none->rG,handedIn->rZ,specialIn->sB,kitx_list->sD,kitx_tuple->sE,kitx_dict->sF,methodCall_KW->sI,codeRec_of->sM,codeHdIn->vQ,codeHd_of_K->vR
open PySem.W.WData renaming int->tH
open PySem.W.WShape renaming has->tI
open PySem.Walks renaming list->pV
open PySem.Within renaming cons->xN
open Sum renaming inl->iU,inr->iV
open True renaming intro->jA
namespace L2
open PySem PySem.Spec PyProof.Rows
abbrev Key:=Sum Int Str
def b2j:Key->aC->Bool
 | .inl k,v=>Value.isInt k v
 | .inr x,v=>Value.isStrOf x v
def b6y (w:aI):Key->Int
 | .inl k=>hashInt k
 | .inr x=>hashStr w x
theorem C6:∀ {k:Key} {v:aC},b2j k v=true->(∃ i t,k=iU i/\v=fR i t)\/(∃ x t,k=iV x/\v=kZ x t)
 | .inl i,v,h=>by
  obtain ⟨t,e⟩:=Value.isInt_shape (k:=i) (v:=v) h;exact .inl ⟨i,t,rfl,e⟩
 | .inr x,v,h=>by
  obtain ⟨t,e⟩:=Value.isStrOf_shape (x:=x) (v:=v) h;exact .inr ⟨x,t,rfl,e⟩
theorem b2U (a b:Int):decide ((iU a:Key)=iU b)=(a==b):=by
 by_cases e:a=b
 ·subst e; simp
 ·have h:¬ (iU a:Key)=iU b:=λ q=>e (Sum.inl.inj q)
  rw [decide_eq_false h];exact (beq_eq_false_iff_ne.mpr e).symm
theorem b3x (a b:Str):decide ((iV a:Key)=iV b)=decide (a=b):=by
 by_cases e:a=b
 ·subst e; simp
 ·have h:¬ (iV a:Key)=iV b:=λ q=>e (Sum.inr.inj q)
  rw [decide_eq_false h,decide_eq_false e]
theorem b3w (a:Int) (b:Str):decide ((iU a:Key)=iV b)=false:=decide_eq_false (λ q=>nomatch q)
theorem b2Y (a:Str) (b:Int):decide ((iV a:Key)=iU b)=false:=decide_eq_false (λ q=>nomatch q)
def a6q (prog:aL) (w:aI):PySem.KeyKind prog w Key where
 is:=b2j
 hash:=b6y w
 inj:=λ v a b ha hb=>by
  rcases C6 ha with ⟨i,t,rfl,rfl⟩ | ⟨x,t,rfl,rfl⟩
  ·rcases C6 hb with ⟨j,u,rfl,e⟩ | ⟨y,u,rfl,e⟩
   ·injection e with e1 _; rw [e1]
   ·exact nomatch e
  ·rcases C6 hb with ⟨j,u,rfl,e⟩ | ⟨y,u,rfl,e⟩
   ·exact nomatch e
   ·injection e with e1 _; rw [e1]
 byValue:=λ k v h=>by
  rcases C6 h with ⟨i,t,rfl,rfl⟩ | ⟨x,t,rfl,rfl⟩ <;> rfl
 pyHash:=λ hv h=>by
  rcases C6 hv with ⟨i,t,rfl,rfl⟩ | ⟨x,t,rfl,rfl⟩
  ·exact wpAny_pyHash_int h
  ·exact wpAny_pyHash_str h
 eqBool:=λ hu hv h=>by
  rcases C6 hu with ⟨i,t,rfl,rfl⟩ | ⟨x,t,rfl,rfl⟩
  ·rcases C6 hv with ⟨j,u,rfl,rfl⟩ | ⟨y,u,rfl,rfl⟩
   ·rw [b2U] at h; exact wpAny_eqBool_int h
   ·rw [b3w] at h; exact rC i t y u _ _ _ _ h
  ·rcases C6 hv with ⟨j,u,rfl,rfl⟩ | ⟨y,u,rfl,rfl⟩
   ·rw [b2Y] at h; exact rD x t j u _ _ _ _ h
   ·rw [b3x] at h; exact wpAny_eqBool_str h
 «strs»:=λ k x t v h=>by
  rcases C6 h with ⟨i,u,rfl,e⟩ | ⟨y,u,rfl,e⟩
  ·exact nomatch e
  ·injection e with e1 _
   subst e1
   cases v <;> rfl
inductive V where
 | non | bl (b:Bool) | int (i:Int) | str (x:Str) | byt (b:Array UInt8) | flt (b:UInt64) | ref (a:aA) | ty (n:String)
 deriving DecidableEq
def RelV:V->aC->Prop
 | .non,u=>u=gT
 | .bl b,u=>u=mK b
 | .int i,u=>∃ t,u=fR i t
 | .str x,u=>∃ t,u=kZ x t
 | .byt b,u=>∃ t,u=rE b t
 | .flt b,u=>∃ t,u=oQ b t
 | .ref a,u=>u=cY a
 | .ty n,u=>u=rF n
abbrev Vals:List V->List aC->Prop:=aS RelV
theorem Vals.length {xs:List V} {us:List aC} (r:Vals xs us):xs.length=us.length:=dH r
theorem Vals.get:∀ {xs:List V} {us:List aC} {i:Nat} {x:V},Vals xs us->xs[i]?=some x->∃ u,us[i]?=some u/\RelV x u
 | _,_,_,_,.nil,e=>by simp at e
 | _,_,0,_,.cons r _,e=>by simp at e; subst e; exact ⟨_,rfl,r⟩
 | _,_,i+1,x,.cons _ t,e=>by
  obtain ⟨u,h1,h2⟩:=Vals.get (i:=i) (x:=x) t (by simpa using e);exact ⟨u,by simpa using h1,h2⟩
theorem Vals.set {x:V} {u:aC} (r:RelV x u):∀ {xs:List V} {us:List aC} (i:Nat),Vals xs us->Vals (xs.set i x) (us.set i u)
 | _,_,_,.nil=>.nil
 | _,_,0,.cons _ t=>.cons r t
 | _,_,i+1,.cons q t=>.cons q (Vals.set r i t)
theorem Vals.append:∀ {xs ys:List V} {us ws:List aC},Vals xs us->Vals ys ws->Vals (xs++ys) (us++ws)
 | _,_,_,_,.nil,s=>s
 | _,_,_,_,.cons r t,s=>.cons r (Vals.append t s)
theorem Vals.take:∀ {xs:List V} {us:List aC} (n:Nat),Vals xs us->Vals (xs.take n) (us.take n)
 | _,_,0,_=>.nil
 | _,_,_+1,.nil=>.nil
 | _,_,n+1,.cons r t=>.cons r (Vals.take n t)
theorem Vals.drop:∀ {xs:List V} {us:List aC} (n:Nat),Vals xs us->Vals (xs.drop n) (us.drop n)
 | _,_,0,r=>r
 | _,_,_+1,.nil=>.nil
 | _,_,n+1,.cons _ t=>Vals.drop n t
theorem Vals.none_of:∀ {xs:List V} {us:List aC} {i:Nat},Vals xs us->xs[i]?=none->us[i]?=none:=λ {xs us i} r e=>by
 have h1:=r.length;have h2:xs.length<=i:=oR.mp e;exact oR.mpr (by omega)
def RelO:Option V->Option aC->Prop
 | some v,some u=>RelV v u
 | none,none=>True
 | _,_=>False
def KV {κ:Type}:List (κ×V)->List (κ×Value)->Prop:=aS λ (p:κ×V) (q:κ×Value)=>p.1=q.1/\RelV p.2 q.2
def kV:Key->V
 | .inl i=>.int i
 | .inr x=>.str x
inductive HO where
  | lst (xs:List V)
  | tup (xs:List V)
  | dK (kvs:List (Key×V)) | dT (kvs:List (List Key×V))
  | set (S:Int->Bool) (n:Nat)
  | ins (C dx:aA) (fs:List (Str×V))
  | own (x:aA)
  | xd (fs:List (Str×V))
  | met (f x:aA)
  | rng (lo hi:Int)
  | frz (o:Obj) (u:HO)
  | tbl (ps:Array aC)
  | ext (φ:aG->Prop)
abbrev Hp:=aA->Option HO
def upd (H:Hp) (a:aA) (o:HO):Hp:=λ b=>if b=a then some o else H b
theorem upd_same {H:Hp} {a:aA} {o:HO}:upd H a o a=some o:=by unfold upd; rw [if_pos rfl]
theorem i7 {H:Hp} {a b:aA} {o:HO} (h:b≠a):upd H a o b=H b:=by unfold upd; rw [if_neg h]
theorem W2 {H:Hp} {a:aA} {o u:HO}:upd (upd H a o) a u=upd H a u:=by
 funext b; unfold upd; split <;> rfl
theorem G9 {H:Hp} {a b:aA} {o u:HO} (h:H a=some o) (h':H b=some u) (d:o≠u):a≠b:=by
 intro e; subst e; rw [h] at h'; exact d (bG h')
theorem i9 {H:Hp} {a b:aA} {o:HO} (h:H a=some o) (h':H b=none):a≠b:=by
 intro e; subst e; rw [h] at h'; cases h'
section
variable (P:aL) (w:aI)
def ObjOk (H:Hp) (h:aG) (a:aA):HO->Prop
 | .lst xs=>xs.length<=sizeLine/\∃ (its:List aC) (n:Nat),Vals xs its/\h.get? a=some { cls:=.type "list",data:=.seq its.toArray n }
 | .tup xs=>xs.length<=sizeLine/\∃ its:List aC,Vals xs its/\fT h a its.toArray
 | .dK kvs=>kvs.length<=sizeLine/\(a==sysModules)=false/\∃ vs,KV kvs vs/\h.DictOf (a6q P w) a vs
 | .dT kvs=>kvs.length<=sizeLine/\(a==sysModules)=false/\∃ xs:List (List Key×Addr×Value),
   aS (λ (p:List Key×V) (q:List Key×Addr×Value)=>p.1=q.1/\H q.2.1=some (.tup (p.1.map kV))/\RelV p.2 q.2.2) kvs xs ∧
   ∃ o es ep,h.get? a=some o/\o.ExactDict/\o.data=.dict es ep/\es.toList=xs.map (entryOfKey (tupleKind (a6q P w)))/\(xs.map (·.1)).Nodup
 | .set S n=>h.SetOf (intKind P w) a S n
 | .ins C dx fs=>H dx=some (.own a)/\fs.length<=1000/\dx≠a/\h.get? a=some (iB C dx) ∧
   ∃ mA,h.Ns1 dx mA/\(∀ f,RelO (fs.lookup f) (mA f))/\oS mA (fs.map (·.1))
 | .own _=>∃ o,h.get? a=some o
 | .xd fs=>∃ mA,h.Ns1 a mA/\∀ f,RelO (fs.lookup f) (mA f)
 | .rng lo hi=>∃ t u v,h.get? a=some { cls:=.type "range",data:=.fields #[.int lo t,.int hi u,.int 1 v] }
 | .frz o u=>h.get? a=some o/\ObjOk H h a u
 | .tbl ps=>h.get? a=some { cls:=.none,data:=.fields ps }
 | .met f x=>h.get? a=some (oU (.ref f) (.ref x))
 | .ext φ=>φ h/\(∃ o,h.get? a=some o)/\∀ h1 h2:aG,φ h1->(∀ o,h1.get? a=some o->h2.get? a=some o)->φ h2
def HOk (H:Hp) (h:aG):Prop:=∀ a o,H a=some o->ObjOk P w H h a o
end
section
variable {P:aL} {w:aI} {H H':Hp} {h h':aG} {a:aA} {o:HO}
theorem ObjOk.lt (x:ObjOk P w H h a o):a<h.objs.size:=by
 cases o with
 | lst xs=>obtain ⟨_,_,_,_,e⟩:=x; exact bC e
 | tup xs=>obtain ⟨_,_,_,p⟩:=x; exact p.lt
 | dK kvs=>obtain ⟨_,_,_,_,o,_,_,e,_⟩:=x; exact bC e
 | dT kvs=>obtain ⟨_,_,_,_,o,_,_,e,_⟩:=x; exact bC e
 | set S n=>obtain ⟨o,_,_,_,e,_⟩:=x; exact bC e
 | ins C dx fs=>obtain ⟨_,_,_,e,_⟩:=x; exact bC e
 | own y=>obtain ⟨_,e⟩:=x; exact bC e
 | xd fs=>obtain ⟨_,⟨_,_,_,e,_⟩,_⟩:=x; exact bC e
 | rng lo hi=>obtain ⟨_,_,_,e⟩:=x; exact bC e
 | frz ob u=>obtain ⟨e,_⟩:=x; exact bC e
 | tbl ps=>exact bC (show h.get? a=some _ from x)
 | met f y=>exact bC (show h.get? a=some _ from x)
 | ext φ=>obtain ⟨_,⟨_,e⟩,_⟩:=x; exact bC e
theorem aS.mapP {α β:Type} {F G:α->β->Prop}:∀ {l₁:List α} {l₂:List β},aS F l₁ l₂->(∀ a b,F a b->G a b)->aS G l₁ l₂
 | _,_,.nil,_=>.nil
 | _,_,.cons r t,f=>.cons (f _ _ r) (aS.mapP t f)
theorem aS.imp' {α β:Type} {F G:α->β->Prop} (f:∀ a b,F a b->G a b) {l₁:List α} {l₂:List β} (r:aS F l₁ l₂):aS G l₁ l₂:=aS.mapP r f
theorem ObjOk.stay (x:ObjOk P w H h a o) (k:∀ b u,(b=a\/H b=some (.own a))->h.get? b=some u->h'.get? b=some u)
  (ho:∀ b,H b=some (.own a)->H' b=some (.own a)) (ht:∀ b xs,H b=some (.tup xs)->H' b=some (.tup xs)):ObjOk P w H' h' a o:=by
 induction o with
 | lst xs=>obtain ⟨z,its,n,r,e⟩:=x; exact ⟨z,its,n,r,k _ _ (.inl rfl) e⟩
 | tup xs=>obtain ⟨z,its,r,ob,e,c⟩:=x; exact ⟨z,its,r,ob,k _ _ (.inl rfl) e,c⟩
 | dK kvs=>obtain ⟨z,y,vs,r,ob,es,ep,e,c⟩:=x; exact ⟨z,y,vs,r,ob,es,ep,k _ _ (.inl rfl) e,c⟩
 | dT kvs =>
  obtain ⟨z,y,xs,r,ob,es,ep,e,c⟩:=x;exact ⟨z,y,xs,aS.mapP r λ p q z=>⟨z.1,ht _ _ z.2.1,z.2.2⟩,ob,es,ep,k _ _ (.inl rfl) e,c⟩
 | set S n=>obtain ⟨ob,es,ep,t,e,c⟩:=x; exact ⟨ob,es,ep,t,k _ _ (.inl rfl) e,c⟩
 | ins C dx fs =>
  obtain ⟨d,z,ne,e,mA,⟨od,es,ep,e2,c⟩,r⟩:=x;exact ⟨ho _ d,z,ne,k _ _ (.inl rfl) e,mA,⟨od,es,ep,k _ _ (.inr d) e2,c⟩,r⟩
 | own y=>obtain ⟨ob,e⟩:=x; exact ⟨ob,k _ _ (.inl rfl) e⟩
 | xd fs=>obtain ⟨mA,⟨od,es,ep,e,c⟩,r⟩:=x; exact ⟨mA,⟨od,es,ep,k _ _ (.inl rfl) e,c⟩,r⟩
 | rng lo hi=>obtain ⟨t,u,v,e⟩:=x; exact ⟨t,u,v,k _ _ (.inl rfl) e⟩
 | frz ob u ih=>obtain ⟨e,q⟩:=x; exact ⟨k _ _ (.inl rfl) e,ih q⟩
 | tbl ps =>
  have e:h.get? a=some { cls:=.none,data:=.fields ps }:=x
  show h'.get? a=some { cls:=.none,data:=.fields ps }
  exact k a _ (.inl rfl) e
 | met f y =>
  have e:h.get? a=some (oU (.ref f) (.ref y)):=x
  show h'.get? a=some (oU (.ref f) (.ref y))
  exact k a _ (.inl rfl) e
 | ext φ=>obtain ⟨p,⟨o,e⟩,st⟩:=x; exact ⟨st _ _ p λ o q=>k _ _ (.inl rfl) q,⟨o,k _ _ (.inl rfl) e⟩,st⟩
theorem HOk.lt (x:HOk P w H h) (e:H a=some o):a<h.objs.size:=(x a o e).lt
theorem HOk.fresh (x:HOk P w H h) (e:h.objs.size<=a):H a=none:=by
 cases q:H a with
 | none=>rfl
 | some u=>exact absurd (bM (x.lt q) e) (cN _)
theorem HOk.kept (x:HOk P w H h) (k:∀ b u,h.get? b=some u->h'.get? b=some u):HOk P w H h':=λ a o e =>
 (x a o e).stay (λ b u _ q=>k b u q) (λ _ q=>q) λ _ _ q=>q
theorem HOk.laid (x:HOk P w H h) (k:∀ b u,h.get? b=some u->h'.get? b=some u) (hp:h.objs.size<=a) (new:ObjOk P w (upd H a o) h' a o):HOk P w (upd H a o) h':=λ b u e=>by
 have hn:=x.fresh hp
 by_cases hb:b=a
 ·subst hb; rw [upd_same] at e; cases e; exact new
 ·rw [i7 hb] at e
  exact (x b u e).stay (λ c v _ q=>k c v q) (λ c q=>by rw [i7 (i9 q hn)]; exact q) λ c xs q=>by rw [i7 (i9 q hn)]; exact q
end
def Rd (H:Hp) (a:aA) (u:HO):Prop:=H a=some u\/∃ o,H a=some (.frz o u)
theorem Rd.ok {P:aL} {w:aI} {H:Hp} {h:aG} {a:aA} {u:HO} (r:Rd H a u) (x:HOk P w H h):ObjOk P w H h a u:=by
 rcases r with r | ⟨o,r⟩
 ·exact x a u r
 ·obtain ⟨_,q⟩:=x a _ r
  exact q
def Mut:Option HO->Prop
 | some (.lst _)=>True
 | some (.dK _)=>True
 | some (.dT _)=>True
 | some (.set _ _)=>True
 | some (.ins _ _ _)=>True
 | some (.ext _)=>True
 | _=>False
section
variable {P:aL} {w:aI} {H:Hp} {h h':aG} {x e:aA} {o':HO}
theorem HOk.write (ok:HOk P w H h) (mu:Mut (H x)) (he:e=x\/H e=some (.own x)) (k:∀ b u,b≠e->h.get? b=some u->h'.get? b=some u) (heo:∃ u,h'.get? e=some u)
  (new:ObjOk P w (upd H x o') h' x o'):HOk P w (upd H x o') h':=λ b u q=>by
 have nown:∀ c y,H c=some (.own y)->c≠x:=λ c y r z=>by subst z; rw [r] at mu; exact mu
 have ntup:∀ c xs,H c=some (.tup xs)->c≠x:=λ c xs r z=>by subst z; rw [r] at mu; exact mu
 by_cases hb:b=x
 ·subst hb; rw [upd_same] at q; cases q; exact new
 ·rw [i7 hb] at q
  by_cases hbe:b=e
  ·have q':H b=some (.own x):=by
    rcases he with z | z
    ·exact absurd (hbe.trans z) hb
    ·rw [hbe]; exact z
   rw [q] at q'; cases q';obtain ⟨v,hv⟩:=heo;exact ⟨v,by rw [hbe]; exact hv⟩
  ·refine (ok b u q).stay (λ c v hc r=>k c v ?_ r) (λ c r=>by rw [i7 (nown c b r)]; exact r) λ c xs r=>by rw [i7 (ntup c xs r)]; exact r
   rcases hc with rfl | hc
   ·exact hbe
   ·rintro rfl
    rcases he with z | z
    ·exact nown c b hc z
    ·rw [hc] at z; cases z; exact hb rfl
end
structure Un (fs ex:List aA) (H H':Hp) (h h':aG):Prop where
 keep:∀ b o,h.get? b=some o->H b=none->b ∉ fs->b ∉ ex->h'.get? b=some o
 slot:∀ b o,h.get? b=some o->H b=none->b∈fs->b ∉ ex->∃ sl,h'.get? b=some { o with slots:=sl }
 free:∀ b o,h.get? b=some o->H b=none->b ∉ ex->H' b=none
 there:∀ b o,h.get? b=some o->b ∉ ex->∃ o',h'.get? b=some o'
 tups:∀ b xs,H b=some (.tup xs)->H' b=some (.tup xs)
 frzs:∀ b o u,H b=some (.frz o u)->H' b=some (.frz o u)
 tbls:∀ b ps,H b=some (.tbl ps)->∃ more,H' b=some (.tbl (ps++more))
section
variable {fs fs' ex ex':List aA} {H H1 H2:Hp} {h h1 h2 h':aG} {a x e:aA} {o:HO}
theorem Un.any (u:Un fs ex H H1 h h1) {b:aA} {ob:Obj} (q:h.get? b=some ob) (n:H b=none) (hx:b ∉ ex):∃ sl,h1.get? b=some { ob with slots:=sl }:=by
 by_cases hb:b∈fs
 ·exact u.slot b ob q n hb hx
 ·exact ⟨ob.slots,u.keep b ob q n hb hx⟩
theorem Un.kept (k:∀ b u,h.get? b=some u->h'.get? b=some u):Un fs ex H H h h' :=
 ⟨λ b ob q _ _ _=>k b ob q,λ b ob q _ _ _=>⟨ob.slots,k b ob q⟩,λ _ _ _ n _=>n,λ b ob q _=>⟨ob,k b ob q⟩,λ _ _ q=>q,λ _ _ _ q=>q,λ _ ps q=>⟨#[],by rw [q]; simp⟩⟩
theorem Un.refl:Un fs ex H H h h:=Un.kept λ _ _ q=>q
theorem Un.laid (k:∀ b u,h.get? b=some u->h'.get? b=some u) (hp:h.objs.size<=a) (hn:H a=none):Un fs ex H (upd H a o) h h' where
 keep:=λ b u q _ _ _=>k b u q
 slot:=λ b u q _ _ _=>⟨u.slots,k b u q⟩
 free:=λ b u q n _=>by rw [i7 (cF (bM (bC q) hp))]; exact n
 there:=λ b u q _=>⟨u,k b u q⟩
 tups:=λ b xs q=>by rw [i7 (i9 q hn)]; exact q
 frzs:=λ b u xs q=>by rw [i7 (i9 q hn)]; exact q
 tbls:=λ b ps q=>⟨#[],by rw [i7 (i9 q hn),q]; simp⟩
theorem Un.write (mu:Mut (H x)) (he:e=x\/H e=some (.own x)) (k:∀ b u,b≠e->h.get? b=some u->h'.get? b=some u) (heo:∃ u,h'.get? e=some u):Un fs ex H (upd H x o) h h':=by
 have hx:∀ b,H b=none->b≠x:=λ b n z=>by subst z; rw [n] at mu; exact mu
 have hb:∀ b,H b=none->b≠e:=λ b n z=>by
  subst z;rcases he with r | r
  ·exact hx b n r
  ·rw [n] at r; cases r
 have hm:∀ b u,H b=some u->¬ Mut (some u)->b≠x:=λ b u q nm z=>by subst z; rw [q] at mu; exact nm mu
 refine ⟨λ b u q n _ _=>k b u (hb b n) q,λ b u q n _ _=>⟨u.slots,k b u (hb b n) q⟩,λ b u q n _=>by rw [i7 (hx b n)]; exact n,λ b u q _=>?_,
  λ b xs q=>by rw [i7 (hm b _ q λ z=>z)]; exact q,λ b u xs q=>by rw [i7 (hm b _ q λ z=>z)]; exact q,λ b ps q=>⟨#[],by rw [i7 (hm b _ q λ z=>z),q]; simp⟩⟩
 by_cases hbe:b=e
 ·subst hbe; exact heo
 ·exact ⟨u,k b u hbe q⟩
end
def trk (h:aG) (H:Hp):List aA:=(aR h.objs.size).filter λ a=>(H a).isSome
def a2U (h:aG) (H:Hp):aG:=eP h (trk h H)
theorem a7N (h:aG) (H:Hp):(a2U h H).objs.size=h.objs.size:=W.hideAll_size _ _
theorem a9f {h:aG} {H:Hp} {b:aA} {o:Obj} (e:h.get? b=some o) (n:H b=none):(a2U h H).get? b=some o :=
 mO _ e λ hm=>by
  have q:(H b).isSome=true:=(mP.mp hm).2;rw [n] at q; simp at q
theorem b0C {h:aG} {H:Hp} {b:aA} {o:Obj} (e:(a2U h H).get? b=some o):h.get? b=some o/\H b=none:=by
 have e':h.get? b=some o:=oV (trk h H) e;refine ⟨e',?_⟩
 cases q:H b with
 | none=>rfl
 | some x =>
  have hm:b∈trk h H:=mP.mpr ⟨List.mem_range.mpr (bC e'),by simp [q]⟩;have z:(a2U h H).get? b=none:=rG (trk h H) hm;rw [z] at e; cases e
def b1x (g h:aG) (L:aA):List (aA×Obj):=(aR h.objs.size).filterMap λ a=>if a=L\/(g.get? a).isSome=true then none else (h.get? a).map λ o=>(a,o)
def rest (g h:aG) (L d:aA):List (aA×Obj):=(b1x g h L).filter λ p=>decide (p.1≠d)
structure Mod (K:aE) (mg:Str->Option aC) (base:aG):Prop where
 kin:K.In base
 glob:base.Ns mainGlobals mg
 blt:∃ mb,base.Ns builtinsNs mb/\∀ x:Str,x≠"__name__"->mb x=bootBuiltins x
 nolimit:base.NoLimit
structure Cx where
 prog:aL
 w:aI
 K:aE
 mg:Str->Option aC
 base:aG
 A:aY
 N:List Str
 s₀:aD
 H₀:Hp
 env:Env
 outer:List Env
 stack:List Env
 ex:List aA
 fn:Str->Bool
 calm:Bool
 pn:List (aA×Obj)
 xe:aC->aD->Prop
def frs (l:List Env):List aA:=l.filterMap (·.frame)
abbrev Cx.fs (X:Cx):List aA:=frs X.outer
def Vis (sc:bS) (x:Str):Prop:=sc.names.lookup x=some .local\/sc.names.lookup x=some .cell\/sc.names.lookup x=some .free
def Loc (sc:bS) (x:Str):Prop:=sc.names.lookup x=some .local\/sc.names.lookup x=some .cell
def b6s (env:Env) (h:aG) (m:Str->Option aC) (x:Str) (u:aC):Prop :=
 (env.kindOf x=some .local/\m x=some u)\/((env.kindOf x=some .cell\/env.kindOf x=some .free)/\∃ c,env.cells.lookup x=some c/\h.IsCell c (some u))
structure Cx.Ok (X:Cx):Prop where
 mod:Mod X.K X.mg X.base
 kind:X.env.scope.kind=.function
 glob:X.env.globals=mainGlobals
 blt:X.env.builtins=builtinsNs
 above:X.s₀.heap.objs.size<=X.env.locals
 inj:∀ x y c,X.env.cells.lookup x=some c->X.env.cells.lookup y=some c->x=y
 has:∀ x,(X.env.kindOf x=some .cell\/X.env.kindOf x=some .free)->∃ c,X.env.cells.lookup x=some c
 cab:∀ x c,X.fn x=true->X.env.cells.lookup x=some c->X.s₀.heap.objs.size<=c
 hd:X.calm=true->X.A.handled=none
 frames:X.A.frames=some X.stack
 stk:X.stack=X.outer\/(X.stack=X.env::X.outer/\X.env.frame=some X.env.locals)
 exf:∀ b∈X.ex,b≠X.env.locals/\∀ x c,X.env.cells.lookup x=some c->c≠b
 bs:∀ b o,X.base.get? b=some o->X.s₀.heap.get? b=some o/\X.H₀ b=none
 bsz:X.base.objs.size<=X.s₀.heap.objs.size
 noex:∀ b o,X.base.get? b=some o->b ∉ X.ex
 exfs:∀ b∈X.ex,b ∉ X.fs
 funs:X.s₀.heap.FunFrames X.base X.outer
 frf:∀ b∈X.fs,X.H₀ b=none
structure Inv (X:Cx) (pins:List (aA×Obj)) (σ:List (Option V)) (H:Hp) (s:aD):Prop where
 ok:X.Ok
 os:s.os=X.s₀.os
 bare:gA s.gens
 base:Un X.fs X.ex X.H₀ H X.s₀.heap s.heap
 loc:∃ m,s.heap.Ns X.env.locals m/\∀ (i:Nat) (x:Str) (v:V),X.N[i]?=some x->σ[i]?=some (some v)->Vis X.env.scope x->∃ u,RelV v u/\b6s X.env s.heap m x u
 cell:∀ x c,X.env.cells.lookup x=some c->∃ v,s.heap.IsCell c v
 free:H X.env.locals=none
 freeC:∀ x c,X.env.cells.lookup x=some c->H c=none
 pin:∀ p∈X.pn++pins,s.heap.get? p.1=some p.2/\H p.1=none/\p.1≠X.env.locals/\p.1 ∉ X.fs/\∀ v,p.2.data≠.cell v
 hok:HOk X.prog X.w H s.heap
 len:σ.length=X.N.length
section
variable {X:Cx} {pins:List (aA×Obj)} {σ:List (Option V)} {H H':Hp} {s:aD} {h':aG}
theorem Cx.Ok.nofr (ok:X.Ok) {b:aA} {o:Obj} (e:X.base.get? b=some o):b ∉ X.fs:=λ hb=>by
 have:=(ok.funs.mem hb).1;rw [e] at this; cases this
theorem Inv.bs (I:Inv X pins σ H s):∀ b o,X.base.get? b=some o->s.heap.get? b=some o/\H b=none:=λ b o e =>
 ⟨I.base.keep b o (I.ok.bs b o e).1 (I.ok.bs b o e).2 (I.ok.nofr e) (I.ok.noex b o e),I.base.free b o (I.ok.bs b o e).1 (I.ok.bs b o e).2 (I.ok.noex b o e)⟩
theorem Inv.bk (I:Inv X pins σ H s):∀ b o,X.base.get? b=some o->s.heap.get? b=some o:=λ b o e=>(I.bs b o e).1
theorem Inv.mod (I:Inv X pins σ H s):Mod X.K X.mg X.base:=I.ok.mod
theorem Inv.kIn (I:Inv X pins σ H s):X.K.In s.heap:=I.ok.mod.kin.keeps I.bk
theorem Inv.nolimit (I:Inv X pins σ H s):s.heap.NoLimit:=I.ok.mod.nolimit.keeps I.bk
theorem Inv.fr (I:Inv X pins σ H s):∃ m,Fr X.base X.env.locals s.heap m :=
 let ⟨m,hn,_⟩:=I.loc
 ⟨m,hn,I.bk,cO I.ok.bsz I.ok.above⟩
theorem Inv.lt (I:Inv X pins σ H s):X.env.locals<s.heap.objs.size:=let ⟨_,hn,_⟩:=I.loc; hn.lt
theorem Inv.sz (I:Inv X pins σ H s):X.s₀.heap.objs.size<=s.heap.objs.size:=cO I.ok.above (fJ I.lt)
theorem Inv.nofs (I:Inv X pins σ H s) {a:aA} (h:s.heap.objs.size<=a):a ∉ X.fs:=λ hb=>by
 obtain ⟨_,o,ho,_⟩:=I.ok.funs.mem hb;exact absurd (bM (bC ho) (cO I.sz h)) (cN _)
theorem Inv.cne (I:Inv X pins σ H s):∀ x c,X.env.cells.lookup x=some c->c≠X.env.locals:=λ x c e z=>by
 obtain ⟨v,o,ho,hd⟩:=I.cell x c e;obtain ⟨m,⟨o',es,ep,ho',hd',_⟩,_⟩:=I.loc;rw [z,ho'] at ho; cases ho; rw [hd'] at hd; cases hd
theorem Inv.funs (I:Inv X pins σ H s):s.heap.FunFrames X.base X.outer:=by
 have all:∀ (l:List Env),(∀ b∈frs l,b∈X.fs)->X.s₀.heap.FunFrames X.base l->s.heap.FunFrames X.base l:=by
  intro l
  induction l with
  | nil=>intro _ _; trivial
  | cons env r ih =>
   intro hs hl;obtain ⟨hk,⟨L,o,hf,hn,ho,hd⟩,hr⟩:=hl;have hL:L∈X.fs:=hs L (by unfold frs; rw [lC,hf]; exact dU);obtain ⟨sl,e⟩:=I.base.slot L o ho (I.ok.frf L hL) hL λ z=>I.ok.exfs L z hL;exact ⟨hk,⟨L,_,hf,hn,e,hd⟩,ih (λ b hb=>hs b (by unfold frs; rw [lC,hf]; exact cQ _ hb)) hr⟩
 exact all X.outer (λ _ hb=>hb) I.ok.funs
theorem Inv.stack (I:Inv X pins σ H s):s.heap.FunFrames X.base X.stack:=by
 rcases I.ok.stk with e | ⟨e,hf⟩
 ·rw [e]; exact I.funs
 ·rw [e]
  obtain ⟨m,hn,_⟩:=I.loc;refine .cons (by rw [I.ok.kind]; decide) hf hn ?_ I.funs;exact Heap.get?_none_of_le (cO I.ok.bsz I.ok.above)
theorem Inv.stkSub (I:Inv X pins σ H s):∀ b∈frs X.stack,b∈X.env.locals::X.fs:=λ b hb=>by
 rcases I.ok.stk with e | ⟨e,hf⟩
 ·rw [e] at hb; exact cQ _ hb
 ·rw [e] at hb
  unfold frs at hb;rw [lC,hf] at hb;exact hb
theorem Inv.stkFree (I:Inv X pins σ H s):∀ b∈frs X.stack,H b=none:=λ b hb=>by
 rcases bD.mp (I.stkSub b hb) with e | hb
 ·rw [e]; exact I.free
 ·obtain ⟨_,o,ho,_⟩:=I.ok.funs.mem hb
  exact I.base.free b o ho (I.ok.frf b hb) λ z=>I.ok.exfs b z hb
theorem Inv.step {g':Array GenState} {t':Nat} {d':Drawn} {ch:List aA} (I:Inv X pins σ H s)
  (hch:∀ b∈ch,(b∈X.ex\/X.s₀.heap.objs.size<=b)/\b≠X.env.locals/\(∀ x c,X.env.cells.lookup x=some c->c≠b)/\∀ p∈X.pn++pins,p.1≠b)
  (keep:∀ b o,b≠X.env.locals->b ∉ X.fs->b ∉ ch->s.heap.get? b=some o->H b=none->h'.get? b=some o)
  (slot:∀ b o,b≠X.env.locals->b∈X.fs->b ∉ ch->s.heap.get? b=some o->H b=none->∃ sl,h'.get? b=some { o with slots:=sl }) (free:∀ b o,b ∉ ch->s.heap.get? b=some o->H b=none->H' b=none)
  (there:∀ b o,b ∉ ch->s.heap.get? b=some o->∃ o',h'.get? b=some o')
  (tups:∀ b xs,H b=some (.tup xs)->H' b=some (.tup xs)) (frzs:∀ b o u,H b=some (.frz o u)->H' b=some (.frz o u)) (tbls:∀ b ps,H b=some (.tbl ps)->∃ more,H' b=some (.tbl (ps++more)))
  (ns:∀ m,s.heap.Ns X.env.locals m->h'.Ns X.env.locals m) (hok:HOk X.prog X.w H' h') (hg:gA g') :
  Inv X pins σ H' { s with heap:=h',gens:=g',drawn:=d',toks:=t' }:=by
 have neL:∀ b o,X.s₀.heap.get? b=some o->b≠X.env.locals:=λ b o e=>cF (bM (bC e) I.ok.above);have neC:∀ b o,X.s₀.heap.get? b=some o->b ∉ X.ex->b ∉ ch:=λ b o e hx hb=>by
  rcases (hch b hb).1 with z | z
  ·exact hx z
  ·exact absurd (bM (bC e) z) (cN _)
 have cellK:∀ x c,X.env.cells.lookup x=some c->∀ v,s.heap.IsCell c v->h'.IsCell c v:=λ x c e v ⟨o,ho,hd⟩=>by
  have nch:c ∉ ch:=λ z=>(hch c z).2.2.1 x c e rfl
  by_cases hc:c∈X.fs
  ·obtain ⟨sl,q⟩:=slot c o (I.cne x c e) hc nch ho (I.freeC x c e)
   exact ⟨_,q,hd⟩
  ·exact ⟨o,keep c o (I.cne x c e) hc nch ho (I.freeC x c e),hd⟩
 refine ⟨I.ok,I.os,hg,⟨λ b o e n hb hx=>?_,λ b o e n hb hx=>?_,λ b o e n hx=>?_,λ b o e hx=>?_,λ b xs e=>tups b xs (I.base.tups b xs e),λ b o xs e=>frzs b o xs (I.base.frzs b o xs e),λ b ps e=>?_⟩,?_,λ x c e=>?_,?_,λ x c e=>?_,λ p hp=>?_,hok,I.len⟩
 ·exact keep b o (neL b o e) hb (neC b o e hx) (I.base.keep b o e n hb hx) (I.base.free b o e n hx)
 ·obtain ⟨sl,e1⟩:=I.base.slot b o e n hb hx
  obtain ⟨sl',e2⟩:=slot b _ (neL b o e) hb (neC b o e hx) e1 (I.base.free b o e n hx);exact ⟨sl',e2⟩
 ·obtain ⟨o',e1⟩:=I.base.there b o e hx
  exact free b o' (neC b o e hx) e1 (I.base.free b o e n hx)
 ·obtain ⟨o',e1⟩:=I.base.there b o e hx
  exact there b o' (neC b o e hx) e1
 ·obtain ⟨m1,e1⟩:=I.base.tbls b ps e
  obtain ⟨m2,e2⟩:=tbls b _ e1;exact ⟨m1++m2,by rw [e2,Array.append_assoc]⟩
 ·obtain ⟨m,hn,hl⟩:=I.loc
  refine ⟨m,ns m hn,λ i x v e1 e2 e3=>?_⟩;obtain ⟨u,r,l⟩:=hl i x v e1 e2 e3;refine ⟨u,r,?_⟩;rcases l with l | ⟨k,c,e,z⟩
  ·exact .inl l
  ·exact .inr ⟨k,c,e,cellK x c e _ z⟩
 ·obtain ⟨v,z⟩:=I.cell x c e
  exact ⟨v,cellK x c e v z⟩
 ·obtain ⟨m,⟨o,_,_,ho,_⟩,_⟩:=I.loc
  exact free _ o (λ z=>(hch _ z).2.1 rfl) ho I.free
 ·obtain ⟨v,o,ho,hd⟩:=I.cell x c e
  exact free c o (λ z=>(hch c z).2.2.1 x c e rfl) ho (I.freeC x c e)
 ·obtain ⟨e,n,ne,nf,d⟩:=I.pin p hp
  have nch:p.1 ∉ ch:=λ z=>(hch p.1 z).2.2.2 p hp rfl;exact ⟨keep p.1 p.2 ne nf nch e n,free p.1 p.2 nch e n,ne,nf,d⟩
theorem Inv.un {t':Nat} (I:Inv X pins σ H s) (u:Un X.fs [] H H' s.heap h') (hok:HOk X.prog X.w H' h'):Inv X pins σ H' { s with heap:=h',toks:=t' }:=by
 obtain ⟨m,⟨o,es,ep,ho,r⟩,_⟩:=id I.loc;obtain ⟨sl,hL⟩:=u.any ho I.free (by simp);exact I.step (g':=s.gens) (d':=s.drawn) (ch:=[]) (λ _ z=>nomatch z) (λ b o _ hb _ e n=>u.keep b o e n hb (by simp)) (λ b o _ hb _ e n=>u.slot b o e n hb (by simp)) (λ b o _ e n=>u.free b o e n (by simp)) (λ b o _ e=>u.there b o e (by simp)) u.tups u.frzs u.tbls (λ m' hm=>by
  obtain ⟨o',es',ep',ho',r'⟩:=hm;rw [ho] at ho'; cases ho';exact ⟨_,es',ep',hL,r'⟩) hok I.bare
theorem Inv.call {g':Array GenState} {t':Nat} {d':Drawn} {ch:List aA} (I:Inv X pins σ H s) (u:Un (frs X.stack) ch H H' s.heap h') (hok:HOk X.prog X.w H' h') (hg:gA g')
  (hch:∀ b∈ch,(b∈X.ex\/X.s₀.heap.objs.size<=b)/\b≠X.env.locals/\(∀ x c,X.env.cells.lookup x=some c->c≠b)/\∀ p∈X.pn++pins,p.1≠b) :
  Inv X pins σ H' { s with heap:=h',gens:=g',drawn:=d',toks:=t' }:=by
 obtain ⟨m,⟨o,es,ep,ho,r⟩,_⟩:=id I.loc;obtain ⟨sl,hL⟩:=u.any ho I.free λ z=>(hch _ z).2.1 rfl;exact I.step (ch:=ch) hch (λ b o hL hb hc e n=>u.keep b o e n (λ z=>(bD.mp (I.stkSub b z)).elim hL hb) hc) (λ b o _ _ hc e n=>u.any e n hc) (λ b o hc e n=>u.free b o e n hc) (λ b o hc e=>u.there b o e hc) u.tups u.frzs u.tbls (λ m' hm=>by
  obtain ⟨o',es',ep',ho',r'⟩:=hm;rw [ho] at ho'; cases ho';exact ⟨_,es',ep',hL,r'⟩) hok hg
theorem Inv.turned {t':Nat} {it:aA} (I:Inv X pins σ H s) (k:∀ b o,b≠it->s.heap.get? b=some o->h'.get? b=some o) (hn:H it=none) (hL:it≠X.env.locals)
  (h1:it∈X.ex\/X.s₀.heap.objs.size<=it) (h2:∀ x c,X.env.cells.lookup x=some c->c≠it) (h3:∀ p∈X.pn++pins,p.1≠it):Inv X pins σ H { s with heap:=h',toks:=t' }:=by
 have nit:∀ b u,H b=some u->b≠it:=λ b u e z=>by rw [z,hn] at e; cases e
 refine I.step (g':=s.gens) (d':=s.drawn) (ch:=[it]) (λ b hb=>?_) (λ b o _ _ hc e _=>k b o (λ z=>hc (by simp [z])) e) (λ b o _ _ hc e _=>⟨o.slots,k b o (λ z=>hc (by simp [z])) e⟩) (λ _ _ _ _ n=>n)
  (λ b o hc e=>⟨o,k b o (λ z=>hc (by simp [z])) e⟩) (λ _ _ e=>e) (λ _ _ _ e=>e) (λ b ps e=>⟨#[],by rw [e]; simp⟩) (λ m hm=>?_) (λ b u e=>?_) I.bare
 ·have e:b=it:=by simpa using hb
  subst e;exact ⟨h1,hL,h2,h3⟩
 ·obtain ⟨o,es,ep,ho,r⟩:=hm
  exact ⟨o,es,ep,k _ o (bI hL) ho,r⟩
 ·refine (I.hok b u e).stay (λ c v hc q=>k c v ?_ q) (λ _ q=>q) λ _ _ q=>q
  rcases hc with z | z
  ·rw [z]; exact nit b u e
  ·exact nit c _ z
theorem Inv.tok (I:Inv X pins σ H s) (t:Nat):Inv X pins σ H { s with toks:=t }:=I.un (h':=s.heap) (t':=t) Un.refl I.hok
theorem Inv.kept {t':Nat} (I:Inv X pins σ H s) (k:∀ b u,s.heap.get? b=some u->h'.get? b=some u):Inv X pins σ H { s with heap:=h',toks:=t' }:=I.un (Un.kept k) (I.hok.kept k)
theorem Inv.laid {a:aA} {o:HO} {t':Nat} (I:Inv X pins σ H s) (k:∀ b u,s.heap.get? b=some u->h'.get? b=some u) (hp:s.heap.objs.size<=a) (new:ObjOk X.prog X.w (upd H a o) h' a o) :
  Inv X pins σ (upd H a o) { s with heap:=h',toks:=t' }:=I.un (Un.laid k hp (I.hok.fresh hp)) (I.hok.laid k hp new)
theorem Inv.write {x e:aA} {o:HO} {t':Nat} (I:Inv X pins σ H s) (mu:Mut (H x)) (he:e=x\/H e=some (.own x)) (k:∀ b u,b≠e->s.heap.get? b=some u->h'.get? b=some u) (heo:∃ u,h'.get? e=some u)
  (new:ObjOk X.prog X.w (upd H x o) h' x o):Inv X pins σ (upd H x o) { s with heap:=h',toks:=t' }:=I.un (Un.write mu he k heo) (I.hok.write mu he k heo new)
theorem Inv.weak {σ':List (Option V)} (I:Inv X pins σ H s) (hl:σ'.length=σ.length) (w:∀ (i:Nat) v,σ'[i]?=some (some v)->σ[i]?=some (some v)):Inv X pins σ' H s :=
 ⟨I.ok,I.os,I.bare,I.base,let ⟨m,hn,hl'⟩:=I.loc; ⟨m,hn,λ i x v e1 e2 e3=>hl' i x v e1 (w i v e2) e3⟩,I.cell,I.free,I.freeC,I.pin,I.hok,hl.trans I.len⟩
theorem Inv.pins_of {pins':List (aA×Obj)} (I:Inv X pins σ H s) (h:∀ p∈pins',s.heap.get? p.1=some p.2/\H p.1=none/\p.1≠X.env.locals/\p.1 ∉ X.fs/\∀ v,p.2.data≠.cell v):Inv X pins' σ H s :=
 ⟨I.ok,I.os,I.bare,I.base,I.loc,I.cell,I.free,I.freeC,λ p hp=>(bU.mp hp).elim (λ z=>I.pin p (iC _ z)) (h p),I.hok,I.len⟩
theorem a2N {N:List Str} (hN:N.Nodup) {i j:Nat} {x:Str} (a:N[i]?=some x) (b:N[j]?=some x):i=j:=by
 obtain ⟨h1,e1⟩:=bP.mp a;obtain ⟨h2,e2⟩:=bP.mp b;exact (List.getElem_inj hN).mp (e1.trans e2.symm)
theorem a0c {M:iW} {A:aY} {E:aC->aD->Prop} {i:Nat} {x:Str} {v:V} {u:aC} {Q:Unit->aD->Prop} (I:Inv X pins σ H s) (hN:X.N.Nodup) (hi:X.N[i]?=some x) (hx:Loc X.env.scope x) (r:RelV v u)
  (h:∀ s',Inv X pins (σ.set i (some v)) H s'->(∃ a,iX a s.heap s'.heap/\(a=X.env.locals\/X.env.cells.lookup x=some a))->Q () s') (hf:X.fn x=true\/X.env.scope.names.lookup x=some .local:=by first | exact .inl rfl | exact .inr rfl | assumption):wpAny M A (storeName X.env x u) Q E s:=by
 obtain ⟨m,hn,hl⟩:=id I.loc;have hcls:(X.env.scope.kind==.class || (X.env.scope.kind==.module&&X.env.locals != X.env.globals))=false:=by rw [I.ok.kind]; rfl
 have hiσ:i<σ.length:=by rw [I.len]; exact (bP.mp hi).1
 have cne:=I.cne;have tracked:∀ {a:aA} {h':aG},(∃ o,s.heap.get? a=some o/\H a=none)->iX a s.heap h'->HOk X.prog X.w H h':=λ {a h'} ha hs b ob e=>by
  obtain ⟨_,_,hfree⟩:=ha;refine (I.hok b ob e).stay (λ c w' hc q=>(hs.2 c ?_).trans q) (λ _ q=>q) λ _ _ q=>q;rintro rfl;rcases hc with rfl | hc
  ·rw [hfree] at e; cases e
  ·rw [hfree] at hc; cases hc
 rcases hx with hk | hk
 ·refine wpAny_storeName_local hk hn (λ h' hn' hs=>?_) hcls
  obtain ⟨oL,_,_,hoL,_⟩:=id hn;refine h _ ⟨I.ok,I.os,I.bare,⟨λ b o e n hb hx=>?_,λ b o e n hb hx=>?_,I.base.free,λ b o e hx=>?_,I.base.tups,I.base.frzs,I.base.tbls⟩,⟨_,hn',λ j y v' e1 e2 e3=>?_⟩,λ y c e=>?_,I.free,I.freeC,λ p hp=>?_,tracked ⟨oL,hoL,I.free⟩ hs,by simpa using I.len⟩ ⟨_,hs,.inl rfl⟩
  ·exact (hs.2 b (cF (bM (bC e) I.ok.above))).trans (I.base.keep b o e n hb hx)
  ·obtain ⟨sl,e1⟩:=I.base.slot b o e n hb hx
   exact ⟨sl,(hs.2 b (cF (bM (bC e) I.ok.above))).trans e1⟩
  ·obtain ⟨o',e1⟩:=I.base.there b o e hx
   exact ⟨o',(hs.2 b (cF (bM (bC e) I.ok.above))).trans e1⟩
  ·by_cases hj:j=i
   ·subst hj
    rw [hi] at e1; cases e1;rw [dI hiσ] at e2
    cases e2;exact ⟨u,r,.inl ⟨hk,by simp⟩⟩
   ·rw [bY (bI hj)] at e2
    obtain ⟨u',r',q⟩:=hl j y v' e1 e2 e3;refine ⟨u',r',?_⟩;rcases q with ⟨k,e⟩ | ⟨k,c,e,z⟩
    ·refine .inl ⟨k,?_⟩
     have:y≠x:=λ e=>hj (a2N hN e1 (e ▸ hi));simp [this,e]
    ·exact .inr ⟨k,c,e,z.sameBut hs (cne y c e)⟩
  ·obtain ⟨w',z⟩:=I.cell y c e
   exact ⟨w',z.sameBut hs (cne y c e)⟩
  ·obtain ⟨e,n,ne,nf,d⟩:=I.pin p hp
   exact ⟨(hs.2 p.1 ne).trans e,n,ne,nf,d⟩
 ·have hfn:X.fn x=true:=by
   rcases hf with z | z
   ·exact z
   ·rw [z] at hk; cases hk
  obtain ⟨c,hc⟩:=I.ok.has x (.inl hk);obtain ⟨w',z⟩:=I.cell x c hc;refine wpAny_storeName_cell I.ok.kind hk hc z (λ h' hc' hs=>?_);obtain ⟨oc,hoc,hocd⟩:=id z;refine h { s with heap:=h' } ⟨I.ok,I.os,I.bare,⟨λ b o e n hb hx=>?_,λ b o e n hb hx=>?_,I.base.free,λ b o e hx=>?_,I.base.tups,I.base.frzs,I.base.tbls⟩,⟨m,hn.sameBut hs (bI (cne x c hc)),λ j y v' e1 e2 e3=>?_⟩,λ y c' e=>?_,I.free,I.freeC,λ p hp=>?_,tracked ⟨oc,hoc,I.freeC x c hc⟩ hs,by simpa using I.len⟩ ⟨c,hs,.inr hc⟩
  ·exact (hs.2 b (cF (bM (bC e) (I.ok.cab x c hfn hc)))).trans (I.base.keep b o e n hb hx)
  ·obtain ⟨sl,e1⟩:=I.base.slot b o e n hb hx
   exact ⟨sl,(hs.2 b (cF (bM (bC e) (I.ok.cab x c hfn hc)))).trans e1⟩
  ·obtain ⟨o',e1⟩:=I.base.there b o e hx
   exact ⟨o',(hs.2 b (cF (bM (bC e) (I.ok.cab x c hfn hc)))).trans e1⟩
  ·by_cases hj:j=i
   ·subst hj
    rw [hi] at e1; cases e1;rw [dI hiσ] at e2
    cases e2;exact ⟨u,r,.inr ⟨.inl hk,c,hc,hc'⟩⟩
   ·rw [bY (bI hj)] at e2
    obtain ⟨u',r',q⟩:=hl j y v' e1 e2 e3;refine ⟨u',r',?_⟩;rcases q with q | ⟨k,c',e,z'⟩
    ·exact .inl q
    ·refine .inr ⟨k,c',e,z'.sameBut hs ?_⟩
     rintro rfl;exact hj (a2N hN e1 (I.ok.inj _ _ _ e hc ▸ hi))
  ·by_cases hcc:c'=c
   ·subst hcc; exact ⟨_,hc'⟩
   ·obtain ⟨w2,z2⟩:=I.cell y c' e
    exact ⟨w2,z2.sameBut hs hcc⟩
  ·obtain ⟨e,n,ne,nf,d⟩:=I.pin p hp
   refine ⟨(hs.2 p.1 ?_).trans e,n,ne,nf,d⟩;intro q;rw [q,hoc] at e;have q':oc=p.2:=bG e;exact d w' (by rw [<- q']; exact hocd)
theorem X6 {M:iW} {A:aY} {E:aC->aD->Prop} {i:Nat} {x:Str} {v:V} {u:aC} {Q:Unit->aD->Prop} (I:Inv X pins σ H s) (hN:X.N.Nodup) (hi:X.N[i]?=some x) (hx:Loc X.env.scope x) (r:RelV v u)
  (h:∀ s',Inv X pins (σ.set i (some v)) H s'->Q () s') (hf:X.fn x=true\/X.env.scope.names.lookup x=some .local:=by first | exact .inl rfl | exact .inr rfl | assumption):wpAny M A (storeName X.env x u) Q E s :=
 a0c I hN hi hx r (λ s' I' _=>h s' I') hf
theorem Inv.call' {s':aD} {ch:List aA} (I:Inv X pins σ H s) (ho:s'.os=s.os) (u:Un (frs X.stack) ch H H' s.heap s'.heap) (hok:HOk X.prog X.w H' s'.heap) (hg:gA s'.gens)
  (hch:∀ b∈ch,(b∈X.ex\/X.s₀.heap.objs.size<=b)/\b≠X.env.locals/\(∀ x c,X.env.cells.lookup x=some c->c≠b)/\∀ p∈X.pn++pins,p.1≠b):Inv X pins σ H' s':=by
 obtain ⟨h',g',d',t',o'⟩:=s';have e:o'=s.os:=ho;subst e;exact I.call (g':=g') (t':=t') (d':=d') u hok hg hch
end
abbrev XK:=aC->Option aA->Hp->Prop
abbrev St:=List (Option V)
abbrev VK:=V->Hp->Prop
abbrev TE:=St->Hp->VK->Prop
abbrev TT:=St->Hp->(Bool->Hp->Prop)->Prop
abbrev TA:=St->Hp->(List V->Hp->Prop)->Prop
structure Ends where
 nx:St->Hp->Prop
 rt:VK
 bk:St->Hp->Prop:=λ _ _=>False
 ct:St->Hp->Prop:=λ _ _=>False
abbrev TS:=Ends->St->Hp->Prop
def EP (X:Cx) (pins:List (aA×Obj)) (σ:St) (Q:VK) (u:aC) (s':aD):Prop:=∃ v H',Inv X pins σ H' s'/\RelV v u/\Q v H'
def TP (X:Cx) (pins:List (aA×Obj)) (σ:St) (Q:Bool->Hp->Prop) (b:Bool) (s':aD):Prop:=∃ H',Inv X pins σ H' s'/\Q b H'
def AP (X:Cx) (pins:List (aA×Obj)) (σ:St) (Q:List V->Hp->Prop) (us:List aC) (s':aD):Prop:=∃ vs H',Inv X pins σ H' s'/\Vals vs us/\Q vs H'
def SP (X:Cx) (pins:List (aA×Obj)) (D:Ends) (f:Flow) (s':aD):Prop :=
 match f with
 | .next=>∃ σ' H',Inv X pins σ' H' s'/\D.nx σ' H'
 | .brk=>∃ σ' H',Inv X pins σ' H' s'/\D.bk σ' H'
 | .cont=>∃ σ' H',Inv X pins σ' H' s'/\D.ct σ' H'
 | .ret u=>∃ v σ' H',Inv X pins σ' H' s'/\RelV v u/\D.rt v H'
def PE (X:Cx) (e:aN) (t:TE):Prop :=
 ∀ (pins:List (aA×Obj)) (s:aD) (σ:St) (H:Hp) (Q:VK),Inv X pins σ H s->t σ H Q->wpAny (model X.prog X.w) X.A (eval e X.env) (EP X pins σ Q) X.xe s
def PT (X:Cx) (e:aN) (t:TT):Prop :=
 ∀ (pins:List (aA×Obj)) (s:aD) (σ:St) (H:Hp) (Q:Bool->Hp->Prop),Inv X pins σ H s->t σ H Q->wpAny (model X.prog X.w) X.A (isTrue e X.env (eval e X.env)) (TP X pins σ Q) X.xe s
def PW (X:Cx) (e:aN) (t:TT):Prop :=
 ∀ (whole:Sem aC) (pins:List (aA×Obj)) (s:aD) (σ:St) (H:Hp) (Q:Bool->Hp->Prop),Inv X pins σ H s->t σ H Q->wpAny (model X.prog X.w) X.A (isTrue e X.env whole) (TP X pins σ Q) X.xe s
theorem PW.pt {X:Cx} {e:aN} {t:TT} (h:PW X e t):PT X e t:=h _
def PA (X:Cx) (es:List aN) (t:TA):Prop :=
 ∀ (pos:Pos) (pins:List (aA×Obj)) (s:aD) (σ:St) (H:Hp) (Q:List V->Hp->Prop),Inv X pins σ H s->t σ H Q->wpAny (model X.prog X.w) X.A (spliced (backTo pos (starEach es X.env))) (AP X pins σ Q) X.xe s
def PS (X:Cx) (st:aO) (t:TS):Prop :=
 ∀ (pins:List (aA×Obj)) (s:aD) (σ:St) (H:Hp) (D:Ends),Inv X pins σ H s->t D σ H->wpAny (model X.prog X.w) X.A (exec st X.env) (SP X pins D) X.xe s
def PSs (X:Cx) (st:List aO) (t:TS):Prop :=
 ∀ (pins:List (aA×Obj)) (s:aD) (σ:St) (H:Hp) (D:Ends),Inv X pins σ H s->t D σ H->wpAny (model X.prog X.w) X.A (execs st X.env) (SP X pins D) X.xe s
theorem A7 {α:Type} {t:Sem α} {Q Q':α->aD->Prop} {M:iW} {A:aY} {E:aC->aD->Prop} {s:aD} (h:wpAny M A t Q E s) (hQ:∀ a s,Q a s->Q' a s):wpAny M A t Q' E s:=cZ h hQ λ _ _ x=>x
section
variable {X:Cx}
theorem bin {a b:aN} {ta tb:TE} (ha:PE X a ta) (hb:PE X b tb) {pins:List (aA×Obj)} {s:aD} {σ:St} {H:Hp} {R:V->V->Hp->Prop} (I:Inv X pins σ H s) (h:ta σ H λ x H1=>tb σ H1 λ y H2=>R x y H2)
  {α:Type} {Q:α->aD->Prop} {f:aC->aC->Sem α}
  (hf:∀ v u s2 x y H2,Inv X pins σ H2 s2->RelV x v->RelV y u->R x y H2->wpAny (model X.prog X.w) X.A (f v u) Q X.xe s2) :
  wpAny (model X.prog X.w) X.A (eval a X.env) (λ v s₁=>wpAny (model X.prog X.w) X.A (eval b X.env) (λ u s₂=>wpAny (model X.prog X.w) X.A (f v u) Q X.xe s₂) X.xe s₁) X.xe s:=by
 refine A7 (ha pins s σ H _ I h) λ v s1 ⟨x,H1,I1,r1,q1⟩=>?_;refine A7 (hb pins s1 σ H1 _ I1 q1) λ u s2 ⟨y,H2,I2,r2,q2⟩=>?_;exact hf v u s2 x y H2 I2 r1 r2 q2
def a5V (i:Nat):TE:=λ σ H Q=>∃ v,σ[i]?=some (some v)/\Q v H
def tC (v:V):TE:=λ _ H Q=>Q v H
theorem b3J {i:Nat} {x:Str} {pos:Pos} (hN:X.N[i]?=some x) (hv:Vis X.env.scope x) (hd:(x==("__debug__":Str))=false:=by decide) (hcd:(x==("__classdict__":Str))=false:=by decide):PE X (.Name x pos) (a5V i):=by
 intro pins s σ H Q I h;obtain ⟨v,e,h⟩:=h;obtain ⟨m,hn,hl⟩:=I.loc;obtain ⟨u,r,l⟩:=hl i x v hN e hv;have fin:EP X pins σ Q u s:=⟨v,H,I,r,h⟩;rcases l with ⟨hk,hm⟩ | ⟨hk,c,hc,hcell⟩
 ·exact oW (wpAny_loadName_local I.ok.kind hk hn hm fin) hd
 ·rcases hk with hk | hk
  ·exact oW (wpAny_loadName_cell I.ok.kind hk hc hcell fin) hd
  ·exact oW (wpAny_loadName_free I.ok.kind hk hc hcell fin hcd) hd
theorem i8 {i j pos}:PE X (.Constant (.int i) j pos) (tC (.int i)):=λ _ _ _ H _ I h=>wpAny_Constant_int ⟨.int i,H,I.tok _,⟨_,rfl⟩,h⟩
theorem a1E {b j pos}:PE X (.Constant (.bool b) j pos) (tC (.bl b)):=λ _ _ _ H _ I h=>Constant_bool ⟨.bl b,H,I,rfl,h⟩
theorem M2 {j pos}:PE X (.Constant .none j pos) (tC .non):=λ _ _ _ H _ I h=>rH ⟨.non,H,I,rfl,h⟩
theorem C5 {x j pos}:PE X (.Constant (.str x) j pos) (tC (.str x)):=λ _ _ _ H _ I h=>Calls.Constant_str ⟨.str x,H,I.tok _,⟨_,rfl⟩,h⟩
def Gl (X:Cx) (x:Str):Prop:=X.env.kindOf x=some .globalImplicit
theorem V1 {E:aC->aD->Prop} {pins:List (aA×Obj)} {s:aD} {σ:St} {H:Hp} {x:Str} {u:aC} {pos:Pos} {Q:aC->aD->Prop} (I:Inv X pins σ H s) (hg:Gl X x) (hm:X.mg x=some u) (h:Q u s)
  (hd:(x==("__debug__":Str))=false:=by decide):wpAny (model X.prog X.w) X.A (eval (.Name x pos) X.env) Q E s :=
 rJ I.ok.kind hg (Calls.loadGlobal_global (by rw [I.ok.glob]; exact I.mod.glob.keeps I.bk) hm h) hd
theorem T9 {E:aC->aD->Prop} {pins:List (aA×Obj)} {s:aD} {σ:St} {H:Hp} {x:Str} {u:aC} {pos:Pos} {Q:aC->aD->Prop} (I:Inv X pins σ H s) (hg:Gl X x) (hm:X.mg x=none) (hv:bootBuiltins x=some u) (h:Q u s)
  (hn:x≠"__name__":=by decide) (hd:(x==("__debug__":Str))=false:=by decide):wpAny (model X.prog X.w) X.A (eval (.Name x pos) X.env) Q E s:=by
 obtain ⟨mb,h1,h2⟩:=I.mod.blt;exact rJ I.ok.kind hg (Calls.loadGlobal_builtin (by rw [I.ok.glob]; exact I.mod.glob.keeps I.bk) hm (by rw [I.ok.blt]; exact h1.keeps I.bk) ((h2 x hn).trans hv) h) hd
theorem E6 {x:Str} {v:V} {u:aC} {pos:Pos} (hg:Gl X x) (hm:X.mg x=some u) (r:RelV v u) (hd:(x==("__debug__":Str))=false:=by decide):PE X (.Name x pos) (tC v) :=
 λ _ _ _ H _ I h=>V1 I hg hm ⟨v,H,I,r,h⟩ hd
theorem a0R {x:Str} {v:V} {u:aC} {pos:Pos} (hg:Gl X x) (hm:X.mg x=none) (hv:bootBuiltins x=some u) (r:RelV v u) (hn:x≠"__name__":=by decide) (hd:(x==("__debug__":Str))=false:=by decide):PE X (.Name x pos) (tC v) :=
 λ _ _ _ H _ I h=>T9 I hg hm hv ⟨v,H,I,r,h⟩ hn hd
variable {a b:aN} {ta tb:TE} {pos:Pos}
def tB (t:TE):TT:=λ σ H Q=>t σ H λ x H1=>∃ c,x=.bl c/\Q c H1
theorem X9 {e:aN} {t:TE} (h:PE X e t) (he:∀ whole,isTrue e X.env whole=(do let v <- whole; standAt e.pos; holding [v] (truthy v)):=by intro _; rfl):PT X e (tB t):=by
 intro pins s σ H Q I hw;refine isTrue_plain (A7 (h pins s σ H _ I hw) λ v s1 ⟨x,H1,I1,r1,q1⟩=>?_) (he _);obtain ⟨d,rfl,q⟩:=q1
 cases r1;exact gB ⟨H1,I1,q⟩
variable {tA tB':TT} {rest:List aN}
def b5H (t u:TT):TT:=λ σ H Q=>t σ H λ c H1=>if c=true then u σ H1 Q else Q false H1
def tOr (t u:TT):TT:=λ σ H Q=>t σ H λ c H1=>if c=true then Q true H1 else u σ H1 Q
def b6z (t:TT):TT:=λ σ H Q=>t σ H λ c H1=>Q (!c) H1
theorem a1X (ha:PT X a tA):PW X (.BoolOp .And [a] pos) tA:=by
 intro wh pins s σ H Q I h;refine isTrue_and (A7 (ha pins s σ H Q I h) λ c s1 e=>?_)
 cases c with
 | true=>exact isTrue_and_nil e
 | false=>exact e
theorem a0t (ha:PT X a tA):PW X (.BoolOp .Or [a] pos) tA:=by
 intro wh pins s σ H Q I h;refine isTrue_or (A7 (ha pins s σ H Q I h) λ c s1 e=>?_)
 cases c with
 | false=>exact isTrue_or_nil e
 | true=>exact e
theorem a3J (ha:PT X a tA) (hb:PW X (.BoolOp .And (b::rest) pos) tB'):PW X (.BoolOp .And (a::b::rest) pos) (b5H tA tB'):=by
 intro wh pins s σ H Q I h;refine isTrue_and (A7 (ha pins s σ H _ I h) λ c s1 ⟨H1,I1,q1⟩=>?_)
 cases c with
 | true=>exact hb wh pins s1 σ H1 Q I1 q1
 | false=>exact ⟨H1,I1,q1⟩
theorem a2l (ha:PT X a tA) (hb:PW X (.BoolOp .Or (b::rest) pos) tB'):PW X (.BoolOp .Or (a::b::rest) pos) (tOr tA tB'):=by
 intro wh pins s σ H Q I h;refine isTrue_or (A7 (ha pins s σ H _ I h) λ c s1 ⟨H1,I1,q1⟩=>?_)
 cases c with
 | true=>exact ⟨H1,I1,q1⟩
 | false=>exact hb wh pins s1 σ H1 Q I1 q1
theorem a1a (ha:PT X a tA):PT X (.UnaryOp .Not a pos) (b6z tA):=by
 intro pins s σ H Q I h;exact isTrue_not (ha pins s σ H (λ c H1=>Q (!c) H1) I h)
def b4m (ta tb:TE):TE:=λ σ H Q=>ta σ H λ x H1=>∃ c,x=.bl c/\if c=true then tb σ H1 Q else Q (.bl false) H1
def b4B (ta:TE):TE:=λ σ H Q=>ta σ H λ x H1=>∃ c,x=.bl c/\Q (.bl (!c)) H1
theorem a3P {op} {t:TE} (h:PE X a t):PE X (.BoolOp op [a] pos) t:=λ pins s σ H Q I hw=>BoolOp_one (h pins s σ H Q I hw)
theorem a3C (ha:PE X a ta) (hb:PE X (.BoolOp .And (b::rest) pos) tb):PE X (.BoolOp .And (a::b::rest) pos) (b4m ta tb):=by
 intro pins s σ H Q I h;refine BoolOp_and (A7 (ha pins s σ H _ I h) λ v s1 ⟨x,H1,I1,r1,q1⟩=>?_);obtain ⟨c,rfl,q1⟩:=q1
 cases r1;refine gB ?_
 cases c with
 | true=>exact hb pins s1 σ H1 Q I1 q1
 | false=>exact ⟨.bl false,H1,I1,rfl,q1⟩
theorem b2C (ha:PE X a ta):PE X (.UnaryOp .Not a pos) (b4B ta):=by
 intro pins s σ H Q I h;refine UnaryOp_ (A7 (ha pins s σ H _ I h) λ v s1 ⟨x,H1,I1,r1,q1⟩=>?_);obtain ⟨c,rfl,q1⟩:=q1
 cases r1;exact not_of (gB ⟨.bl (!c),H1,I1,rfl,q1⟩)
end
def SqL (K:aE) (H:Hp) (a:aA) (xs:List V):Prop :=
 Rd H a (.lst xs) ∨
  ∃ (o:Obj) (its:Array aC) (n:Nat),K.lookup a=some o/\o.cls=.type "list"/\o.dict=none/\o.data=.seq its n/\its.size<=sizeLine/\Vals xs its.toList
def SqT (K:aE) (H:Hp) (a:aA) (xs:List V):Prop :=
 Rd H a (.tup xs) ∨
  ∃ (o:Obj) (its:Array aC) (n:Nat),K.lookup a=some o/\o.cls=.type "tuple"/\o.data=.seq its n/\its.size<=sizeLine/\Vals xs its.toList
def b5F:aC->Option V
 | .none=>some .non
 | .bool b=>some (.bl b)
 | .int i _=>some (.int i)
 | .str x _=>some (.str x)
 | .bytes b _=>some (.byt b)
 | .float b _=>some (.flt b)
 | .ref a=>some (.ref a)
 | .type n=>some (.ty n)
 | _=>none
theorem RelV.abs {x:V} {u:aC} (r:RelV x u):b5F u=some x:=by
 cases x with
 | non=>cases r; rfl
 | bl _=>cases r; rfl
 | int _=>obtain ⟨t,rfl⟩:=r; rfl
 | str _=>obtain ⟨t,rfl⟩:=r; rfl
 | byt _=>obtain ⟨t,rfl⟩:=r; rfl
 | flt _=>obtain ⟨t,rfl⟩:=r; rfl
 | ref _=>cases r; rfl
 | ty _=>cases r; rfl
theorem RelV.inj {x y:V} {u:aC} (r:RelV x u) (q:RelV y u):x=y:=bG (r.abs.symm.trans q.abs)
theorem Vals.inj:∀ {xs ys:List V} {us:List aC},Vals xs us->Vals ys us->xs=ys
 | _,_,_,.nil,.nil=>rfl
 | _,_,_,.cons r t,.cons r' t'=>by rw [r.inj r',Vals.inj t t']
section
variable {X:Cx} {pins:List (aA×Obj)} {σ:St} {H:Hp} {s:aD} {a:aA} {xs ys:List V}
theorem SqL.of {K:aE} (h:H a=some (.lst xs)):SqL K H a xs:=.inl (.inl h)
theorem SqT.of {K:aE} (h:H a=some (.tup xs)):SqT K H a xs:=.inl (.inl h)
theorem Inv.list (I:Inv X pins σ H s) (h:SqL X.K H a xs):∃ its:List aC,Vals xs its/\PlainL s.heap a its.toArray/\xs.length<=sizeLine:=by
 rcases h with h | ⟨o,its,n,hk,hc,hd,hs,hz,r⟩
 ·obtain ⟨z,its,n,r,e⟩:=h.ok I.hok
  exact ⟨its,r,⟨_,n,e,rfl,rfl,rfl⟩,z⟩
 ·refine ⟨its.toList,r,⟨o,n,I.kIn a o hk,hc,hd,by simpa using hs⟩,?_⟩
  have e:=r.length;simp only [rL] at e;omega
theorem Inv.tuple (I:Inv X pins σ H s) (h:SqT X.K H a xs):∃ its:List aC,Vals xs its/\fT s.heap a its.toArray/\xs.length<=sizeLine:=by
 rcases h with h | ⟨o,its,n,hk,hc,hs,hz,r⟩
 ·obtain ⟨z,its,r,p⟩:=h.ok I.hok
  exact ⟨its,r,p,z⟩
 ·refine ⟨its.toList,r,⟨o,I.kIn a o hk,hc,n,by simpa using hs⟩,?_⟩
  have e:=r.length;simp only [rL] at e;omega
theorem Inv.list_inj (I:Inv X pins σ H s) (h:SqL X.K H a xs) (h':SqL X.K H a ys):xs=ys:=by
 obtain ⟨its,r,⟨o,n,e,_,_,d⟩,_⟩:=I.list h;obtain ⟨its',r',⟨o',n',e',_,_,d'⟩,_⟩:=I.list h';rw [e] at e'; cases e';rw [d] at d';injection d' with d1 _
 have:its=its':=by simpa using congrArg rN d1
 subst this;exact r.inj r'
theorem Inv.tuple_inj (I:Inv X pins σ H s) (h:SqT X.K H a xs) (h':SqT X.K H a ys):xs=ys:=by
 obtain ⟨its,r,⟨o,e,_,n,d⟩,_⟩:=I.tuple h;obtain ⟨its',r',⟨o',e',_,n',d'⟩,_⟩:=I.tuple h';rw [e] at e'; cases e';rw [d] at d';injection d' with d1 _
 have:its=its':=by simpa using congrArg rN d1
 subst this;exact r.inj r'
end
abbrev Cx.wish (X:Cx) (E:aC->aD->Prop):Cx:={ X with xe:=E }
abbrev Cx.nox (X:Cx):Cx:=X.wish λ _ _=>False
theorem Cx.Ok.wish {X:Cx} (ok:X.Ok) (E:aC->aD->Prop):(X.wish E).Ok :=
 ⟨ok.mod,ok.kind,ok.glob,ok.blt,ok.above,ok.inj,ok.has,ok.cab,ok.hd,ok.frames,ok.stk,ok.exf,ok.bs,ok.bsz,ok.noex,ok.exfs,ok.funs,ok.frf⟩
theorem Cx.Ok.unwish {X:Cx} {E:aC->aD->Prop} (ok:(X.wish E).Ok):X.Ok :=
 ⟨ok.mod,ok.kind,ok.glob,ok.blt,ok.above,ok.inj,ok.has,ok.cab,ok.hd,ok.frames,ok.stk,ok.exf,ok.bs,ok.bsz,ok.noex,ok.exfs,ok.funs,ok.frf⟩
section
variable {X:Cx} {pins:List (aA×Obj)} {σ:St} {H:Hp} {s:aD} {E:aC->aD->Prop}
theorem Inv.wish (I:Inv X pins σ H s) (E:aC->aD->Prop):Inv (X.wish E) pins σ H s:=⟨I.ok.wish E,I.os,I.bare,I.base,I.loc,I.cell,I.free,I.freeC,I.pin,I.hok,I.len⟩
theorem Inv.unwish (I:Inv (X.wish E) pins σ H s):Inv X pins σ H s:=⟨I.ok.unwish,I.os,I.bare,I.base,I.loc,I.cell,I.free,I.freeC,I.pin,I.hok,I.len⟩
theorem SP.unwish {D:Ends} {f:Flow} {s':aD} (h:SP (X.wish E) pins D f s'):SP X pins D f s':=by
 cases f with
 | next=>obtain ⟨σ',H',I,q⟩:=h; exact ⟨σ',H',I.unwish,q⟩
 | brk=>obtain ⟨σ',H',I,q⟩:=h; exact ⟨σ',H',I.unwish,q⟩
 | cont=>obtain ⟨σ',H',I,q⟩:=h; exact ⟨σ',H',I.unwish,q⟩
 | ret u=>obtain ⟨v,σ',H',I,r,q⟩:=h; exact ⟨v,σ',H',I.unwish,r,q⟩
theorem PSs.nox {st:List aO} {t:TS} (h:PSs X.nox st t):PSs X st t:=λ pins s σ H D I hw =>
 cZ (h pins s σ H D (I.wish _) hw) (λ _ _ q=>q.unwish) λ _ _ z=>dD z
end
section
variable {X:Cx} {st:aO} {rest:List aO} {t u:TS} {e:aN} {te:TE} {pos:Pos}
def b5n:TS:=λ D σ H=>D.nx σ H
def b6b (t u:TS):TS:=λ D σ H=>t { D with nx:=u D } σ H
theorem t7:PSs X [] b5n:=λ _ _ σ H _ I h=>lD ⟨σ,H,I,h⟩
theorem j0 (h1:PS X st t) (h2:PSs X rest u):PSs X (st::rest) (b6b t u):=by
 intro pins s σ H D I h;refine oX (A7 (h1 pins s σ H { D with nx:=u D } I h) λ f s1 q=>?_)
 cases f with
 | next =>
  obtain ⟨σ',H',I',q⟩:=q;exact h2 pins s1 σ' H' D I' q
 | ret v=>exact q
 | brk=>exact q
 | cont=>exact q
theorem j5 (h1:PS X st t):PSs X [st] t:=by
 intro pins s σ H D I h;refine oX (A7 (h1 pins s σ H D I h) λ f s1 q=>?_)
 cases f with
 | next=>exact lD q
 | ret v=>exact q
 | brk=>exact q
 | cont=>exact q
theorem Inv.quiet {pins:List (aA×Obj)} {σ:St} {H:Hp} {s:aD} (I:Inv X pins σ H s):interactive X.env=false:=by simp [interactive,I.ok.kind]
def b5f (te:TE):TS:=λ D σ H=>te σ H λ _ H1=>D.nx σ H1
theorem E8 (he:PE X e te) (hs:swapsWith e none pos.line X.env=pure false:=by rfl):PS X (.Expr e pos) (b5f te):=by
 intro pins s σ H D I h;exact wpAny_Expr_any (A7 (he pins s σ H _ I h) λ v s1 ⟨x,H1,I1,r1,q1⟩=>⟨σ,H1,I1,q1⟩) I.quiet hs
def b6m (te:TE):TS:=λ D σ H=>te σ H D.rt
theorem o8 (he:PE X e te):PS X (.Return (some e) pos) (b6m te):=by
 intro pins s σ H D I h;exact wpAny_Return_some (A7 (he pins s σ H _ I h) λ v s1 ⟨x,H1,I1,r1,q1⟩=>⟨x,σ,H1,I1,r1,q1⟩)
def b6e (c:TT) (t u:TS):TS:=λ D σ H=>c σ H λ b H1=>if b=true then t D σ H1 else u D σ H1
theorem w8 {c:aN} {a b:List aO} {tc:TT} (hc:PT X c tc) (ha:PSs X a t) (hb:PSs X b u):PS X (.If c a b pos) (b6e tc t u):=by
 intro pins s σ H D I h;refine wpAny_If (A7 (hc pins s σ H _ I h) λ d s1 ⟨H1,I1,q1⟩=>?_)
 cases d with
 | true=>exact ha pins s1 σ H1 D I1 q1
 | false=>exact hb pins s1 σ H1 D I1 q1
def b3O:TS:=λ _ _ _=>False
theorem a3w {sts:List aO}:PSs X sts b3O:=λ _ _ _ _ _ _ h=>h.elim
end
abbrev TG:=V->St->Hp->(St->Hp->Prop)->Prop
abbrev TGs:=List V->St->Hp->(St->Hp->Prop)->Prop
def PG (X:Cx) (target:aN) (t:TG):Prop :=
 ∀ (pins:List (aA×Obj)) (s:aD) (σ:St) (H:Hp) (v:V) (u:aC) (Q:St->Hp->Prop),Inv X pins σ H s->RelV v u->t v σ H Q →
  wpAny (model X.prog X.w) X.A (assign target X.env u) (λ _ s'=>∃ σ' H',Inv X pins σ' H' s'/\Q σ' H') X.xe s
def PGs (X:Cx) (ts:List aN) (t:TGs):Prop :=
 ∀ (pins:List (aA×Obj)) (s:aD) (σ:St) (H:Hp) (vs:List V) (us:List aC) (Q:St->Hp->Prop),Inv X pins σ H s->Vals vs us->t vs σ H Q →
  wpAny (model X.prog X.w) X.A (assignInOrder ((assignEach ts X.env).map (·.2)) us) (λ _ s'=>∃ σ' H',Inv X pins σ' H' s'/\Q σ' H') X.xe s
abbrev b3E:=V->V->V->Hp->(Hp->Prop)->Prop
def b4w (X:Cx) (t:b3E):Prop :=
 ∀ (pins:List (aA×Obj)) (s:aD) (σ:St) (H:Hp) (o i v:V) (ov iv u:aC) (Q:Hp->Prop),Inv X pins σ H s->RelV o ov->RelV i iv->RelV v u->t o i v H Q →
  wpAny (model X.prog X.w) X.A (setItem ov iv u) (λ _ s'=>∃ H',Inv X pins σ H' s'/\Q H') X.xe s
section
variable {X:Cx} {pos:Pos}
def K9 (i:Nat):TG:=λ v σ H Q=>Q (σ.set i (some v)) H
theorem m9 {i:Nat} {x:Str} (hN:X.N.Nodup) (hi:X.N[i]?=some x) (hx:Loc X.env.scope x) (hf:X.fn x=true\/X.env.scope.names.lookup x=some .local:=by first | exact .inl rfl | exact .inr rfl | assumption):PG X (.Name x pos) (K9 i):=by
 intro pins s σ H v u Q I r h;exact mQ (X6 I hN hi hx r (λ s' I'=>⟨_,H,I',h⟩) hf)
def a4J:TGs:=λ vs σ H Q=>vs=[]/\Q σ H
def R6 (t:TG) (u:TGs):TGs:=λ vs σ H Q=>∃ v r,vs=v::r/\t v σ H λ σ' H'=>u r σ' H' Q
theorem C2:PGs X [] a4J:=by
 intro pins s σ H vs us Q I r h;obtain ⟨e,h⟩:=h;subst e
 cases r;exact rO ⟨σ,H,I,h⟩
theorem r9 {e:aN} {es:List aN} {t:TG} {u:TGs} (h1:PG X e t) (h2:PGs X es u)
  (hs:(assignEach (e::es) X.env).map (·.2)=assign e X.env::(assignEach es X.env).map (·.2):=by rfl):PGs X (e::es) (R6 t u):=by
 intro pins s σ H vs us Q I r h;obtain ⟨v,vr,e1,h⟩:=h;subst e1
 cases r with
 | cons r rr =>
  rw [hs];refine oY (A7 (h1 pins s σ H _ _ _ I r h) λ _ s1 ⟨σ1,H1,I1,q1⟩=>?_);exact h2 pins s1 σ1 H1 _ _ Q I1 rr q1
def a4j (K:aE) (n:Nat) (t:TGs):TG:=λ v σ H Q=>∃ a xs,v=.ref a/\SqT K H a xs/\xs.length=n/\t xs σ H Q
theorem W9 {es:List aN} {k:Nat} {t:TGs} {n:Nat} (hc:X.calm=true) (h:PGs X es t)
  (hn:(assignEach es X.env).length=n:=by rfl) (hst:(assignEach es X.env).findIdx? (·.1)=none:=by rfl):PG X (.Tuple es k pos) (a4j X.K n t):=by
 intro pins s σ H v u Q I r hw;obtain ⟨a,xs,e1,hq,hl,hw⟩:=hw;subst e1
 cases r;obtain ⟨its,rv,ht,hz⟩:=I.tuple hq;refine assign_Tuple_tuple (I.ok.hd hc) ht (by simp [hn,<- hl,rv.length]) hst λ h' hx=>?_;have I1:Inv X pins σ H { s with heap:=h' }:=I.kept (t':=s.toks) λ b o e=>hx b o (cF (bC e)) e;exact h pins _ σ H xs _ Q I1 (by simpa using rv) hw
def b6x (to ti:TE) (t:b3E):TG:=λ v σ H Q=>to σ H λ o H1=>ti σ H1 λ i H2=>t o i v H2 λ H3=>Q σ H3
theorem T1 {o i:aN} {to ti:TE} {t:b3E} (ho:PE X o to) (hi:PE X i ti) (hs:b4w X t)
  (ha:∀ v,assign (.Subscript o i pos) X.env v=(do
   let ov <- holding [v] (eval o X.env)
   let iv <- holding [v,ov] (eval i X.env)
   standAt pos
   holding [v,ov,iv] (setItem ov iv v)
   release [v,ov,iv] []):=by intro _; rfl):PG X (.Subscript o i pos) (b6x to ti t):=by
 intro pins s σ H v u Q I r h;rw [ha];refine aF (fK (A7 (ho pins s σ H _ I h) λ ov s1 ⟨x,H1,I1,r1,q1⟩=>?_));refine aF (fK (A7 (hi pins s1 σ H1 _ I1 q1) λ iv s2 ⟨y,H2,I2,r2,q2⟩=>?_));refine aF (gU (aF (fK (A7 (hs pins s2 σ H2 x y v ov iv u _ I2 r1 r2 r q2) λ _ s3 ⟨H3,I3,q3⟩=>?_))));exact wpAny_release ⟨σ,H3,I3,q3⟩
def a4D (te:TE) (g:TG):TS:=λ D σ H=>te σ H λ x H1=>g x σ H1 D.nx
theorem K5 {tg e:aN} {te:TE} {g:TG} (he:PE X e te) (hg:PG X tg g) (hs:swapsWithSole [tg] e pos.line X.env=pure false:=by rfl) (hw:swappedStores [tg] e X.env=pure none:=by rfl)
  (h1:(assignEach [tg] X.env).map (·.2)=[assign tg X.env]:=by rfl):PS X (.Assign [tg] e pos) (a4D te g):=by
 intro pins s σ H D I h;refine wpAny_Assign_stores (A7 (he pins s σ H _ I h) λ v s1 ⟨x,H1,I1,r1,q1⟩=>?_) hs hw;rw [h1];exact A7 (hg pins s1 σ H1 x v _ I1 r1 q1) λ _ s2 q=>q
theorem o7 {i:Nat} {x:Str} {e:aN} {te:TE} {pos':Pos} (hN:X.N.Nodup) (hi:X.N[i]?=some x) (hx:Loc X.env.scope x) (he:PE X e te) (hs:swapsWith e (some (.Name x pos')) pos.line X.env=pure false:=by rfl) (hf:X.fn x=true\/X.env.scope.names.lookup x=some .local:=by first | exact .inl rfl | exact .inr rfl | assumption) :
  PS X (.Assign [.Name x pos'] e pos) (a4D te (K9 i)):=by
 intro pins s σ H D I h;refine wpAny_Assign_Name (A7 (he pins s σ H _ I h) λ v s1 ⟨y,H1,I1,r1,q1⟩=>?_) hs;exact X6 I1 hN hi hx r1 (λ s2 I2=>⟨_,H1,I2,q1⟩) hf
def b6B (i j:Nat) (ta:TA):TS:=λ D σ H=>ta σ H λ vs H1=>∃ v w,vs=[v,w]/\D.nx ((σ.set i (some v)).set j (some w)) H1
theorem b2E {i j:Nat} {x y:Str} {a b:aN} {ta:TA} {px py pt:Pos} {kt k2 pt2} (hc:X.calm=true) (hN:X.N.Nodup) (hi:X.N[i]?=some x) (hj:X.N[j]?=some y) (hij:i≠j)
  (hx:X.env.scope.names.lookup x=some .local) (hy:X.env.scope.names.lookup y=some .local) (ha:PA X [a,b] ta)
  (hw:swappedStores [.Tuple [.Name x px,.Name y py] kt pt] (.Tuple [a,b] k2 pt2) X.env=pure (some [x,y]))
  (hs:swapsWithSole [.Tuple [.Name x px,.Name y py] kt pt] (.Tuple [a,b] k2 pt2) pos.line X.env=pure false:=by rfl) :
  PS X (.Assign [.Tuple [.Name x px,.Name y py] kt pt] (.Tuple [a,b] k2 pt2) pos) (b6B i j ta):=by
 intro pins s σ H D I h;rw [exec_Assign_arm];refine aF (gU ?_);rw [hs];refine aF (aT ?_);rw [if_neg (by decide)];refine aF (Tuple_ (A7 (ha _ pins s σ H _ I h) λ us s1 ⟨vs,H1,I1,r1,q1⟩=>?_));obtain ⟨v,w,e1,q1⟩:=q1;subst e1;obtain ⟨u1,u2,rfl,rv,rw'⟩:∃ u1 u2,us=[u1,u2]/\RelV v u1/\RelV w u2:=by
  cases r1 with
  | cons p q =>
   cases q with
   | cons p' q' =>
    cases q';exact ⟨_,_,rfl,p,p'⟩
 refine lE ?_ (by show 2<=sizeLine; decide);have I2:Inv X pins σ H1 { s1 with heap:=s1.heap.push { cls:=.type "tuple",data:=.seq [u1,u2].toArray } }:=I1.kept (t':=s1.toks) λ b o e=>bE _ e;rw [hw];refine aF (aT ?_)
 show wpAny (model X.prog X.w) X.A (do rule "assign.swapped-stores"; let items <- unpackItems (.ref s1.heap.objs.size) 2 none; assignInOrder [λ v=>bindName X.env y v,λ v=>bindName X.env x v] items.reverse; pure Flow.next) _ _ _
 refine aF (iD (aF (unpackItems_tuple (items:=#[u1,u2]) (I.ok.hd hc) (oZ s1.heap _) λ h' hx'=>?_)));have I3:=I2.kept (h':=h') (t':=s1.toks) λ b o e=>hx' b o (cF (bC e)) e
 show wpAny _ _ (assignInOrder [λ v=>bindName X.env y v,λ v=>bindName X.env x v] [u2,u1] >>= λ _=>pure Flow.next) _ _ _
 refine aF (oY (rP (X6 I3 hN hj (.inl hy) rw' (λ s2 I4=>?_) (.inr hy))));refine oY (rP (X6 I4 hN hi (.inl hx) rv (λ s3 I5=>rO (aT ?_)) (.inr hx)));rw [jP _ _ (bI hij)] at I5;exact ⟨_,H1,I5,q1⟩
end
section
variable {X:Cx} {pos:Pos}
def b0v (c:TT) (tb:TS):TS:=λ D σ H=>∃ W:Nat->St->Hp->Prop,(∃ m,W m σ H)/\∀ m σ H,W m σ H →
 c σ H λ b H1=>if b=true then ∃ N:St->Hp->Prop,(∀ σ' H',N σ' H'->∃ m',m'<m/\W m' σ' H')/\tb { D with nx:=N,ct:=N,bk:=D.nx } σ H1 else D.nx σ H1
theorem a4O {c:aN} {body:List aO} {tc:TT} {tb:TS} (hp:PassesOwn (model X.prog X.w) X.A X.env X.xe) (hc:PT X c tc) (hb:PSs X body tb):PS X (.While c body [] pos) (b0v tc tb):=by
 intro pins s σ H D I h;obtain ⟨W,⟨m0,w0⟩,turn⟩:=h;refine wpAny_While (codeAny_whileLoop (λ n s'=>∃ σ' H',Inv X pins σ' H' s'/\W n σ' H') ?_ m0 ⟨σ,H,I,w0⟩);rintro n s1 ⟨σ1,H1,I1,w1⟩;refine iY hp (A7 (hc pins s1 σ1 H1 _ I1 (turn n σ1 H1 w1)) λ b s2 ⟨H2,I2,q2⟩=>?_)
 cases b with
 | true =>
  obtain ⟨N,hN,q2⟩:=q2;rw [if_pos rfl];refine iY hp (A7 (hb pins s2 σ1 H2 _ I2 q2) λ f s3 q3=>?_)
  cases f with
  | next =>
   obtain ⟨σ3,H3,I3,n3⟩:=q3;obtain ⟨m',hm,w3⟩:=hN σ3 H3 n3;exact ⟨m',hm,σ3,H3,I3,w3⟩
  | cont =>
   obtain ⟨σ3,H3,I3,n3⟩:=q3;obtain ⟨m',hm,w3⟩:=hN σ3 H3 n3;exact ⟨m',hm,σ3,H3,I3,w3⟩
  | brk=>exact q3
  | ret v=>exact q3
 | false =>
  rw [if_neg cS];exact lD ⟨σ1,H2,I2,q2⟩
end
structure It where
 go:Nat->Hp->Prop
 yld:Nat->Hp->V->Hp->Prop
 stop:Nat->Hp->Prop
def T3 (X:Cx) (pins:List (aA×Obj)) (H:Hp) (b:aA):Prop :=
 H b=none/\b≠X.env.locals/\b ∉ X.fs/\(b∈X.ex\/X.s₀.heap.objs.size<=b)/\(∀ x c,X.env.cells.lookup x=some c->c≠b)/\∀ p∈X.pn++pins,p.1≠b
theorem Inv.fpOk {X:Cx} {pins:List (aA×Obj)} {σ:St} {H H':Hp} {s:aD} {b:aA} (I:Inv X pins σ H s) (hb:s.heap.objs.size<=b) (hn:H' b=none):T3 X pins H' b:=by
 refine ⟨hn,eH (bM I.lt hb),I.nofs hb,.inr (cO I.sz hb),λ x c e z=>?_,λ p hp z=>?_⟩
 ·obtain ⟨v,q⟩:=I.cell x c e
  exact absurd (bM q.lt (by rw [z]; exact hb)) (cN _)
 ·exact absurd (bM (bC (I.pin p hp).1) (by rw [z]; exact hb)) (cN _)
structure a4E (P:aL) (w:aI) (K:aE) (tg:aN) (J:It) (fp:List aA) (it:aA) (tn:Nat->aG->Prop):Prop where
 mem:it∈fp
 obj:∀ i h,tn i h->∀ b∈fp,∃ o,h.get? b=some o/\∀ v,o.data≠.cell v
 keep:∀ i h h',tn i h->(∀ b∈fp,∀ o,h.get? b=some o->h'.get? b=some o)->tn i h'
 item:∀ (X:Cx),X.prog=P->X.w=w->X.K=K->X.calm=true->∀ (i:Nat) (pins:List (aA×Obj)) (s:aD) (σ:St) (H:Hp) (E:aC->aD->Prop),Inv X pins σ H s->(∀ b∈fp,T3 X pins H b)->tn i s.heap->J.go i H →
  wpAny (model P w) X.A (pyNext (.ref it)) (λ r s1=>∃ u,r=some u ∧
   wpAny (model P w) X.A (letOwnedTupleGo tg (.ref it) u) (λ _ s2=>∃ x H',Inv X pins σ H' s2/\RelV x u/\J.yld i H x H'/\tn (i+1) s2.heap/\∀ b∈fp,H' b=none) E s1) E s
 done:∀ (X:Cx),X.prog=P->X.w=w->X.K=K->X.calm=true->∀ (i:Nat) (pins:List (aA×Obj)) (s:aD) (σ:St) (H:Hp) (E:aC->aD->Prop),Inv X pins σ H s->(∀ b∈fp,T3 X pins H b)->tn i s.heap->J.stop i H →
  wpAny (model P w) X.A (pyNext (.ref it)) (λ r s1=>r=none/\Inv X pins σ H s1) E s
 self:∀ (A:aY) (i:Nat) (s:aD) (Q:aC->aD->Prop) (E:aC->aD->Prop),tn i s.heap->Q (.ref it) s->wpAny (model P w) A (pyIter (.ref it)) Q E s
abbrev TI:=St->Hp->(It->Hp->Prop)->Prop
def PIE (X:Cx) (pins:List (aA×Obj)) (σ:St) (tg:aN) (R:It->Hp->Prop) (itv:aC) (s2:aD):Prop :=
 ∃ (it:aA) (fp:List aA) (tn:Nat->aG->Prop) (J:It) (H':Hp),itv=.ref it/\Inv X pins σ H' s2/\a4E X.prog X.w X.K tg J fp it tn/\tn 0 s2.heap/\(∀ b∈fp,T3 X pins H' b)/\R J H'
def PI (X:Cx) (tg iter:aN) (wi:TI):Prop :=
 ∀ (pins:List (aA×Obj)) (s:aD) (σ:St) (H:Hp) (R:It->Hp->Prop),Inv X pins σ H s->wi σ H R →
  wpAny (model X.prog X.w) X.A (eval iter X.env) (λ v s1=>wpAny (model X.prog X.w) X.A (pyIter v) (PIE X pins σ tg R) X.xe s1) X.xe s
theorem a9G {M:iW} {A:aY} {E:aC->aD->Prop} {s:aD} {tg:aN} {it:aA} {u:aC} {o:Obj} {n:String} {vs:Array aC} {Q:Unit->aD->Prop} (ho:s.heap.get? it=some o) (hc:o.cls=.type n) (hd:o.data=.fields vs)
    (hn:["enumerate","zip","dict_itemiterator","dict_reverseitemiterator","odict_iterator","itertools.zip_longest","itertools.pairwise"].contains n=false) (hQ:Q () s):wpAny M A (letOwnedTupleGo tg (.ref it) u) Q E s:=by
  unfold letOwnedTupleGo
  cases tg <;> first
    | exact aT hQ
    | (cases u <;> first
        | exact aT hQ
        | (refine aF (wpAny_load ho ?_)
           rw [hc,hd]
           show wpAny M A (if (["enumerate","zip","dict_itemiterator","dict_reverseitemiterator","odict_iterator","itertools.zip_longest","itertools.pairwise"].contains n&&vs[0]?==some (rawInt _))=true then _ else _) Q E s
           rw [if_neg (by intro h; rw [hn,Bool.false_and] at h; cases h)];exact aT hQ))
def Itl (K:aE) (a:aA):It :=
 ⟨λ i H=>∃ xs x,SqL K H a xs/\xs[i]?=some x,λ i H x H'=>H'=H/\∀ xs,SqL K H a xs->xs[i]?=some x,λ i H=>∃ xs,SqL K H a xs/\xs.length<=i⟩
def Itt (K:aE) (a:aA):It :=
 ⟨λ i H=>∃ xs x,SqT K H a xs/\xs[i]?=some x,λ i H x H'=>H'=H/\∀ xs,SqT K H a xs->xs[i]?=some x,λ i H=>∃ xs,SqT K H a xs/\xs.length<=i⟩
def Itr (lo:Int) (n:Nat):It:=⟨λ i _=>i<n,λ i H x H'=>H'=H/\x=.int (lo+i),λ i _=>n<=i⟩
theorem a7U {P:aL} {w:aI} {K:aE} {tg:aN} (a it:aA):a4E P w K tg (Itl K a) [it] it (λ i h=>h.IsListIter it a i) where
 mem:=by simp
 obj:=λ i h st b hb=>by
  have e:b=it:=by simpa using hb
  subst e;obtain ⟨o,e,c,d⟩:=st;exact ⟨o,e,λ v z=>by rw [d] at z; cases z⟩
 keep:=λ i h h' st k=>st.at λ o e=>k it (by simp) o e
 item:=by
  intro X hP hw hK hc i pins s σ H E I hf st hg;subst hP hw hK;obtain ⟨xs,x,hq,hx⟩:=hg;obtain ⟨its,rv,p,hz⟩:=I.list hq;obtain ⟨u,hu,ru⟩:=rv.get hx;obtain ⟨f0,f1,f2,f3,f4,f5⟩:=hf it (by simp);refine wpAny_pyNext_list_item st p.isList (x:=u) (by simpa using hu) λ h' st' sb=>?_;have I1:Inv X pins σ H { s with heap:=h' }:=I.turned (t':=s.toks) (λ b o hb e=>(sb.2 b hb).trans e) f0 f1 f3 f4 f5;obtain ⟨o,e,c,d⟩:=id st';exact ⟨u,rfl,a9G (s:={ s with heap:=h' }) e c d (by decide) ⟨x,H,I1,ru,⟨rfl,λ ys hy=>by rw [I.list_inj hy hq]; exact hx⟩,st',λ b hb=>(hf b hb).1⟩⟩
 done:=by
  intro X hP hw hK hc i pins s σ H E I hf st hg;subst hP hw hK;obtain ⟨xs,hq,hx⟩:=hg;obtain ⟨its,rv,p,hz⟩:=I.list hq;obtain ⟨f0,f1,f2,f3,f4,f5⟩:=hf it (by simp);have hl:=rv.length;exact wpAny_pyNext_list_end (I.ok.hd hc) st p.isList (by simp; omega) λ h' eb=>⟨rfl,I.turned (t':=s.toks) (λ b o hb e=>eb b o hb e) f0 f1 f3 f4 f5⟩
 self:=λ _ _ _ _ _ st h=>wpAny_pyIter_listiter st h
theorem a5R {P:aL} {w:aI} {K:aE} {tg:aN} (a it:aA):a4E P w K tg (Itt K a) [it] it (λ i h=>h.IsTupleIter it a i) where
 mem:=by simp
 obj:=λ i h st b hb=>by
  have e:b=it:=by simpa using hb
  subst e;obtain ⟨o,e,c,d⟩:=st;exact ⟨o,e,λ v z=>by rw [d] at z; cases z⟩
 keep:=λ i h h' st k=>st.at λ o e=>k it (by simp) o e
 item:=by
  intro X hP hw hK hc i pins s σ H E I hf st hg;subst hP hw hK;obtain ⟨xs,x,hq,hx⟩:=hg;obtain ⟨its,rv,p,hz⟩:=I.tuple hq;obtain ⟨u,hu,ru⟩:=rv.get hx;obtain ⟨f0,f1,f2,f3,f4,f5⟩:=hf it (by simp);refine wpAny_pyNext_tuple_item st (show s.heap.IsTuple a its.toArray from p) (x:=u) (by simpa using hu) λ h' st' sb=>?_;have I1:Inv X pins σ H { s with heap:=h' }:=I.turned (t':=s.toks) (λ b o hb e=>(sb.2 b hb).trans e) f0 f1 f3 f4 f5;obtain ⟨o,e,c,d⟩:=id st';exact ⟨u,rfl,a9G (s:={ s with heap:=h' }) e c d (by decide) ⟨x,H,I1,ru,⟨rfl,λ ys hy=>by rw [I.tuple_inj hy hq]; exact hx⟩,st',λ b hb=>(hf b hb).1⟩⟩
 done:=by
  intro X hP hw hK hc i pins s σ H E I hf st hg;subst hP hw hK;obtain ⟨xs,hq,hx⟩:=hg;obtain ⟨its,rv,p,hz⟩:=I.tuple hq;obtain ⟨f0,f1,f2,f3,f4,f5⟩:=hf it (by simp);have hl:=rv.length;exact wpAny_pyNext_tuple_end (I.ok.hd hc) st (show s.heap.IsTuple a its.toArray from p) (by simp; omega) λ h' eb=>⟨rfl,I.turned (t':=s.toks) (λ b o hb e=>eb b o hb e) f0 f1 f3 f4 f5⟩
 self:=λ _ _ _ _ _ st h=>wpAny_pyIter_tupleiter st h
theorem a5D {P:aL} {w:aI} {K:aE} {tg:aN} (it:aA) (lo:Int) (n:Nat):a4E P w K tg (Itr lo n) [it] it (λ i h=>IsRangeIter h it (lo+(i:Nat)*1) ((n:Int) - (i:Nat)) 1) where
 mem:=by simp
 obj:=λ i h st b hb=>by
  have e:b=it:=by simpa using hb
  subst e;exact ⟨_,st,λ v z=>by
   have z':rQ _=Data.cell v:=z
   cases z'⟩
 keep:=λ i h h' st k=>k it (by simp) _ st
 item:=by
  intro X hP hw hK hc i pins s σ H E I hf st hg;subst hP hw hK;obtain ⟨f0,f1,f2,f3,f4,f5⟩:=hf it (by simp);have W:=Walks.range (prog:=X.prog) (w:=X.w) (I.ok.hd hc) it lo 1 n;refine W.item i s _ _ hg st λ v h' tk hv st' kk=>?_;obtain ⟨t,rfl⟩:=hv;have I1:Inv X pins σ H { s with heap:=h',toks:=tk }:=I.turned (λ b o hb e=>kk b o (by simpa using hb) e) f0 f1 f3 f4 f5;refine ⟨_,rfl,a9G (s:={ s with heap:=h',toks:=tk }) (n:="range_iterator") st' rfl rfl (by decide) ⟨.int (lo+i),H,I1,⟨t,?_⟩,⟨rfl,rfl⟩,st',λ b hb=>(hf b hb).1⟩⟩;rw [iE]
 done:=by
  intro X hP hw hK hc i pins s σ H E I hf st hg;subst hP hw hK;obtain ⟨f0,f1,f2,f3,f4,f5⟩:=hf it (by simp);exact wpAny_pyNext_range_end (I.ok.hd hc) st (by have:n<=i:=hg; omega) λ h' eb=>⟨rfl,I.turned (t':=s.toks) (λ b o hb e=>eb b o hb e) f0 f1 f3 f4 f5⟩
 self:=λ _ _ _ _ _ st h=>wpAny_pyIter_rangeiter st h
section
variable {X:Cx} {tg:aN}
def b2u (K:aE) (tl:TE):TI:=λ σ H R=>tl σ H λ x H1=>∃ a,x=.ref a/\(∃ xs,SqL K H1 a xs)/\R (Itl K a) H1
def b4s (K:aE) (tl:TE):TI:=λ σ H R=>tl σ H λ x H1=>∃ a,x=.ref a/\(∃ xs,SqT K H1 a xs)/\R (Itt K a) H1
theorem J7 {l:aN} {tl:TE} (hl:PE X l tl):PI X tg l (b2u X.K tl):=by
 intro pins s σ H R I h;refine A7 (hl pins s σ H _ I h) λ v s1 ⟨x,H1,I1,r1,q1⟩=>?_;obtain ⟨a,e,⟨xs,hq⟩,q⟩:=q1;subst e
 cases r1;obtain ⟨its,rv,p,hz⟩:=I1.list hq;refine mS p.isList ?_;refine ⟨s1.heap.objs.size,[s1.heap.objs.size],_,_,H1,rfl,I1.kept (t':=s1.toks) λ b o e=>bE _ e,a7U a _,⟨_,cI _ rfl,rfl,rfl⟩,λ b hb=>?_,q⟩;have e:b=s1.heap.objs.size:=by simpa using hb
 subst e;exact I1.fpOk (aU _) (I1.hok.fresh (aU _))
theorem a1z {l:aN} {tl:TE} (hl:PE X l tl):PI X tg l (b4s X.K tl):=by
 intro pins s σ H R I h;refine A7 (hl pins s σ H _ I h) λ v s1 ⟨x,H1,I1,r1,q1⟩=>?_;obtain ⟨a,e,⟨xs,hq⟩,q⟩:=q1;subst e
 cases r1;obtain ⟨its,rv,p,hz⟩:=I1.tuple hq;refine rR (show s1.heap.IsTuple a its.toArray from p) ?_;refine ⟨s1.heap.objs.size,[s1.heap.objs.size],_,_,H1,rfl,I1.kept (t':=s1.toks) λ b o e=>bE _ e,a5R a _,⟨_,cI _ rfl,rfl,rfl⟩,λ b hb=>?_,q⟩;have e:b=s1.heap.objs.size:=by simpa using hb
 subst e;exact I1.fpOk (aU _) (I1.hok.fresh (aU _))
theorem a8V {pins:List (aA×Obj)} {σ:St} {H:Hp} {s:aD} {R:It->Hp->Prop} {E:aC->aD->Prop} {lo hi:Int} {t u v:Tok} {tk:Nat} (I:Inv X pins σ H s) (h1:-(2 ^ 62)<=lo) (h2:lo<2 ^ 62) (h3:-(2 ^ 62)<=hi) (h4:hi<2 ^ 62)
  (q:R (Itr lo (hi - lo).toNat) H):wpAny (model X.prog X.w) X.A (pyIter (.ref s.heap.objs.size)) (PIE X pins σ tg R) E { s with heap:=s.heap.push { cls:=.type "range",data:=.fields #[.int lo t,.int hi u,.int 1 v] },toks:=tk }:=by
 refine wpAny_pyIter_range (IsRange.new ..) (small_one h1 h2 h3 h4) ?_;have I1:Inv X pins σ H { s with heap:=s.heap.push { cls:=.type "range",data:=.fields #[.int lo t,.int hi u,.int 1 v] },toks:=tk }:=I.kept λ b o e=>bE _ e;refine ⟨(s.heap.push { cls:=.type "range",data:=.fields #[.int lo t,.int hi u,.int 1 v] }).objs.size,[(s.heap.push { cls:=.type "range",data:=.fields #[.int lo t,.int hi u,.int 1 v] }).objs.size],_,_,H,rfl,
  I1.kept (t':=tk) λ b o e=>bE _ e,a5D _ lo (hi - lo).toNat,?_,λ b hb=>?_,q⟩
 ·have e1:lo+((0:Nat):Int)*1=lo:=by simp
  have e2:(((hi - lo).toNat:Nat):Int) - ((0:Nat):Int)=rS lo hi 1:=by rw [rT]; split <;> omega
  show IsRangeIter _ _ (lo+((0:Nat):Int)*1) ((((hi - lo).toNat:Nat):Int) - ((0:Nat):Int)) 1
  rw [e1,e2];exact cI _ rfl
 ·have e:b=(s.heap.push { cls:=.type "range",data:=.fields #[.int lo t,.int hi u,.int 1 v] }).objs.size:=by simpa using hb
  subst e;exact I1.fpOk (aU _) (I1.hok.fresh (aU _))
def b4R (ta:TA):TI:=λ σ H R=>ta σ H λ vs H1=>∃ j:Int,vs=[.int j]/\-(2 ^ 62)<=j/\j<2 ^ 62/\R (Itr 0 j.toNat) H1
theorem N0 {a:aN} {ta:TA} {p pos:Pos} (hg:Gl X "range") (hm:X.mg "range"=none) (ha:PA X [a] ta) (hs:starEach [a] X.env=[(false,eval a X.env)]:=by rfl):PI X tg (.Call (.Name "range" p) [a] [] pos) (b4R ta):=by
 intro pins s σ H R I h;refine jQ (T9 I hg hm boot_range (iZ (A7 (ha pos pins s σ H _ I h) λ us s1 ⟨vs,H1,I1,r1,q1⟩=>?_) hs rfl));obtain ⟨j,e,q1,q2,q⟩:=q1;subst e
 cases r1 with
 | cons r rr =>
  cases rr;obtain ⟨t,rfl⟩:=r;exact rV (a8V I1 (by omega) (by omega) q1 q2 (by simpa using q))
def b6l (wi:TI) (g:TG) (tb:TS):TS:=λ D σ H=>wi σ H λ J H1=>∃ W:Nat->Nat->St->Hp->Prop,(∃ m,W 0 m σ H1)/\∀ i m σ H,W i m σ H →
 (J.stop i H/\D.nx σ H)\/(J.go i H/\∃ N:St->Hp->Prop,(∀ σ' H',N σ' H'->∃ m',m'<m/\W (i+1) m' σ' H')/\∀ x H',J.yld i H x H'->g x σ H' λ σ2 H2=>tb { D with nx:=N,ct:=N,bk:=D.nx } σ2 H2)
def a1A (fp:List aA) (h:aG):List (aA×Obj):=fp.filterMap λ b=>(h.get? b).map λ o=>(b,o)
theorem N6 {fp:List aA} {h:aG} {b:aA} {o:Obj} (hb:b∈fp) (e:h.get? b=some o):(b,o)∈a1A fp h:=iF.mpr ⟨b,hb,by rw [e]; rfl⟩
theorem a7L {fp:List aA} {h:aG} {p:aA×Obj} (hp:p∈a1A fp h):p.1∈fp/\h.get? p.1=some p.2:=by
 obtain ⟨b,hb,e⟩:=iF.mp hp
 cases q:h.get? b with
 | none=>rw [q] at e; cases e
 | some o =>
  rw [q] at e;have e':(b,o)=p:=bG e;subst e';exact ⟨hb,q⟩
theorem Inv.pinned {pins:List (aA×Obj)} {σ:St} {H:Hp} {s:aD} {fp:List aA} (I:Inv X pins σ H s) (hf:∀ b∈fp,T3 X pins H b) (ho:∀ b∈fp,∃ o,s.heap.get? b=some o/\∀ v,o.data≠.cell v):Inv X (pins++a1A fp s.heap) σ H s :=
 I.pins_of λ p hp=>(bU.mp hp).elim (λ z=>I.pin p (dJ _ z)) λ z=>by
  obtain ⟨hb,e⟩:=a7L z;obtain ⟨f0,f1,f2,_⟩:=hf p.1 hb;obtain ⟨o,e',d⟩:=ho p.1 hb;rw [e] at e'; cases e';exact ⟨e,f0,f1,f2,d⟩
theorem Inv.unpinned {pins pl:List (aA×Obj)} {σ:St} {H:Hp} {s:aD} (I:Inv X (pins++pl) σ H s):Inv X pins σ H s:=I.pins_of λ p hp=>I.pin p (dJ _ (iC _ hp))
theorem T6 {iter:aN} {body:List aO} {wi:TI} {g:TG} {tb:TS} {pos:Pos} (hp:PassesOwn (model X.prog X.w) X.A X.env X.xe) (hc:X.calm=true) (hi:PI X tg iter wi) (hg:PG X tg g) (hb:PSs X body tb)
  (hs:∀ x,foldedSetIterable iter X.env x=pure x:=by intro _; rfl):PS X (.For tg iter body [] pos) (b6l wi g tb):=by
 intro pins s σ H D I h;refine wpAny_For (A7 (hi pins s σ H _ I h) λ v s1 h1=>A7 h1 λ itv s2 h2=>?_) hs;obtain ⟨it,fp,tn,J,H2,e,I2,T,st2,f2,W,⟨m0,w0⟩,turn⟩:=h2;subst e;have stat:∀ {H':Hp},(∀ b∈fp,H' b=none)->∀ b∈fp,T3 X pins H' b:=λ hn b hb=>⟨hn b hb,(f2 b hb).2⟩;refine codeAny_forLoop_any (λ n s'=>∃ i σ' H',Inv X pins σ' H' s'/\tn i s'.heap/\(∀ b∈fp,H' b=none)/\W i n σ' H') ?_ m0 ⟨0,σ,H2,I2,st2,λ b hb=>(f2 b hb).1,w0⟩;rintro n s3 ⟨i,σ3,H3,I3,st3,fr3,w3⟩;rcases turn i n σ3 H3 w3 with ⟨stop,qn⟩ | ⟨go,N,hN,step⟩
 ·refine iY hp (A7 (T.done X rfl rfl rfl hc i pins s3 σ3 H3 X.xe I3 (stat fr3) st3 stop) λ r s4 ⟨hr,I4⟩=>?_)
  subst hr;exact lD ⟨σ3,H3,I4,qn⟩
 ·refine iY hp (A7 (T.item X rfl rfl rfl hc i pins s3 σ3 H3 X.xe I3 (stat fr3) st3 go) λ r s4 ⟨u,hr,h4⟩=>?_)
  subst hr;refine iY hp (A7 h4 λ _ s5 ⟨x,H5,I5,r5,y5,st5,fr5⟩=>?_);have I5':=I5.pinned (stat fr5) (T.obj _ _ st5);refine iY hp (A7 (hg _ s5 σ3 H5 x u _ I5' r5 (step x H5 y5)) λ _ s6 ⟨σ6,H6,I6,q6⟩=>?_);refine iY hp (A7 (hb _ s6 σ6 H6 _ I6 q6) λ f s7 q7=>?_);have again:∀ {σ7:St} {H7:Hp},Inv X (pins++a1A fp s5.heap) σ7 H7 s7->N σ7 H7->∃ m,m<n/\∃ i σ' H',Inv X pins σ' H' s7/\tn i s7.heap/\(∀ b∈fp,H' b=none)/\W i m σ' H':=λ {σ7 H7} I7 n7=>by
   obtain ⟨m',hm,w7⟩:=hN σ7 H7 n7;refine ⟨m',hm,i+1,σ7,H7,I7.unpinned,T.keep _ _ _ st5 λ b hb o e=>(I7.pin (b,o) (dJ _ (dJ _ (N6 hb e)))).1,λ b hb=>?_,w7⟩;obtain ⟨o,e,d⟩:=T.obj _ _ st5 b hb;exact (I7.pin (b,o) (dJ _ (dJ _ (N6 hb e)))).2.1
  cases f with
  | next=>obtain ⟨σ7,H7,I7,n7⟩:=q7; exact again I7 n7
  | cont=>obtain ⟨σ7,H7,I7,n7⟩:=q7; exact again I7 n7
  | brk=>obtain ⟨σ7,H7,I7,q7⟩:=q7; exact ⟨σ7,H7,I7.unpinned,q7⟩
  | ret v=>obtain ⟨x7,σ7,H7,I7,r7,q7⟩:=q7; exact ⟨x7,σ7,H7,I7.unpinned,r7,q7⟩
end
theorem a8K {K:aE} {a:aA} {xs:List V} {g:TG} {tb:TS} {D:Ends} {σ:St} {H:Hp} (Pv:Nat->St->Hp->Prop) (h0:Pv 0 σ H) (hl:∀ i σ H,i<=xs.length->Pv i σ H->SqL K H a xs)
  (hs:∀ i x σ H,xs[i]?=some x->Pv i σ H->g x σ H λ σ2 H2=>tb { D with nx:=Pv (i+1),ct:=Pv (i+1),bk:=D.nx } σ2 H2) (hd:∀ σ H,Pv xs.length σ H->D.nx σ H) :
  ∃ W:Nat->Nat->St->Hp->Prop,(∃ m,W 0 m σ H)/\∀ i m σ H,W i m σ H →
   ((Itl K a).stop i H/\D.nx σ H)\/((Itl K a).go i H/\∃ N:St->Hp->Prop,(∀ σ' H',N σ' H'->∃ m',m'<m/\W (i+1) m' σ' H')/\∀ x H',(Itl K a).yld i H x H'->g x σ H' λ σ2 H2=>tb { D with nx:=N,ct:=N,bk:=D.nx } σ2 H2):=by
 refine ⟨λ i m σ H=>m=xs.length - i/\i<=xs.length/\Pv i σ H,⟨xs.length,by simp,dA _,h0⟩,?_⟩;rintro i m σ H ⟨rfl,hi,p⟩;have q:=hl i σ H hi p
 by_cases hlt:i<xs.length
 ·refine .inr ⟨⟨xs,xs[i],q,by simp [hlt]⟩,Pv (i+1),λ σ' H' p'=>⟨xs.length - (i+1),by omega,rfl,hlt,p'⟩,λ x H' y=>?_⟩
  obtain ⟨e,y⟩:=y;subst e;exact hs i x σ _ (y xs q) p
 ·have e:i=xs.length:=by omega
  subst e;exact .inl ⟨⟨xs,q,aU _⟩,hd σ H p⟩
theorem b1k {K:aE} {a:aA} {xs:List V} {g:TG} {tb:TS} {D:Ends} {σ:St} {H:Hp} (Pv:Nat->St->Hp->Prop) (h0:Pv 0 σ H) (hl:∀ i σ H,i<=xs.length->Pv i σ H->SqT K H a xs)
  (hs:∀ i x σ H,xs[i]?=some x->Pv i σ H->g x σ H λ σ2 H2=>tb { D with nx:=Pv (i+1),ct:=Pv (i+1),bk:=D.nx } σ2 H2) (hd:∀ σ H,Pv xs.length σ H->D.nx σ H) :
  ∃ W:Nat->Nat->St->Hp->Prop,(∃ m,W 0 m σ H)/\∀ i m σ H,W i m σ H →
   ((Itt K a).stop i H/\D.nx σ H)\/((Itt K a).go i H/\∃ N:St->Hp->Prop,(∀ σ' H',N σ' H'->∃ m',m'<m/\W (i+1) m' σ' H')/\∀ x H',(Itt K a).yld i H x H'->g x σ H' λ σ2 H2=>tb { D with nx:=N,ct:=N,bk:=D.nx } σ2 H2):=by
 refine ⟨λ i m σ H=>m=xs.length - i/\i<=xs.length/\Pv i σ H,⟨xs.length,by simp,dA _,h0⟩,?_⟩;rintro i m σ H ⟨rfl,hi,p⟩;have q:=hl i σ H hi p
 by_cases hlt:i<xs.length
 ·refine .inr ⟨⟨xs,xs[i],q,by simp [hlt]⟩,Pv (i+1),λ σ' H' p'=>⟨xs.length - (i+1),by omega,rfl,hlt,p'⟩,λ x H' y=>?_⟩
  obtain ⟨e,y⟩:=y;subst e;exact hs i x σ _ (y xs q) p
 ·have e:i=xs.length:=by omega
  subst e;exact .inl ⟨⟨xs,q,aU _⟩,hd σ H p⟩
theorem a0m {lo:Int} {n:Nat} {g:TG} {tb:TS} {D:Ends} {σ:St} {H:Hp} (Pv:Nat->St->Hp->Prop) (h0:Pv 0 σ H)
  (hs:∀ i σ H,i<n->Pv i σ H->g (.int (lo+i)) σ H λ σ2 H2=>tb { D with nx:=Pv (i+1),ct:=Pv (i+1),bk:=D.nx } σ2 H2) (hd:∀ σ H,Pv n σ H->D.nx σ H) :
  ∃ W:Nat->Nat->St->Hp->Prop,(∃ m,W 0 m σ H)/\∀ i m σ H,W i m σ H →
   ((Itr lo n).stop i H/\D.nx σ H)\/((Itr lo n).go i H/\∃ N:St->Hp->Prop,(∀ σ' H',N σ' H'->∃ m',m'<m/\W (i+1) m' σ' H')/\∀ x H',(Itr lo n).yld i H x H'->g x σ H' λ σ2 H2=>tb { D with nx:=N,ct:=N,bk:=D.nx } σ2 H2):=by
 refine ⟨λ i m σ H=>m=n - i/\i<=n/\Pv i σ H,⟨n,by simp,dA _,h0⟩,?_⟩;rintro i m σ H ⟨rfl,hi,p⟩
 by_cases hlt:i<n
 ·refine .inr ⟨hlt,Pv (i+1),λ σ' H' p'=>⟨n - (i+1),by omega,rfl,hlt,p'⟩,λ x H' y=>?_⟩
  obtain ⟨e,y⟩:=y;subst e y;exact hs i σ _ hlt p
 ·have e:i=n:=by omega
  subst e;exact .inl ⟨Nat.le_refl _,hd σ H p⟩
theorem a9y {c:TT} {tb:TS} {D:Ends} {σ:St} {H:Hp} (Pv:St->Hp->Prop) (μ:St->Hp->Nat) (h0:Pv σ H)
  (hs:∀ σ H,Pv σ H->c σ H λ b H1=>if b=true then tb { D with nx:=λ σ' H'=>Pv σ' H'/\μ σ' H'<μ σ H,ct:=λ σ' H'=>Pv σ' H'/\μ σ' H'<μ σ H,bk:=D.nx } σ H1 else D.nx σ H1)
  (mono:∀ σ H Q Q',(∀ b H1,Q b H1->Q' b H1)->c σ H Q->c σ H Q'):b0v c tb D σ H:=by
 refine ⟨λ m σ H=>m=μ σ H/\Pv σ H,⟨_,rfl,h0⟩,?_⟩;rintro m σ H ⟨rfl,p⟩;refine mono σ H _ _ (λ b H1 q=>?_) (hs σ H p)
 cases b with
 | true=>exact ⟨_,λ σ' H' ⟨p',l⟩=>⟨_,l,rfl,p'⟩,q⟩
 | false=>exact q
abbrev R2:=V->V->Hp->VK->Prop
def Z9 (X:Cx) (f:aC->aC->Sem aC) (r:R2):Prop :=
 ∀ (pins:List (aA×Obj)) (s:aD) (σ:St) (H:Hp) (x y:V) (v u:aC) (Q:VK),Inv X pins σ H s->RelV x v->RelV y u->r x y H Q →
  wpAny (model X.prog X.w) X.A (f v u) (EP X pins σ Q) X.xe s
def UnR (X:Cx) (f:aC->Sem aC) (r:V->Hp->VK->Prop):Prop :=
 ∀ (pins:List (aA×Obj)) (s:aD) (σ:St) (H:Hp) (x:V) (v:aC) (Q:VK),Inv X pins σ H s->RelV x v->r x H Q →
  wpAny (model X.prog X.w) X.A (f v) (EP X pins σ Q) X.xe s
def J5 (X:Cx) (f:aC) (r:List V->Hp->VK->Prop):Prop :=
 ∀ (pins:List (aA×Obj)) (s:aD) (σ:St) (H:Hp) (xs:List V) (us:List aC) (Q:VK),Inv X pins σ H s->Vals xs us->r xs H Q →
  wpAny (model X.prog X.w) X.A (call f us) (EP X pins σ Q) X.xe s
def tOp (r:R2) (ta tb:TE):TE:=λ σ H Q=>ta σ H λ x H1=>tb σ H1 λ y H2=>r x y H2 Q
def tUn (r:V->Hp->VK->Prop) (ta:TE):TE:=λ σ H Q=>ta σ H λ x H1=>r x H1 Q
def rI (C:Int->Int->Prop) (g:Int->Int->V):R2:=λ x y H Q=>∃ i j,x=.int i/\y=.int j/\C i j/\Q (g i j) H
def rI0 (g:Int->Int->V):R2:=λ x y H Q=>∃ i j,x=.int i/\y=.int j/\Q (g i j) H
def rU (g:Int->V):V->Hp->VK->Prop:=λ x H Q=>∃ i,x=.int i/\Q (g i) H
section
variable {X:Cx} {a b c:aN} {ta tb tc:TE} {pos:Pos}
theorem b2S (ha:PE X a ta) (hb:PE X b tb) {pins:List (aA×Obj)} {s:aD} {σ:St} {H:Hp} {R:V->V->Hp->Prop} (I:Inv X pins σ H s)
  (h:ta σ H λ x H1=>tb σ H1 λ y H2=>R x y H2) {Q:aC->aD->Prop} {f:aC->aC->Sem aC}
  (hf:∀ v u s2 x y H2,Inv X pins σ H2 s2->RelV x v->RelV y u->R x y H2->wpAny (model X.prog X.w) X.A (f v u) Q X.xe s2) :
  wpAny (model X.prog X.w) X.A (eval a X.env) (λ v s₁=>wpAny (model X.prog X.w) X.A (eval b X.env) (λ u s₂=>wpAny (model X.prog X.w) X.A (f v u) Q X.xe s₂) X.xe s₁) X.xe s:=by
 refine A7 (ha pins s σ H _ I h) λ v s1 ⟨x,H1,I1,r1,q1⟩=>?_;refine A7 (hb pins s1 σ H1 _ I1 q1) λ u s2 ⟨y,H2,I2,r2,q2⟩=>?_;exact hf v u s2 x y H2 I2 r1 r2 q2
theorem j7 {op:Operator} {r:R2} (ho:Z9 X (binaryOp op) r) (ha:PE X a ta) (hb:PE X b tb):PE X (.BinOp a op b pos) (tOp r ta tb):=by
 intro pins s σ H Q I h;exact wpAny_BinOp (b2S ha hb I h λ v u s2 x y H2 I2 rx ry q=>ho pins s2 σ H2 x y v u Q I2 rx ry q)
theorem R9 {op:UnaryOp} {r:V->Hp->VK->Prop} (ho:UnR X (unaryOp op) r) (ha:PE X a ta):PE X (.UnaryOp op a pos) (tUn r ta):=by
 intro pins s σ H Q I h;exact UnaryOp_ (A7 (ha pins s σ H _ I h) λ v s1 ⟨x,H1,I1,r1,q1⟩=>ho pins s1 σ H1 x v Q I1 r1 q1)
theorem opI {f:aC->aC->Sem aC} {C:Int->Int->Prop} {g:Int->Int->Int}
  (rule:∀ (i j:Int) (t u:Tok) (s:aD) (Q:aC->aD->Prop) (E:aC->aD->Prop),C i j->Q (.int (g i j) s.toks) { s with toks:=s.toks+1 }->wpAny (model X.prog X.w) X.A (f (.int i t) (.int j u)) Q E s) :
  Z9 X f (rI C λ i j=>.int (g i j)):=by
 intro pins s σ H x y v u Q I rx ry h;obtain ⟨i,j,rfl,rfl,hc,q⟩:=h;obtain ⟨t,rfl⟩:=rx;obtain ⟨t',rfl⟩:=ry;exact rule i j t t' s _ _ hc ⟨.int (g i j),H,I.tok _,⟨_,rfl⟩,q⟩
theorem b4c {f:aC->aC->Sem aC} {g:Int->Int->Int}
  (rule:∀ (i j:Int) (t u:Tok) (s:aD) (Q:aC->aD->Prop) (E:aC->aD->Prop),Q (.int (g i j) s.toks) { s with toks:=s.toks+1 }->wpAny (model X.prog X.w) X.A (f (.int i t) (.int j u)) Q E s) :
  Z9 X f (rI0 λ i j=>.int (g i j)):=by
 intro pins s σ H x y v u Q I rx ry h;obtain ⟨i,j,rfl,rfl,q⟩:=h;obtain ⟨t,rfl⟩:=rx;obtain ⟨t',rfl⟩:=ry;exact rule i j t t' s _ _ ⟨.int (g i j),H,I.tok _,⟨_,rfl⟩,q⟩
theorem b0K {f:aC->aC->Sem aC} {g:Int->Int->Bool}
  (rule:∀ (i j:Int) (t u:Tok) (s:aD) (Q:aC->aD->Prop) (E:aC->aD->Prop),Q (.bool (g i j)) s->wpAny (model X.prog X.w) X.A (f (.int i t) (.int j u)) Q E s) :
  Z9 X f (rI0 λ i j=>.bl (g i j)):=by
 intro pins s σ H x y v u Q I rx ry h;obtain ⟨i,j,rfl,rfl,q⟩:=h;obtain ⟨t,rfl⟩:=rx;obtain ⟨t',rfl⟩:=ry;exact rule i j t t' s _ _ ⟨.bl (g i j),H,I,rfl,q⟩
def b6f (i j:Int):Prop:=0<j/\j<1073741824
def b5X (i j:Int):Prop:=0<=j/\j<=1000000/\i.natAbs<2 ^ 64
def CMul (i j:Int):Prop:=(-(2 ^ 64)<i/\i<2 ^ 64)\/(-(2 ^ 64)<j/\j<2 ^ 64)
theorem CMul.ok {i j:Int} (h:CMul i j):IntMulOk i j:=by
 rcases h with ⟨h1,h2⟩ | ⟨h1,h2⟩
 ·exact .of_left (rW h1 h2)
 ·exact .of_right (rW h1 h2)
theorem D0:Z9 X (binaryOp .Add) (rI0 λ i j=>.int (i+j)):=b4c λ _ _ _ _ _ _ _ q=>add_int q
theorem a6c:Z9 X (binaryOp .Sub) (rI0 λ i j=>.int (i - j)):=b4c λ _ _ _ _ _ _ _ q=>sub_int q
theorem Y9:Z9 X (binaryOp .Mult) (rI CMul λ i j=>.int (i*j)):=opI λ _ _ _ _ _ _ _ hc q=>mul_int q hc.ok
theorem a0e:Z9 X (binaryOp .FloorDiv) (rI b6f λ i j=>.int (i / j)):=opI λ i j _ _ _ _ _ hc q=>by
 have h1:(0:Int)<j:=hc.1;have h2:j<1073741824:=hc.2;exact rX (by omega) (by rw [rY i (by omega)]; exact q) (.inl (PyProof.noPylong_small (by omega)))
theorem A8:Z9 X (binaryOp .Mod) (rI (λ _ j=>0<j) λ i j=>.int (i % j)):=opI λ i j _ _ _ _ _ hc q=>by
 have h1:(0:Int)<j:=hc;exact mod_int' (by omega) (by rw [Int.fmod_eq_emod_of_nonneg i (by omega)]; exact q)
theorem a1b:Z9 X (binaryOp .Pow) (rI b5X λ i j=>.int (i ^ j.toNat)):=opI λ _ _ _ _ _ _ _ hc q=>pow_int_small hc.1 hc.2.1 hc.2.2 q
theorem unI {f:aC->Sem aC} {g:Int->Int}
  (rule:∀ (i:Int) (t:Tok) (s:aD) (Q:aC->aD->Prop) (E:aC->aD->Prop),Q (.int (g i) s.toks) { s with toks:=s.toks+1 }->wpAny (model X.prog X.w) X.A (f (.int i t)) Q E s) :
  UnR X f (rU λ i=>.int (g i)):=by
 intro pins s σ H x v Q I rx h;obtain ⟨i,rfl,q⟩:=h;obtain ⟨t,rfl⟩:=rx;exact rule i t s _ _ ⟨.int (g i),H,I.tok _,⟨_,rfl⟩,q⟩
theorem K3:UnR X (unaryOp .USub) (rU λ i=>.int (-i)):=unI λ _ _ _ _ _ q=>neg_int q
end
def b5c:V->V->Bool
 | .non,.non=>true | .non,.int _=>true | .int _,.non=>true | .non,.bl _=>true | .bl _,.non=>true | .non,.str _=>true | .str _,.non=>true
 | .int _,.int _=>true | .bl _,.bl _=>true | .str _,.str _=>true | .byt _,.byt _=>true
 | .int _,.str _=>true | .str _,.int _=>true | .bl _,.str _=>true | .str _,.bl _=>true
 | _,_=>false
def rEq:R2:=λ x y H Q=>b5c x y=true/\Q (.bl (decide (x=y))) H
def rNe:R2:=λ x y H Q=>b5c x y=true/\Q (.bl (!decide (x=y))) H
theorem a6V {i j:Int}:decide (V.int i=V.int j)=(i==j):=by
 rw [jR];simp
theorem b0h {i j:Bool}:decide (V.bl i=V.bl j)=(i==j):=by
 rw [jR];simp
theorem a6A {i j:Str}:decide (V.str i=V.str j)=(i==j):=by
 rw [jR];simp
theorem a6B {i j:Array UInt8}:decide (V.byt i=V.byt j)=(i.toList==j.toList):=by
 rw [jR]
 cases i
 cases j;simp
section
variable {X:Cx} {a b c:aN} {ta tb tc:TE} {pos:Pos}
theorem y6 {pins:List (aA×Obj)} {σ:St} {H:Hp} {s:aD} {Q:VK} {k k':Bool} (I:Inv X pins σ H s) (q:Q (.bl k) H) (e:k=k'):EP X pins σ Q (.bool k') s:=by
 subst e;exact ⟨.bl k,H,I,rfl,q⟩
theorem K8:Z9 X (compareOp .Eq) rEq:=by
 intro pins s σ H x y v u Q I rx ry h;obtain ⟨hs,q⟩:=h
 cases x with
 | non =>
  cases rx
  cases y with
  | non=>cases ry; exact wQ (y6 I q (by simp))
  | bl j=>cases ry; exact wR (y6 I q (by simp))
  | int j=>obtain ⟨t',rfl⟩:=ry; exact wS (y6 I q (by simp))
  | str j=>obtain ⟨t',rfl⟩:=ry; exact wT (y6 I q (by simp))
  | _=>exact absurd (show false=true from hs) cS
 | bl i =>
  cases rx
  cases y with
  | non=>cases ry; exact wU (y6 I q (by simp))
  | bl j=>cases ry; exact eq_bool (y6 I q b0h)
  | str j=>obtain ⟨t',rfl⟩:=ry; exact wV (y6 I q (by simp))
  | _=>exact absurd (show false=true from hs) cS
 | int i =>
  obtain ⟨t,rfl⟩:=rx
  cases y with
  | non=>cases ry; exact wW (y6 I q (by simp))
  | int j=>obtain ⟨t',rfl⟩:=ry; exact eq_int (y6 I q a6V)
  | str j=>obtain ⟨t',rfl⟩:=ry; exact wX (y6 I q (by simp))
  | _=>exact absurd (show false=true from hs) cS
 | str i =>
  obtain ⟨t,rfl⟩:=rx
  cases y with
  | non=>cases ry; exact wY (y6 I q (by simp))
  | bl j=>cases ry; exact wZ (y6 I q (by simp))
  | int j=>obtain ⟨t',rfl⟩:=ry; exact xA (y6 I q (by simp))
  | str j=>obtain ⟨t',rfl⟩:=ry; exact eq_str (y6 I q a6A)
  | _=>exact absurd (show false=true from hs) cS
 | byt i =>
  obtain ⟨t,rfl⟩:=rx
  cases y with
  | byt j=>obtain ⟨t',rfl⟩:=ry; exact W.eq_bytes (y6 I q a6B)
  | _=>exact absurd (show false=true from hs) cS
 | _=>cases y <;> exact absurd (show false=true from hs) cS
theorem b0z:Z9 X (compareOp .NotEq) rNe:=by
 intro pins s σ H x y v u Q I rx ry h;obtain ⟨hs,q⟩:=h
 cases x with
 | non =>
  cases rx
  cases y with
  | non=>cases ry; exact xB (y6 I q (by simp))
  | bl j=>cases ry; exact xC (y6 I q (by simp))
  | int j=>obtain ⟨t',rfl⟩:=ry; exact xD (y6 I q (by simp))
  | str j=>obtain ⟨t',rfl⟩:=ry; exact xE (y6 I q (by simp))
  | _=>exact absurd (show false=true from hs) cS
 | bl i =>
  cases rx
  cases y with
  | non=>cases ry; exact xF (y6 I q (by simp))
  | bl j=>cases ry; exact ne_bool (y6 I q (congrArg not b0h))
  | str j=>obtain ⟨t',rfl⟩:=ry; exact xG (y6 I q (by simp))
  | _=>exact absurd (show false=true from hs) cS
 | int i =>
  obtain ⟨t,rfl⟩:=rx
  cases y with
  | non=>cases ry; exact xH (y6 I q (by simp))
  | int j=>obtain ⟨t',rfl⟩:=ry; exact ne_int (y6 I q (congrArg not a6V))
  | str j=>obtain ⟨t',rfl⟩:=ry; exact xI (y6 I q (by simp))
  | _=>exact absurd (show false=true from hs) cS
 | str i =>
  obtain ⟨t,rfl⟩:=rx
  cases y with
  | non=>cases ry; exact xJ (y6 I q (by simp))
  | bl j=>cases ry; exact xK (y6 I q (by simp))
  | int j=>obtain ⟨t',rfl⟩:=ry; exact xL (y6 I q (by simp))
  | str j=>obtain ⟨t',rfl⟩:=ry; exact ne_str (y6 I q (congrArg not a6A))
  | _=>exact absurd (show false=true from hs) cS
 | byt i =>
  obtain ⟨t,rfl⟩:=rx
  cases y with
  | byt j=>obtain ⟨t',rfl⟩:=ry; exact W.ne_bytes (y6 I q (congrArg not a6B))
  | _=>exact absurd (show false=true from hs) cS
 | _=>cases y <;> exact absurd (show false=true from hs) cS
theorem a0q:Z9 X (compareOp .Lt) (rI0 λ i j=>.bl (decide (i<j))):=b0K λ _ _ _ _ _ _ _ q=>lt_int q
theorem a8W:Z9 X (compareOp .LtE) (rI0 λ i j=>.bl (decide (i<=j))):=b0K λ _ _ _ _ _ _ _ q=>le_int q
theorem a0s:Z9 X (compareOp .Gt) (rI0 λ i j=>.bl (decide (j<i))):=b0K λ _ _ _ _ _ _ _ q=>gt_int q
theorem a4W:Z9 X (compareOp .GtE) (rI0 λ i j=>.bl (decide (j<=i))):=b0K λ _ _ _ _ _ _ _ q=>ge_int q
theorem a0Z:Z9 X (compareOp .Is) (λ x y H Q=>y=.non/\Q (.bl (decide (x=.non))) H):=by
 intro pins s σ H x y v u Q I rx ry h;obtain ⟨rfl,q⟩:=h
 cases ry;refine is_none_gen (y6 I q ?_)
 cases x <;> first
  | (cases rx; rfl)
  | (obtain ⟨t,rfl⟩:=rx; rfl)
theorem b1G:Z9 X (compareOp .IsNot) (λ x y H Q=>y=.non/\Q (.bl (!decide (x=.non))) H):=by
 intro pins s σ H x y v u Q I rx ry h;obtain ⟨rfl,q⟩:=h
 cases ry;refine isnot_none_gen (y6 I q ?_)
 cases x <;> first
  | (cases rx; rfl)
  | (obtain ⟨t,rfl⟩:=rx; rfl)
theorem r8 (b:aN) {op:lF} (h:op≠.In:=by decide) (h2:op≠.NotIn:=by decide):behindInMarks op b=false:=by
 have e1:(op==CmpOp.In)=false:=by cases op <;> first | rfl | exact absurd rfl h
 have e2:(op==CmpOp.NotIn)=false:=by cases op <;> first | rfl | exact absurd rfl h2
 cases b <;> simp [behindInMarks,e1,e2]
theorem M7 {op:lF} {r:R2} (ho:Z9 X (compareOp op) r) (ha:PE X a ta) (hb:PE X b tb) (hm:behindInMarks op b=false):PE X (.Compare a [op] [b] pos) (tOp r ta tb):=by
 intro pins s σ H Q I h;exact wpAny_Compare1 (b2S ha hb I h λ v u s2 x y H2 I2 rx ry q=>ho pins s2 σ H2 x y v u Q I2 rx ry q) hm
def b2d (t:TE):TT:=λ σ H Q=>t σ H λ x H'=>∃ k,x=.bl k/\Q k H'
theorem r6 {op:lF} {r:R2} (ho:Z9 X (compareOp op) r) (ha:PE X a ta) (hb:PE X b tb) (hm:behindInMarks op b=false):PT X (.Compare a [op] [b] pos) (b2d (tOp r ta tb)):=by
 intro pins s σ H Q I h;refine wpAny_isTrue_Compare1 (A7 (ha pins s σ H _ I h) λ v s1 ⟨x,H1,I1,r1,q1⟩=>A7 (hb pins s1 σ H1 _ I1 q1) λ u s2 ⟨y,H2,I2,r2,q2⟩ =>
  A7 (ho pins s2 σ H2 x y v u _ I2 r1 r2 q2) λ c s3 ⟨z,H3,I3,r3,k,e,q3⟩=>?_) hm
 subst e
 cases r3;exact gB ⟨H3,I3,q3⟩
def b0p (r r':R2) (ta tb tc:TE):TE:=λ σ H Q=>ta σ H λ x H1=>tb σ H1 λ y H2=>r x y H2 λ z H3=>∃ k,z=.bl k ∧
 (if k=true then tc σ H3 λ w' H4=>r' y w' H4 Q else Q (.bl false) H3)
theorem a9e {op op':lF} {r r':R2} (ho:Z9 X (compareOp op) r) (ho':Z9 X (compareOp op') r') (ha:PE X a ta) (hb:PE X b tb) (hc:PE X c tc)
  (hm:lastMarks [op,op'] [b,c]=false:=by with_unfolding_all rfl):PE X (.Compare a [op,op'] [b,c] pos) (b0p r r' ta tb tc):=by
 intro pins s σ H Q I h;refine Compare_chain (A7 (ha pins s σ H _ I h) λ v s1 ⟨x,H1,I1,r1,q1⟩=>chain_link (A7 (hb pins s1 σ H1 _ I1 q1) λ u s2 ⟨y,H2,I2,r2,q2⟩ =>
  A7 (ho pins s2 σ H2 x y v u _ I2 r1 r2 q2) λ d s3 ⟨z,H3,I3,r3,k,e,q3⟩=>?_)) hm
 subst e
 cases r3;refine gB ?_
 cases k with
 | false=>exact ite_ff ⟨.bl false,H3,I3,rfl,q3⟩
 | true=>exact ite_tt (chain_last (A7 (hc pins s3 σ H3 _ I3 q3) λ w' s4 ⟨z',H4,I4,r4,q4⟩=>ho' pins s4 σ H4 y z' u w' Q I4 r2 r4 q4))
theorem b0i {op op':lF} {r r':R2} (ho:Z9 X (compareOp op) r) (ho':Z9 X (compareOp op') r') (ha:PE X a ta) (hb:PE X b tb) (hc:PE X c tc)
  (hm:lastMarks [op,op'] [b,c]=false:=by with_unfolding_all rfl):PT X (.Compare a [op,op'] [b,c] pos) (b2d (b0p r r' ta tb tc)):=by
 intro pins s σ H Q I h;refine isTrue_chain (A7 (ha pins s σ H _ I h) λ v s1 ⟨x,H1,I1,r1,q1⟩=>test_link (A7 (hb pins s1 σ H1 _ I1 q1) λ u s2 ⟨y,H2,I2,r2,q2⟩ =>
  A7 (ho pins s2 σ H2 x y v u _ I2 r1 r2 q2) λ d s3 ⟨z,H3,I3,r3,k,e,q3⟩=>?_)) hm
 subst e
 cases r3;refine gB ?_
 cases k with
 | false =>
  obtain ⟨k',e',q'⟩:=q3
  cases e';exact ite_ff ⟨H3,I3,q'⟩
 | true =>
  refine ite_tt (test_last (A7 (hc pins s3 σ H3 _ I3 q3) λ w' s4 ⟨z',H4,I4,r4,q4⟩=>A7 (ho' pins s4 σ H4 y z' u w' _ I4 r2 r4 q4) λ d' s5 ⟨z2,H5,I5,r5,k2,e2,q5⟩=>?_));subst e2
  cases r5;exact gB ⟨H5,I5,q5⟩
theorem a3Z:(sizeLine:Nat)<2 ^ 63:=by rw [jS]; decide
theorem P7 {x:V} {us:List aC} (r:Vals [x] us):∃ u,us=[u]/\RelV x u:=by
 cases r with
 | cons r1 r2=>cases r2; exact ⟨_,rfl,r1⟩
theorem a2p {x y:V} {us:List aC} (r:Vals [x,y] us):∃ u w',us=[u,w']/\RelV x u/\RelV y w':=by
 cases r with
 | cons r1 r2 =>
  cases r2 with
  | cons r3 r4=>cases r4; exact ⟨_,_,rfl,r1,r3⟩
theorem a9i:J5 X (.builtin "abs") (λ xs H Q=>∃ i,xs=[.int i]/\Q (.int (if i<0 then -i else i)) H):=by
 intro pins s σ H xs us Q I r h;obtain ⟨i,rfl,q⟩:=h;obtain ⟨u,rfl,t,rfl⟩:=P7 r;exact call_abs_int λ u tk=>⟨.int (if i<0 then -i else i),H,I.tok _,⟨_,rfl⟩,q⟩
theorem a0a (hc:X.calm=true):J5 X (.builtin "min") (λ xs H Q=>∃ i j,xs=[.int i,.int j]/\Q (.int (if j<i then j else i)) H):=by
 intro pins s σ H xs us Q I r h;obtain ⟨i,j,rfl,q⟩:=h;obtain ⟨u,w',rfl,⟨t,rfl⟩,⟨t',rfl⟩⟩:=a2p r;refine min_two_ints (I.ok.hd hc) λ h' tk k=>⟨_,H,I.kept k,?_,q⟩
 by_cases hj:j<i
 ·rw [if_pos hj,if_pos hj]; exact ⟨_,rfl⟩
 ·rw [if_neg hj,if_neg hj]; exact ⟨_,rfl⟩
theorem a3m:J5 X (.type "int") (λ xs H Q=>(∃ i,xs=[.int i]/\Q (.int i) H)\/∃ k,xs=[.bl k]/\Q (.int (if k then 1 else 0)) H):=by
 intro pins s σ H xs us Q I r h;rcases h with ⟨i,rfl,q⟩ | ⟨k,rfl,q⟩
 ·obtain ⟨u,rfl,t,rfl⟩:=P7 r
  exact call_int_int ⟨.int i,H,I,⟨_,rfl⟩,q⟩
 ·obtain ⟨u,rfl,r1⟩:=P7 r
  cases r1;exact call_int_bool ⟨.int (if k then 1 else 0),H,I.tok _,⟨_,rfl⟩,q⟩
end
structure ObjM (h:aG) (x dx C:aA) (mA:Str->Option aC):Prop where
 obj:h.get? x=some (iB C dx)
 ns:h.Ns1 dx mA
 ne:dx≠x
theorem a7F {h:aG} {dx:aA} {mA:Str->Option aC} (n:h.Ns1 dx mA):∃ od,h.get? dx=some od/\∀ name,mU name od=some (mA name):=by
 obtain ⟨o,es,ep,ho,hd,hk,_,hm⟩:=n;refine ⟨o,ho,λ name=>?_⟩;have e:=hm name;unfold nsFind findBy at e;rw [<- Array.find?_toList] at e;unfold mU;rw [hd];dsimp only
 split
 ·rename_i y q
  rw [q] at e;exact congrArg some e
 ·rename_i q
  rw [q] at e;have a:es.toList.any (·.refKey)=false:=by
   rw [List.any_eq_false];intro y hy;obtain ⟨z,t,hkey⟩:=hk y (Array.mem_toList_iff.mp hy);simp [xM,hkey]
  have a':¬ es.toList.any (·.refKey)=true:=by rw [a]; exact cS
  rw [if_neg a'];exact congrArg some e
theorem ObjM.look {h:aG} {x dx C:aA} {mA:Str->Option aC} (I:ObjM h x dx C mA):∃ od,W.InstAt h x (iB C dx) C (some od)/\∀ name,mU name od=some (mA name) :=
 let ⟨od,ho,hl⟩:=a7F I.ns
 ⟨od,⟨I.obj,rfl,rfl,ho⟩,hl⟩
section
variable {prog:aL} {w:aI} {A:aY} {E:aC->aD->Prop} {s:aD} {K:aE} {x dx C f:aA} {mA:Str->Option aC} {name:Str} {v:aC}
theorem b1n {expr:Bool} {Q:aC->aD->Prop} (X:K.In s.heap) (I:ObjM s.heap x dx C mA) (hg:jT K C name=true) (hh:lG K C=true)
  (ha:bB K (.ref C) name=some none) (hv:mA name=some v) (hv':rZ v=true) (h:Q v { s with toks:=s.toks+1 }) :
  wpAny (model prog w) A (getAttr (.ref x) name expr) Q E s:=by
 obtain ⟨od,J,hl⟩:=I.look;exact W.get_value X J (pA hg).1 (W.findObj_own hh ha rfl (by rw [hl,hv])) hv' h
theorem a9V {pl:Sem Bool} {Q:aC×List aC->aD->Prop} (X:K.In s.heap) (I:ObjM s.heap x dx C mA) (hg:jT K C name=true)
  (hf:bB K (.ref C) name=some (some (.ref f))) (ht:eI K (.ref f)=true) (hv:mA name=none) (h:Q (.ref f,[.ref x]) s) :
  wpAny (model prog w) A (getMethod (.ref x) name pl) Q E s:=by
 obtain ⟨od,J,hl⟩:=I.look;exact W.method_fn X J (pA hg).1 (pA hg).2 hf (beq_iff_eq.mp ht) (by show (mU name od).map (·.isSome)=some false; rw [hl,hv]; rfl) h
theorem b0N {ns:List Str} {Q:Unit->aD->Prop} (X:K.In s.heap) (I:ObjM s.heap x dx C mA)
  (hs:bB K (.ref C) "__setattr__"=some (some (.builtin "object.__setattr__"))) (hp:mV K C=true) (ht:pB K C name=some none) (hh:lG K C=true)
  (hw:oS mA ns) (hsz:ns.length<=sizeLine)
  (h:∀ h',ObjM h' x dx C (λ y=>if y=name then some v else mA y)->iX dx s.heap h'->Q () { s with heap:=h',toks:=s.toks+2 }) :
  wpAny (model prog w) A (setAttr (.ref x) name v) Q E s:=by
 obtain ⟨od,J,hl⟩:=I.look;refine W.set_plain X J hs (W.osa_open (s:={ s with toks:=s.toks+1 }) (r:=none) X J hp ht λ b=>?_);obtain ⟨cd,hc,hd'⟩:=W.any_some hh;have hx:s.heap.get? x=some ⟨.ref C,some dx,.plain,#[]⟩:=I.obj;refine aF (aT (aF (aF (sA hx (aF (W.Looks.here (s:={ s with toks:=s.toks+1 }) (W.looks_clsIn X hc) ?_))))));rw [hd'];refine aT (a:=some dx) (aF (aT (aF ?_)));refine wpAny_nsSet1 (s:={ s with toks:=s.toks+1 }) I.ns λ h' hn2 hs2=>?_;obtain ⟨oD,esD,epD,hoD,hdD,hcD⟩:=hn2.count (xN name v hw);refine aF (wpAny_lookBehind hoD (by rw [hdD]; exact pastItsLine_dict (cO hcD (by rw [fL]; omega))) ?_);exact aT (h _ ⟨(hs2.2 _ (bI I.ne)).trans I.obj,hn2,I.ne⟩ hs2)
theorem a9U {R:iG->aD->Prop} {vs:List aC} {kw:List (Str×Value)} (X:K.In s.heap) (hm:mW K C=true)
  (hi:bB K (.ref C) "__init__"=some (some (.ref f))) (hf:W.typeIn K (.ref f)=some (.type "function"))
  (h:codeAny (model prog w) (A.under (.builtin "type.__call__" ⟨.ref C::vs,kw⟩)) (.call (.ref f) ⟨.ref (s.heap.objs.size+1)::vs,kw⟩) (W.InitBack (s.heap.objs.size+1) R)
   { s with heap:=(s.heap.push iH).push (iB C s.heap.objs.size) }) :
  codeAny (model prog w) A (.call (.ref C) ⟨vs,kw⟩) R s:=by
 obtain ⟨hh,g,d,t,os⟩:=s;exact W.make_core (W.makes_of X hm) (W.looks_findIn X hi) (λ self=>W.bind_fn X self hf) (.inl rfl) h
end
def U3 (f:Str) (v:V):List (Str×V)->List (Str×V)
 | []=>[(f,v)]
 | (g,x)::r=>if g=f then (g,v)::r else (g,x)::U3 f v r
theorem a1H (f g:Str) (v:V):∀ fs:List (Str×V),(U3 f v fs).lookup g=if g=f then some v else fs.lookup g
 | []=>by
  show iI g [(f,v)]=_
  by_cases h:g=f
  ·have hb:(g==f)=true:=beq_iff_eq.mpr h
   simp only [iI,hb,if_pos h]
  ·have hb:(g==f)=false:=beq_eq_false_iff_ne.mpr h
   simp only [iI,hb,if_neg h]
 | (k,x)::r=>by
  have ih:=a1H f g v r;rw [show U3 f v ((k,x)::r)=(if k=f then (k,v)::r else (k,x)::U3 f v r) from rfl]
  by_cases hk:k=f
  ·rw [if_pos hk]
   by_cases h:g=k
   ·have hb:(g==k)=true:=beq_iff_eq.mpr h
    simp only [iI,hb,if_pos (h.trans hk)]
   ·have hb:(g==k)=false:=beq_eq_false_iff_ne.mpr h
    simp only [iI,hb,if_neg (λ e:g=f=>h (e.trans hk.symm))]
  ·rw [if_neg hk]
   by_cases h:g=k
   ·have hb:(g==k)=true:=beq_iff_eq.mpr h
    simp only [iI,hb,if_neg (λ e:g=f=>hk (h.symm.trans e))]
   ·have hb:(g==k)=false:=beq_eq_false_iff_ne.mpr h
    simp only [iI,hb];exact ih
theorem a1g (f:Str) (v:V):∀ fs:List (Str×V),f∈(U3 f v fs).map (·.1)/\∀ g,g∈fs.map (·.1)->g∈(U3 f v fs).map (·.1)
 | []=>⟨by simp [U3],λ g h=>by simp at h⟩
 | (k,x)::r=>by
  obtain ⟨i1,i2⟩:=a1g f v r;rw [show U3 f v ((k,x)::r)=(if k=f then (k,v)::r else (k,x)::U3 f v r) from rfl]
  by_cases hk:k=f
  ·rw [if_pos hk]
   subst hk;exact ⟨by simp,λ g h=>by simpa using h⟩
  ·rw [if_neg hk]
   refine ⟨?_,λ g h=>?_⟩
   ·rw [cJ]
    exact cQ _ i1
   ·rw [cJ] at h ⊢
    rcases bD.mp h with e | e
    ·exact bD.mpr (.inl e)
    ·exact cQ _ (i2 g e)
theorem a1J (f:Str) (v:V):∀ fs:List (Str×V),(U3 f v fs).length<=fs.length+1
 | []=>by simp [U3]
 | (k,x)::r=>by
  have ih:=a1J f v r;rw [show U3 f v ((k,x)::r)=(if k=f then (k,v)::r else (k,x)::U3 f v r) from rfl]
  by_cases hk:k=f
  ·rw [if_pos hk,fL,fL]; omega
  ·rw [if_neg hk,fL,fL]; omega
theorem RelO.some_of {v:V} {o:Option aC} (r:RelO (some v) o):∃ u,o=some u/\RelV v u:=by
 cases o with
 | none=>exact (show False from r).elim
 | some u=>exact ⟨u,rfl,r⟩
theorem RelO.none_of {o:Option aC} (r:RelO none o):o=none:=by
 cases o with
 | none=>rfl
 | some u=>exact (show False from r).elim
theorem a7H {v:V} {u:aC} (r:RelV v u):rZ u=true:=by
 cases v with
 | non=>cases (show u=gT from r); rfl
 | bl b=>cases (show u=mK b from r); rfl
 | int i=>obtain ⟨t,e⟩:=(show ∃ t,u=fR i t from r); cases e; rfl
 | str x=>obtain ⟨t,e⟩:=(show ∃ t,u=kZ x t from r); cases e; rfl
 | byt b=>obtain ⟨t,e⟩:=(show ∃ t,u=rE b t from r); cases e; rfl
 | flt b=>obtain ⟨t,e⟩:=(show ∃ t,u=oQ b t from r); cases e; rfl
 | ref a=>cases (show u=cY a from r); rfl
 | ty n=>cases (show u=rF n from r); rfl
section
variable {P:aL} {w:aI} {H H':Hp} {h h':aG} {a C dx:aA} {fs fs':List (Str×V)}
theorem a1S (hok:HOk P w H h) (e:H a=some (.ins C dx fs)):∃ mA,ObjM h a dx C mA/\(∀ f,RelO (fs.lookup f) (mA f))/\oS mA (fs.map (·.1))/\fs.length<=1000/\H dx=some (.own a):=by
 obtain ⟨d,z,ne,ob,mA,n,r,q⟩:=(show ObjOk P w H h a (.ins C dx fs) from hok a _ e);exact ⟨mA,⟨ob,n,ne⟩,r,q,z,d⟩
end
structure Cls (K:aE) (C:aA):Prop where
 pg:jT K C jU=true
 hd:lG K C=true
 po:mV K C=true
 sa:bB K (.ref C) "__setattr__"=some (some (.builtin "object.__setattr__"))
theorem Cls.get {K:aE} {C:aA} (c:Cls K C) (f:Str):jT K C f=true:=c.pg
def NoAttr (K:aE) (C:aA) (f:Str):Prop:=bB K (.ref C) f=some none
theorem NoAttr.taker {K:aE} {C:aA} {f:Str} (n:NoAttr K C f):pB K C f=some none:=by
 unfold pB;rw [show bB K (.ref C) f=some none from n];rfl
structure Con (K:aE) (C:aA) (f:Str) (v:V) (u:aC):Prop where
 at_:bB K (.ref C) f=some (some u)
 rel:RelV v u
 get:sB K u "__get__"=some none
 cp:W.copiedNames.contains f=false
structure a8p (K:aE) (C:aA) (m:Str) (f:aA):Prop where
 at_:bB K (.ref C) m=some (some (.ref f))
 fn:eI K (.ref f)=true
 kp:dL K (.ref f)=true
section
variable {X:Cx} {pins:List (aA×Obj)} {σ:St} {H:Hp} {s:aD} {a C dx:aA} {fs:List (Str×V)} {f:Str} {v:V} {A:aY} {E:aC->aD->Prop}
theorem a5N {b:Bool} {Q:aC->aD->Prop} (I:Inv X pins σ H s) (e:H a=some (.ins C dx fs)) (c:Cls X.K C) (n:NoAttr X.K C f) (l:fs.lookup f=some v)
  (h:∀ u s',Inv X pins σ H s'->RelV v u->Q u s'):wpAny (model X.prog X.w) A (getAttr (.ref a) f b) Q E s:=by
 obtain ⟨mA,O,r,_,_,_⟩:=a1S I.hok e;obtain ⟨u,hu,ru⟩:=RelO.some_of (v:=v) (o:=mA f) (by rw [<- l]; exact r f);exact b1n I.kIn O (c.get f) c.hd n hu (a7H ru) (h u _ (I.tok _) ru)
theorem a2M {m:Str} {g:aA} {pl:Sem Bool} {Q:aC×List aC->aD->Prop} (I:Inv X pins σ H s) (e:H a=some (.ins C dx fs)) (c:Cls X.K C) (k:a8p X.K C m g) (l:fs.lookup m=none)
  (h:Q (.ref g,[.ref a]) s):wpAny (model X.prog X.w) A (getMethod (.ref a) m pl) Q E s:=by
 obtain ⟨mA,O,r,_,_,_⟩:=a1S I.hok e;have hn:mA m=none:=RelO.none_of (by rw [<- l]; exact r m);exact a9V I.kIn O (c.get m) k.at_ k.fn hn h
theorem a5O {y:V} {u:aC} {Q:Unit->aD->Prop} (I:Inv X pins σ H s) (e:H a=some (.ins C dx fs)) (c:Cls X.K C) (n:NoAttr X.K C f) (hl:fs.length<1000) (ry:RelV y u)
  (h:∀ s',Inv X pins σ (upd H a (.ins C dx (U3 f y fs))) s'->Q () s'):wpAny (model X.prog X.w) A (setAttr (.ref a) f u) Q E s:=by
 obtain ⟨mA,O,r,wi,_,ho⟩:=a1S I.hok e;have hz:(fs.map (·.1)).length<=sizeLine:=by rw [aH,jS]; omega
 refine b0N I.kIn O c.sa c.po n.taker c.hd wi hz λ h' O' sb=>h _ ?_;have hd:∃ o,h'.get? dx=some o:=let ⟨o,_,_,e',_⟩:=O'.ns; ⟨o,e'⟩
 refine I.write (x:=a) (e:=dx) (by rw [e]; exact jA) (.inr ho) (λ b q hb z=>(sb.2 b hb).trans z) hd ?_;refine ⟨by rw [i7 O.ne]; exact ho,?_,O.ne,O'.obj,_,O'.ns,λ g=>?_,λ g hg=>?_⟩
 ·have:=a1J f y fs; omega
 ·show RelO ((U3 f y fs).lookup g) (if g=f then some u else mA g)
  rw [a1H]
  by_cases q:g=f
  ·rw [if_pos q,if_pos q]; exact ry
  ·rw [if_neg q,if_neg q]; exact r g
 ·by_cases q:g=f
  ·rw [q]; exact (a1g f y fs).1
  ·refine (a1g f y fs).2 g (wi g λ z=>hg ?_)
   show (if g=f then some u else mA g)=none
   rw [if_neg q]; exact z
theorem Inv.made (I:Inv X pins σ H s):Inv X pins σ (upd (upd H s.heap.objs.size (.own (s.heap.objs.size+1))) (s.heap.objs.size+1) (.ins C s.heap.objs.size []))
  { s with heap:=(s.heap.push iH).push (iB C s.heap.objs.size) }:=by
 have e1:(s.heap.push iH).get? s.heap.objs.size=some iH:=cI s.heap rfl;have e2:((s.heap.push iH).push (iB C s.heap.objs.size)).get? (s.heap.objs.size+1)=some (iB C s.heap.objs.size):=by
  have:=cI (s.heap.push iH) (o:=iB C s.heap.objs.size) rfl
  rwa [eQ] at this
 have e3:(s.heap.push iH).Ns s.heap.objs.size (λ _=>none):=⟨W.emptyDict,#[],_,e1,rfl,(λ e he=>absurd he (by simp)),λ _=>rfl⟩;have I1:=I.laid (a:=s.heap.objs.size) (o:=.own (s.heap.objs.size+1)) (h':=s.heap.push iH) (t':=s.toks) (λ b u q=>bE _ q) (aU _) ⟨_,e1⟩;refine I1.laid (a:=s.heap.objs.size+1) (o:=.ins C s.heap.objs.size []) (t':=s.toks) (λ b u q=>bE _ q) (sC (eQ _ _)) ?_;have ne:s.heap.objs.size≠s.heap.objs.size+1:=cF (jB _);refine ⟨by rw [i7 ne,upd_same],dA _,ne,e2,λ _=>none,(Heap.Ns1.of_empty e3).at λ o q=>bE _ q,λ _=>jA,λ y hy=>absurd rfl hy⟩
theorem b1u {prog:aL} {w:aI} {env:Env} {e:aN} {f:Str} {pos:Pos} {s:aD} {Q:aC->aD->Prop} (hb:attributeBase e f env (eval e env)=eval e env)
  (h:wpAny (model prog w) A (eval e env) (λ o s₁=>wpAny (model prog w) A (getAttr o f true) Q E s₁) E s):wpAny (model prog w) A (eval (.Attribute e f pos) env) Q E s :=
 Attribute_any_ h (by rw [arm_eval_Attribute,hb])
end
def b5q (K:aE) (ta:TE) (f:Str):TE:=λ σ H Q=>ta σ H λ x H1=>∃ a C dx fs v,x=.ref a/\H1 a=some (.ins C dx fs)/\Cls K C/\NoAttr K C f/\fs.lookup f=some v/\Q v H1
def b6r (K:aE) (ta tv:TE) (f:Str):TS:=λ D σ H=>tv σ H λ y H1=>ta σ H1 λ x H2=>∃ a C dx fs,x=.ref a/\H2 a=some (.ins C dx fs)/\Cls K C/\NoAttr K C f/\fs.length<1000 ∧
 D.nx σ (upd H2 a (.ins C dx (U3 f y fs)))
section
variable {X:Cx} {o e value:aN} {f:Str} {pos pos' tpos:Pos} {ta tv:TE}
theorem t9 (he:PE X e ta) (hb:attributeBase e f X.env (eval e X.env)=eval e X.env):PE X (.Attribute e f pos) (b5q X.K ta f):=by
 intro pins s σ H Q I h;refine b1u hb (A7 (he pins s σ H _ I h) λ u s1 ⟨x,H1,I1,rx,a,C,dx,fs,v,ex,ea,c,n,l,q⟩=>?_);subst ex;obtain rfl:u=cY a:=rx;exact a5N I1 ea c n l λ u' s2 I2 ru=>⟨v,H1,I2,ru,q⟩
theorem K2 (ha:PE X o ta) (hv:PE X value tv) (hs:swapsWith value (some (.Attribute o f pos')) pos.line X.env=pure false):PS X (.Assign [.Attribute o f pos'] value pos) (b6r X.K ta tv f):=by
 intro pins s σ H D I h;refine plainObj_wpAny_Assign_Attribute (A7 (hv pins s σ H _ I h) λ u s1 ⟨y,H1,I1,ry,q⟩=>A7 (ha pins s1 σ H1 _ I1 q) λ ov s2 ⟨x,H2,I2,rx,a,C,dx,fs,ex,ea,c,n,l,q2⟩=>?_) hs;subst ex;obtain rfl:ov=cY a:=rx;exact a5O I2 ea c n l ry λ s3 I3=>⟨σ,_,I3,q2⟩
end
section
variable {X:Cx} {pins:List (aA×Obj)} {σ:St} {H:Hp} {s:aD} {A:aY} {E:aC->aD->Prop} {Q:aC->aD->Prop} {c:aC} {b:Bool}
inductive a1u (K:aE) (H:Hp):V->aC->Prop where
 | non:a1u K H .non (.type "NoneType")
 | bl (x:Bool):a1u K H (.bl x) (.type "bool")
 | int (i:Int):a1u K H (.int i) (.type "int")
 | str (x:Str):a1u K H (.str x) (.type "str")
 | flt (x:UInt64):a1u K H (.flt x) (.type "float")
 | lst {a:aA} {xs:List V} (e:H a=some (.lst xs)):a1u K H (.ref a) (.type "list")
 | frz {a:aA} {o:Obj} {xs:List V} (e:H a=some (.frz o (.lst xs))):a1u K H (.ref a) (.type "list")
 | tup {a:aA} {xs:List V} (e:H a=some (.tup xs)):a1u K H (.ref a) (.type "tuple")
 | dK {a:aA} {kvs:List (Key×V)} (e:H a=some (.dK kvs)):a1u K H (.ref a) (.type "dict")
 | dT {a:aA} {kvs:List (List Key×V)} (e:H a=some (.dT kvs)):a1u K H (.ref a) (.type "dict")
 | ins {a C dx:aA} {fs:List (Str×V)} (e:H a=some (.ins C dx fs)) (cl:Cls K C) (ha:bB K (.ref C) "__class__"=some (some (.builtin "object.__class__")))
   (hn:sB K (.builtin "object.__class__") "__get__"=some (some (.builtin "getset_descriptor.__get__"))) (htk:W.takesIn K (.builtin "object.__class__")=some true)
   (hm:dM K C (.type "object")=some true):a1u K H (.ref a) (.ref C)
theorem a8f {x:V} {u t:aC} (I:Inv X pins σ H s) (rx:RelV x u) (ty:a1u X.K H x t) (e:bV X.K t c=some b) (h:∀ tk,Q (.bool b) { s with toks:=tk }) :
  wpAny (model X.prog X.w) A (call (.builtin "isinstance") [u,c]) Q E s:=by
 cases ty with
 | non=>cases (show u=gT from rx); exact fM W.kitx_none I.kIn jA e (λ z=>nomatch z) h
 | bl y=>cases (show u=mK y from rx); exact fM W.kitx_bool I.kIn jA e (λ z=>nomatch z) h
 | int i=>obtain ⟨t,q⟩:=(show ∃ t,u=fR i t from rx); cases q; exact fM W.kitx_int I.kIn jA e (λ z=>nomatch z) h
 | str y=>obtain ⟨t,q⟩:=(show ∃ t,u=kZ y t from rx); cases q; exact fM W.kitx_str I.kIn jA e (λ z=>nomatch z) h
 | flt y=>obtain ⟨t,q⟩:=(show ∃ t,u=oQ y t from rx); cases q; exact fM W.kitx_float I.kIn jA e (λ z=>nomatch z) h
 | @lst a xs ea =>
  cases (show u=cY a from rx);obtain ⟨_,_,n,_,h1⟩:=(show ObjOk X.prog X.w H s.heap a (.lst xs) from I.hok a _ ea);exact fM sD I.kIn ⟨_,h1,rfl⟩ e (λ z=>nomatch z) h
 | @frz a ob xs ea =>
  cases (show u=cY a from rx);obtain ⟨_,_,_,n,_,h1⟩:=(show ObjOk X.prog X.w H s.heap a (.frz ob (.lst xs)) from I.hok a _ ea);exact fM sD I.kIn ⟨_,h1,rfl⟩ e (λ z=>nomatch z) h
 | @tup a xs ea =>
  cases (show u=cY a from rx);obtain ⟨_,_,_,p⟩:=(show ObjOk X.prog X.w H s.heap a (.tup xs) from I.hok a _ ea);obtain ⟨o,h1,h2,_⟩:=p;exact fM sE I.kIn ⟨o,h1,h2⟩ e (λ z=>nomatch z) h
 | @dK a kvs ea =>
  cases (show u=cY a from rx);obtain ⟨_,_,vs,_,p⟩:=(show ObjOk X.prog X.w H s.heap a (.dK kvs) from I.hok a _ ea);obtain ⟨o,es,ep,h1,h2,_⟩:=p;exact fM sF I.kIn ⟨o,h1,h2.1⟩ e (λ z=>nomatch z) h
 | @dT a kvs ea =>
  cases (show u=cY a from rx);obtain ⟨_,_,xs,_,o,es,ep,h1,h2,_⟩:=(show ObjOk X.prog X.w H s.heap a (.dT kvs) from I.hok a _ ea);exact fM sF I.kIn ⟨o,h1,h2.1⟩ e (λ z=>nomatch z) h
 | @ins a C dx fs ea cl ha hn htk hm =>
  cases (show u=cY a from rx);obtain ⟨mA,O,_⟩:=a1S I.hok ea;obtain ⟨od,J,_⟩:=O.look;exact fM (W.kitx_own (cl.get _) cl.hd ha hn htk hm) I.kIn J e (λ z=>nomatch z) h
end
structure Room (k:Nat) (A:aY):Prop where
 hd:A.handled=none
 dp:A.depth+3*k+5<recursionLimit
 un:A.units+16*k+200<cLine
theorem Room.mono {j k:Nat} {A:aY} (r:Room k A) (h:j<=k):Room j A:=⟨r.hd,by have:=r.dp; omega,by have:=r.un; omega⟩
theorem Room.deeper {k:Nat} {A:aY} (r:Room (k+1) A) (env:Env):Room k (A.deeper env) :=
 ⟨r.hd,by have:=r.dp; show A.depth+1+3*k+5<_; omega,by have:=r.un; show A.units+3+16*k+200<_; omega⟩
theorem Room.in1 {k:Nat} {A:aY} (r:Room (k+1) A):Room k A.in1 :=
 ⟨r.hd,by have:=r.dp; show A.depth+3*k+5<_; omega,by have:=r.un; show A.units+1+16*k+200<_; omega⟩
theorem a5r {A:aY} {C:aA} {us:List aC} {kw:List (Str×Value)}:(A.under (.builtin "type.__call__" ⟨.ref C::us,kw⟩)).depth=A.depth+1:=by
 first | rfl | simp [pC,Code.weight,Code.isCreation,Code.isGuard,Code.isCaller,sG,pD,guardIds]
theorem a6d {A:aY} {C:aA} {us:List aC} {kw:List (Str×Value)}:(A.under (.builtin "type.__call__" ⟨.ref C::us,kw⟩)).units=A.units+1:=by
 first | rfl | simp [pC,Code.cUnits,sG,pD]
theorem Room.make {k:Nat} {A:aY} (r:Room (k+1) A) (C:aA) (us:List aC) (kw:List (Str×Value)):Room k (A.under (.builtin "type.__call__" ⟨.ref C::us,kw⟩)) :=
 ⟨r.hd,by have:=r.dp; rw [a5r]; omega,by have:=r.un; rw [a6d]; omega⟩
theorem Room.depth {k:Nat} {A:aY} (r:Room k A):A.depth<recursionLimit:=by have:=r.dp; omega
theorem Room.units {k:Nat} {A:aY} (r:Room k A):A.units+64<cLine:=by have:=r.un; omega
def b0A:TA:=λ _ H Q=>Q [] H
def a4z (ta:TE) (tr:TA):TA:=λ σ H Q=>ta σ H λ x H1=>tr σ H1 λ xs H2=>Q (x::xs) H2
section
variable {X:Cx} {e:aN} {es:List aN} {te:TE} {t:TA} {pos:Pos}
theorem h8:PA X [] b0A:=λ _ _ _ _ H Q I h=>Calls.spliced_nil ⟨[],H,I,.nil,h⟩
theorem d0 (ha:PE X e te) (hr:PA X es t) (hs:starEach (e::es) X.env=(false,eval e X.env)::starEach es X.env:=by rfl):PA X (e::es) (a4z te t):=by
 intro pos pins s σ H Q I h;rw [hs]
 show wpAny _ _ (spliced ((false,eval e X.env)::backTo pos (starEach es X.env))) _ _ s
 refine sH (A7 (ha pins s σ H _ I h) λ u s1 ⟨x,H1,I1,r1,q1⟩=>?_);exact A7 (hr pos pins s1 σ H1 _ I1 q1) λ us s2 ⟨xs,H2,I2,r2,q2⟩=>⟨x::xs,H2,I2,.cons r1 r2,q2⟩
def b4I (t:TA):TE:=λ σ H Q=>t σ H λ xs H1=>xs.length<=sizeLine/\∀ p,H1 p=none->Q (.ref p) (upd H1 p (.tup xs))
def b6u (t:TA):TE:=λ σ H Q=>t σ H λ xs H1=>xs.length<=sizeLine/\∀ p,H1 p=none->Q (.ref p) (upd H1 p (.lst xs))
theorem D3 {x1} (h:PA X es t):PE X (.Tuple es x1 pos) (b4I t):=by
 intro pins s σ H Q I hq;refine wpAny_Tuple_spliced (A7 (h pos pins s σ H _ I hq) λ us s1 ⟨xs,H1,I1,r,z,q⟩=>⟨by rw [<- r.length]; exact z,?_⟩);have hf:H1 s1.heap.objs.size=none:=I1.hok.fresh (aU _);refine ⟨.ref s1.heap.objs.size,upd H1 s1.heap.objs.size (.tup xs),I1.laid (t':=s1.toks) (λ b u e=>bE _ e) (aU _) ?_,rfl,q _ hf⟩;exact ⟨z,us,r,⟨_,cI _ rfl,rfl,_,rfl⟩⟩
theorem v7 (h:PA X es t):PE X (.List es pos) (b6u t):=by
 intro pins s σ H Q I hq;refine wpAny_List_spliced (A7 (h pos pins s σ H _ I hq) λ us s1 ⟨xs,H1,I1,r,z,q⟩=>⟨by rw [<- r.length]; exact z,?_⟩);have hf:H1 s1.heap.objs.size=none:=I1.hok.fresh (aU _);refine ⟨.ref s1.heap.objs.size,upd H1 s1.heap.objs.size (.lst xs),I1.laid (t':=s1.toks) (λ b u e=>bE _ e) (aU _) ?_,rfl,q _ hf⟩;exact ⟨z,us,0,r,cI _ rfl⟩
end
abbrev Sp:=List V->Hp->VK->XK->Prop
abbrev CXT:=List Env->Hp->aD->XK->aC->aD->Prop
structure Env0 (P:aL) (w:aI) (K:aE) (mg:Str->Option aC) (base:aG) (A:aY) (outer:List Env) (s:aD) (H:Hp):Prop where
 frames:A.frames=some outer
 mod:Mod K mg base
 bs:∀ b o,base.get? b=some o->s.heap.get? b=some o/\H b=none
 bsz:base.objs.size<=s.heap.objs.size
 funs:s.heap.FunFrames base outer
 frf:∀ b∈frs outer,H b=none
 hok:HOk P w H s.heap
 bare:gA s.gens
def CE (outer:List Env) (P:aL) (w:aI) (H:Hp) (s:aD) (Q:VK) (u:aC) (s':aD):Prop :=
 ∃ v H',s'.os=s.os/\gA s'.gens/\Un (frs outer) [] H H' s.heap s'.heap/\HOk P w H' s'.heap/\RelV v u/\Q v H'
def CR (CX:CXT) (outer:List Env) (P:aL) (w:aI) (H:Hp) (s:aD) (Q:VK) (E:XK) (r:iG) (s':aD):Prop :=
 match r with
 | .ok (.ret u)=>CE outer P w H s Q u s'
 | .ok _=>False
 | .error e=>CX outer H s E e s'
structure FnOk (P:aL) (w:aI) (K:aE) (mg:Str->Option aC) (base:aG) (CX:CXT) (k:Nat) (f:aA) (fd:aJ) (ps:List Str) (sp:Sp):Prop where
 len:∀ vs H Q E,sp vs H Q E->vs.length=ps.length
 run:∀ (A:aY) (outer:List Env) (s:aD) (H:Hp) (args:Args) (us:List aC) (vs:List V) (Q:VK) (E:XK),Room k A->Env0 P w K mg base A outer s H->iJ s fd args (ps.zip us)->Vals vs us->sp vs H Q E →
  codeAny (model P w) A (.call (.ref f) args) (CR CX outer P w H s Q E) s
theorem FnOk.imp {P:aL} {w:aI} {K:aE} {mg:Str->Option aC} {base:aG} {CX:CXT} {k:Nat} {f:aA} {fd:aJ} {ps:List Str} {sp sp':Sp} (F:FnOk P w K mg base CX k f fd ps sp)
  (h:∀ vs H Q E,sp' vs H Q E->sp vs H Q E):FnOk P w K mg base CX k f fd ps sp' :=
 ⟨λ vs H Q E q=>F.len vs H Q E (h _ _ _ _ q),λ A outer s H args us vs Q E hr he hb hv hs=>F.run A outer s H args us vs Q E hr he hb hv (h _ _ _ _ hs)⟩
theorem Env0.make {P:aL} {w:aI} {K:aE} {mg:Str->Option aC} {base:aG} {A:aY} {outer:List Env} {s:aD} {H:Hp} (e:Env0 P w K mg base A outer s H) (C:aA) (us:List aC) (kw:List (Str×Value)) :
  Env0 P w K mg base (A.under (.builtin "type.__call__" ⟨.ref C::us,kw⟩)) outer s H:=⟨by first | exact e.frames | (simpa [pC,Code.envs,pD,pushEnvs] using e.frames),e.mod,e.bs,e.bsz,e.funs,e.frf,e.hok,e.bare⟩
section
variable {X:Cx} {pins:List (aA×Obj)} {σ:St} {H:Hp} {s s':aD}
theorem Inv.env0 (I:Inv X pins σ H s):Env0 X.prog X.w X.K X.mg X.base X.A X.stack s H :=
 ⟨I.ok.frames,I.ok.mod,I.bs,cO I.ok.bsz I.sz,I.stack,I.stkFree,I.hok,I.bare⟩
theorem Inv.after {Q:VK} {u:aC} (I:Inv X pins σ H s) (h:CE X.stack X.prog X.w H s Q u s'):EP X pins σ Q u s':=by
 obtain ⟨v,H',os,bare,un,hok,r,q⟩:=h;obtain ⟨hh,g,d,t,os'⟩:=s';obtain rfl:os'=s.os:=os;exact ⟨v,H',I.call (h':=hh) (g':=g) (d':=d) (t':=t) (ch:=[]) un hok bare (λ b z=>absurd z (by simp)),r,q⟩
end
def b2w (sp:Sp) (dvs:List V) (E:XK) (t:TA):TE:=λ σ H Q=>t σ H λ vs H1=>sp (vs++dvs) H1 Q E
def b2c (C:aA) (m:Str) (sp:Sp) (dvs:List V) (E:XK) (ta:TE) (t:TA):TE:=λ σ H Q=>ta σ H λ x H1=>∃ a dx fs,x=.ref a/\H1 a=some (.ins C dx fs)/\fs.lookup m=none ∧
 t σ H1 λ vs H2=>sp (x::(vs++dvs)) H2 Q E
def b4K (C:aA) (sp:Sp) (dvs:List V) (E:XK) (t:TA):TE:=λ σ H Q=>t σ H λ vs H1=>∀ x dx,H1 x=none->H1 dx=none->dx≠x →
 sp (.ref x::(vs++dvs)) (upd (upd H1 dx (.own x)) x (.ins C dx [])) (λ v H2=>v=.non/\Q (.ref x) H2) E
def Binds (K:aE) (fd:aJ) (ps:List Str) (ds:List aC):Prop :=
 ∀ (s:aD) (us:List aC),K.In s.heap->(us++ds).length=ps.length->iJ s fd ⟨us,[]⟩ (ps.zip (us++ds))
theorem Binds.all {K:aE} {fd:aJ} {ps:List Str} (h:∀ us:List aC,us.length=ps.length->bindArgs fd ⟨us,[]⟩=pure (ps.zip us)):Binds K fd ps []:=λ s us _ hl=>by
 rw [jC] at hl ⊢;exact .of_eq (h us hl)
def P6 (CX:CXT) (X:Cx) (E:XK):Prop:=∀ (pins:List (aA×Obj)) (σ:St) (H:Hp) (s:aD) (e:aC) (s':aD),Inv X pins σ H s->CX X.stack H s E e s'->X.xe e s'
section
variable {X:Cx} {CX:CXT} {k:Nat} {f C:aA} {fd:aJ} {ps:List Str} {sp:Sp} {dvs:List V} {ds:List aC} {E:XK} {x m:Str} {p pos apos:Pos} {e o:aN} {es:List aN} {ta:TE} {t:TA}
theorem a5M {pins:List (aA×Obj)} {σ:St} {H:Hp} {s:aD} {Q:VK} {us:List aC} {vs:List V} (F:FnOk X.prog X.w X.K X.mg X.base CX k f fd ps sp) (hr:Room k X.A) (hb:Binds X.K fd ps ds) (hd:Vals dvs ds) (hx:P6 CX X E)
  (I:Inv X pins σ H s) (r:Vals vs us) (h:sp (vs++dvs) H Q E):wpAny (model X.prog X.w) X.A (call (.ref f) us) (EP X pins σ Q) X.xe s:=by
 have r2:Vals (vs++dvs) (us++ds):=r.append hd;have hl:(us++ds).length=ps.length:=by rw [<- r2.length]; exact F.len _ _ _ _ h
 refine lH (jV (F.run X.A X.stack s H ⟨us,[]⟩ (us++ds) (vs++dvs) Q E hr I.env0 (hb s us I.kIn hl) r2 h) λ r s' hq=>?_)
 cases r with
 | error e=>exact hx pins σ H s e s' I hq
 | ok fl =>
  cases fl with
  | ret u=>exact I.after hq
  | next=>exact dD hq
  | brk=>exact dD hq
  | cont=>exact dD hq
theorem j6 (F:FnOk X.prog X.w X.K X.mg X.base CX k f fd ps sp) (hr:Room k X.A) (hg:Gl X x) (hm:X.mg x=some (.ref f)) (hk:dL X.K (.ref f)=true) (hb:Binds X.K fd ps ds) (hd:Vals dvs ds) (hx:P6 CX X E)
  (ha:PA X (e::es) t) (hdb:(x==("__debug__":Str))=false:=by decide) (he:starEach (e::es) X.env=(false,eval e X.env)::starEach es X.env:=by rfl) (hpl:(backTo pos (starEach es X.env)).any (·.1)=false:=by rfl) :
  PE X (.Call (.Name x p) (e::es) [] pos) (b2w sp dvs E t):=by
 intro pins s σ H Q I h;refine jD (V1 I hg hm ?_ hdb);refine lI (h₀:=X.base) I.ok.mod.kin hk (A7 (ha pos pins s σ H _ I h) λ us s1 ⟨vs,H1,I1,r,q⟩=>⟨I1.kIn,?_⟩) he hpl;exact a5M F hr hb hd hx I1 r q
theorem Q4 {pl:Sem Bool} (he:PE X o ta) (c:Cls X.K C) (hm:a8p X.K C m f) (F:FnOk X.prog X.w X.K X.mg X.base CX k f fd ps sp) (hr:Room k X.A) (hb:Binds X.K fd ps ds) (hd:Vals dvs ds) (hx:P6 CX X E) (ha:PA X (e::es) t)
  (hst:starEach (e::es) X.env=(false,eval e X.env)::starEach es X.env:=by rfl) (hpl:(backTo pos (starEach es X.env)).any (·.1)=false:=by rfl)
  (ht:eval (.Call (.Attribute o m apos) (e::es) [] pos) X.env=(do
   let ov <- eval o X.env
   standAt apos.atName
   let (f,first) <- holding [ov] (getMethod ov m pl)
   callWith pos f first (backTo pos (starEach (e::es) X.env)) (backToKw pos (keywordEach [] X.env))):=by rfl) :
  PE X (.Call (.Attribute o m apos) (e::es) [] pos) (b2c C m sp dvs E ta t):=by
 intro pins s σ H Q I h;refine sI (pl:=pl) (A7 (he pins s σ H _ I h) λ u s1 ⟨x,H1,I1,rx,a,dx,fs,ex,ea,l,q⟩=>?_) ht;subst ex;obtain rfl:u=cY a:=rx;refine a2M I1 ea c hm l ?_;refine lI (first:=[.ref a]) (h₀:=X.base) I.ok.mod.kin hm.kp (A7 (ha pos pins s1 σ H1 _ I1 q) λ us s2 ⟨vs,H2,I2,r,q2⟩=>⟨I2.kIn,?_⟩) hst hpl;exact a5M (us:=.ref a::us) (vs:=.ref a::vs) F hr hb hd hx I2 (.cons rfl r) q2
theorem X7 {pl:Sem Bool} (he:PE X o ta) (c:Cls X.K C) (hm:a8p X.K C m f) (F:FnOk X.prog X.w X.K X.mg X.base CX k f fd ps sp) (hr:Room k X.A) (hb:Binds X.K fd ps ds) (hd:Vals dvs ds) (hx:P6 CX X E)
  (ht:eval (.Call (.Attribute o m apos) [] [] pos) X.env=(do
   let ov <- eval o X.env
   standAt apos.atName
   let (f,first) <- holding [ov] (getMethod ov m pl)
   callWith pos f first (backTo pos (starEach [] X.env)) (backToKw pos (keywordEach [] X.env))):=by rfl) :
  PE X (.Call (.Attribute o m apos) [] [] pos) (b2c C m sp dvs E ta b0A):=by
 intro pins s σ H Q I h;refine sI (pl:=pl) (A7 (he pins s σ H _ I h) λ u s1 ⟨x,H1,I1,rx,a,dx,fs,ex,ea,l,q⟩=>?_) ht;subst ex;obtain rfl:u=cY a:=rx;refine a2M I1 ea c hm l ?_;exact W.callWith_K0 (first:=[.ref a]) I1.kIn hm.kp (a5M (us:=[.ref a]) (vs:=[.ref a]) F hr hb hd hx I1 (.cons rfl .nil) q)
structure Mk (K:aE) (C f:aA):Prop where
 makes:mW K C=true
 init:bB K (.ref C) "__init__"=some (some (.ref f))
 fn:eI K (.ref f)=true
 kp:dL K (.ref C)=true
theorem a8y {pins:List (aA×Obj)} {σ:St} {H:Hp} {s:aD} {Q:VK} {us:List aC} {vs:List V} (M:Mk X.K C f) (F:FnOk X.prog X.w X.K X.mg X.base CX k f fd ps sp) (hr:Room (k+1) X.A) (hb:Binds X.K fd ps ds) (hd:Vals dvs ds)
  (hx:P6 CX X E) (I:Inv X pins σ H s) (r:Vals vs us)
  (h:∀ x dx,H x=none->H dx=none->dx≠x->sp (.ref x::(vs++dvs)) (upd (upd H dx (.own x)) x (.ins C dx [])) (λ v H2=>v=.non/\Q (.ref x) H2) E) :
  wpAny (model X.prog X.w) X.A (call (.ref C) us) (EP X pins σ Q) X.xe s:=by
 have hq:=h (s.heap.objs.size+1) s.heap.objs.size (I.hok.fresh (mX _)) (I.hok.fresh (aU _)) (cF (jB _));have I2:=Inv.made (C:=C) I;have r2:Vals (V.ref (s.heap.objs.size+1)::(vs++dvs)) (cY (s.heap.objs.size+1)::(us++ds)):=.cons rfl (r.append hd);have hl:(cY (s.heap.objs.size+1)::us++ds).length=ps.length:=by
  have e:=r2.length;rw [F.len _ _ _ _ hq] at e;exact e.symm
 refine lH (a9U (f:=f) I.kIn M.makes M.init (beq_iff_eq.mp M.fn) (jV (F.run _ X.stack _ _ ⟨Value.ref (s.heap.objs.size+1)::us,[]⟩ (cY (s.heap.objs.size+1)::(us++ds)) _ _ E (hr.make C us [])
  (I2.env0.make C us []) (hb _ (cY (s.heap.objs.size+1)::us) I2.kIn hl) r2 hq) λ r s' hq'=>?_))
 cases r with
 | error e=>exact hx pins σ _ _ e s' I2 hq'
 | ok fl =>
  cases fl with
  | ret u =>
   obtain ⟨v,H',I3,rv,ev,q3⟩:=I2.after hq';subst ev;exact ⟨rv,⟨V.ref (s.heap.objs.size+1),H',I3,rfl,q3⟩⟩
  | next=>exact dD hq'
  | brk=>exact dD hq'
  | cont=>exact dD hq'
theorem a6E (M:Mk X.K C f) (F:FnOk X.prog X.w X.K X.mg X.base CX k f fd ps sp) (hr:Room (k+1) X.A) (hg:Gl X x) (hm:X.mg x=some (.ref C)) (hb:Binds X.K fd ps ds) (hd:Vals dvs ds) (hx:P6 CX X E)
  (ha:PA X (e::es) t) (hdb:(x==("__debug__":Str))=false:=by decide) (he:starEach (e::es) X.env=(false,eval e X.env)::starEach es X.env:=by rfl) (hpl:(backTo pos (starEach es X.env)).any (·.1)=false:=by rfl) :
  PE X (.Call (.Name x p) (e::es) [] pos) (b4K C sp dvs E t):=by
 intro pins s σ H Q I h;refine jD (V1 I hg hm ?_ hdb);refine lI (h₀:=X.base) I.ok.mod.kin M.kp (A7 (ha pos pins s σ H _ I h) λ us s1 ⟨vs,H1,I1,r,q⟩=>⟨I1.kIn,?_⟩) he hpl;exact a8y M F hr hb hd hx I1 r q
end
section
variable {X:Cx} {CX:CXT} {k:Nat} {f C:aA} {fd:aJ} {ps ks:List Str} {sp:Sp} {E:XK} {x m:Str} {p pos apos kpos:Pos} {e o:aN} {es:List aN} {kws:List pE} {te ta:TE} {t tk:TA} {nm:Option Str}
structure b6k (K:aE) (fd:aJ) (ps ks:List Str) (g:List aC->List aC->List aC) (gV:List V->List V->List V):Prop where
 to:∀ (s:aD) (us ws:List aC),K.In s.heap->(g us ws).length=ps.length->iJ s fd ⟨us,ks.zip ws⟩ (ps.zip (g us ws))
 rel:∀ {vs:List V} {us:List aC} {zs:List V} {ws:List aC},Vals vs us->Vals zs ws->Vals (gV vs zs) (g us ws)
variable {g:List aC->List aC->List aC} {gV:List V->List V->List V}
end
structure m6 (N P:List Str) (sc:bS):Prop where
 kind:sc.kind=.function
 co:sc.isCoroutine=false
 gen:sc.isGenerator=false
 nd:N.Nodup
 pre:N.take P.length=P
 par:∀ x∈P,sc.names.lookup x=some .local\/sc.names.lookup x=some .cell
 nofree:∀ y∈sc.names,y.2≠.free
theorem a3g {kindOf:Str->Option jE} {x:Str}:∀ {binds:List (Str×Value)} {m:Str->Option aC},(∀ v,(x,v) ∉ binds)->bindL kindOf binds m x=m x
 | [],_,_=>rfl
 | (n,v)::r,m,h=>by
  unfold bindL;rw [a3g λ w hw=>h w (cQ _ hw)]
  split
  ·have:x≠n:=by rintro rfl; exact h v dU
   simp [this]
  ·rfl
theorem a2Z {kindOf:Str->Option jE} {x:Str}:∀ {binds:List (Str×Value)} {m:Str->Option aC},(∀ v,(x,v) ∉ binds)->bindC kindOf binds m x=m x
 | [],_,_=>rfl
 | (n,v)::r,m,h=>by
  unfold bindC;rw [a2Z λ w hw=>h w (cQ _ hw)]
  split
  ·rfl
  ·have:x≠n:=by rintro rfl; exact h v dU
   simp [this]
theorem a3r {kindOf:Str->Option jE} {x:Str} {v:aC}:∀ {P:List Str} {vs:List aC} {i:Nat} {m:Str->Option aC},P.Nodup->P[i]?=some x->vs[i]?=some v->kindOf x=some .local →
  bindL kindOf (P.zip vs) m x=some v
 | [],_,_,_,_,h,_,_=>by simp at h
 | _::_,[],_,_,_,_,h,_=>by simp at h
 | p::P,w::vs,0,m,nd,h1,h2,hk=>by
  simp at h1 h2; subst h1; subst h2
  show bindL kindOf ((p,w)::P.zip vs) m p=_
  unfold bindL;rw [a3g λ v hv=>(mY.mp nd).1 (mZ hv).1,if_pos hk];simp
 | p::P,w::vs,i+1,m,nd,h1,h2,hk=>by
  show bindL kindOf ((p,w)::P.zip vs) m x=_
  unfold bindL;exact a3r (i:=i) (mY.mp nd).2 (by simpa using h1) (by simpa using h2) hk
theorem a3s {kindOf:Str->Option jE} {x:Str} {v:aC}:∀ {P:List Str} {vs:List aC} {i:Nat} {m:Str->Option aC},P.Nodup->P[i]?=some x->vs[i]?=some v->kindOf x≠some .local →
  bindC kindOf (P.zip vs) m x=some v
 | [],_,_,_,_,h,_,_=>by simp at h
 | _::_,[],_,_,_,_,h,_=>by simp at h
 | p::P,w::vs,0,m,nd,h1,h2,hk=>by
  simp at h1 h2; subst h1; subst h2
  show bindC kindOf ((p,w)::P.zip vs) m p=_
  unfold bindC;rw [a2Z λ v hv=>(mY.mp nd).1 (mZ hv).1,if_neg hk];simp
 | p::P,w::vs,i+1,m,nd,h1,h2,hk=>by
  show bindC kindOf ((p,w)::P.zip vs) m x=_
  unfold bindC;exact a3s (i:=i) (mY.mp nd).2 (by simpa using h1) (by simpa using h2) hk
def P9 (N:List Str) (vs:List V):St:=vs.map some++bA (N.length - vs.length) none
def M0 (CX:CXT) (P:aL) (w:aI) (K:aE) (mg:Str->Option aC) (base:aG) (N:List Str) (qual:Str) (scope:bS) (f:aA) (cd:aC) (A:aY) (outer:List Env) (s:aD) (H:Hp) (E:XK):Cx where
 prog:=P
 w:=w
 K:=K
 mg:=mg
 base:=base
 A:=A.deeper (dE qual scope s.heap.objs.size f cd)
 N:=N
 s₀:=s
 H₀:=H
 env:=dE qual scope s.heap.objs.size f cd
 outer:=outer
 stack:=dE qual scope s.heap.objs.size f cd::outer
 ex:=[]
 calm:=true
 fn:=λ _=>true
 pn:=[]
 xe:=λ e s'=>wpAny (model P w) (A.deeper (dE qual scope s.heap.objs.size f cd)) (leaving (dE qual scope s.heap.objs.size f cd) e) (λ _ s''=>CX outer H s E e s'') (λ e' s''=>CX outer H s E e' s'') s'
theorem a4H {sc:bS} {n:Nat} {x:Str} (h:sc.names.lookup x=some .cell):∃ c,(cellsFrom n sc.names []).lookup x=some c:=by
 have q:=pF sc.names n [] (.inl h);exact Option.isSome_iff_exists.mp q
theorem a3p {CX:CXT} {P:aL} {w:aI} {K:aE} {mg:Str->Option aC} {base:aG} {N ps:List Str} {qual:Str} {scope:bS} {f:aA} {cd:aC} {A:aY} {outer:List Env} {s s1:aD} {H:Hp} {E:XK} {us:List aC} {vs:List V}
  (S:m6 N ps scope) (hd:A.handled=none) (e0:Env0 P w K mg base A outer s H) (hl:vs.length=ps.length) (r:Vals vs us)
  (x:InCallC s s.heap.objs.size (bindL (dE qual scope s.heap.objs.size f cd).kindOf (ps.zip us) λ _=>none) (cellsFrom (s.heap.objs.size+1) scope.names []) (bindC (dE qual scope s.heap.objs.size f cd).kindOf (ps.zip us) λ _=>none) s1) :
  Inv (M0 CX P w K mg base N qual scope f cd A outer s H E) [] (P9 N vs) H s1:=by
 have hpl:ps.length<=N.length:=by have:=congrArg jW S.pre; rw [cU] at this; omega
 obtain ⟨h1,tk,rfl,hk⟩:=x.done;have noA:∀ b:aA,b ∉ (M0 CX P w K mg base N qual scope f cd A outer s H E).ex:=λ b z=>absurd (show b∈([]:List aA) from z) (by simp);refine ⟨⟨e0.mod,S.kind,rfl,rfl,aU _,λ y z c h1 h2=>?_,λ y hy=>?_,λ y c _ h=>?_,λ _=>hd,pG e0.frames,.inr ⟨rfl,rfl⟩,λ b z=>absurd z (noA b),e0.bs,e0.bsz,λ b _ _=>noA b,λ b z=>absurd z (noA b),e0.funs,e0.frf⟩,
  rfl,e0.bare,Un.kept hk,⟨_,x.toInCall.ns,λ i y v h1 h2 h3=>?_⟩,λ y c h=>⟨_,x.cell y c h⟩,e0.hok.fresh (aU _),λ y c h=>?_,λ p hp=>absurd (show p∈([]:List (aA×Obj)) from hp) (by simp),e0.hok.kept hk,?_⟩
 ·exact sJ x.apart (lJ h1) (lJ h2)
 ·have hy:scope.names.lookup y=some .cell\/scope.names.lookup y=some .free:=hy
  rcases hy with hy | hy
  ·exact a4H hy
  ·exact absurd rfl (S.nofree _ (lJ hy))
 ·exact fJ (x.above y c (lJ h))
 ·have hi:i<vs.length:=by
   unfold P9 at h2
   by_cases hi:i<vs.length
   ·exact hi
   ·rw [dP (by simpa using hi)] at h2
    rw [fU] at h2
    split at h2 <;> cases h2
  have ha:vs[i]?=some v:=by
   unfold P9 at h2;rw [dB (by simpa using hi),aQ] at h2
   cases e:vs[i]? with
   | none=>rw [e] at h2; cases h2
   | some a=>rw [e] at h2; cases h2; rfl
  obtain ⟨u,hu,rv⟩:=r.get ha;have hp:ps[i]?=some y:=by
   rw [<- S.pre,sK (by omega)]; exact h1
  have ndP:ps.Nodup:=by rw [<- S.pre]; exact S.nd.sublist (List.take_sublist _ _)
  refine ⟨u,rv,?_⟩;rcases S.par y (bN hp) with k | k
  ·exact .inl ⟨k,a3r ndP hp hu k⟩
  ·obtain ⟨c,e⟩:=a4H (n:=s.heap.objs.size+1) k
   refine .inr ⟨.inl k,c,e,?_⟩;have q:=x.cell y c e;rw [a3s ndP hp hu (by show scope.names.lookup y≠_; rw [k]; decide)] at q;exact q
 ·exact e0.hok.fresh (fJ (x.above y c (lJ h)))
 ·unfold P9
  show _=N.length
  rw [bF,aH,bQ];omega
theorem b0x {CX:CXT} {P:aL} {w:aI} {K:aE} {mg:Str->Option aC} {base:aG} {k:Nat} {f:aA} {name qual:Str} {params:jX} {body:List aO} {scope:bS} {dV kV doc pm cdv ct oc:aC} {an od:Option aA}
  {osl:Array (Option aC)} {N ps:List Str} {sp:Sp} (lk:K.lookup f=some ⟨oc,od,.func (gW name qual params body scope dV kV doc pm an cdv ct),osl⟩) (hcd:lK K cdv qual=true) (S:m6 N ps scope)
  (len:∀ vs H Q E,sp vs H Q E->vs.length=ps.length)
  (hbody:∀ (A:aY) (outer:List Env) (s:aD) (H:Hp) (vs:List V) (Q:VK) (E:XK),Room k (A.deeper (dE qual scope s.heap.objs.size f cdv))->sp vs H Q E →
   ∃ t,PSs (M0 CX P w K mg base N qual scope f cdv A outer s H E) body t/\t { nx:=λ _ H'=>Q .non H',rt:=Q } (P9 N vs) H) :
  FnOk P w K mg base CX (k+1) f (gW name qual params body scope dV kV doc pm an cdv ct) ps sp:=by
 refine ⟨len,λ A outer s H args us vs Q E hr e0 hb r hsp=>?_⟩;have hl:=len _ _ _ _ hsp;have KX:K.In s.heap:=e0.mod.kin.keeps λ b o e=>(e0.bs b o e).1;have lim:s.heap.NoLimit:=e0.mod.nolimit.keeps λ b o e=>(e0.bs b o e).1;have hkind:∀ y∈ps.zip us,scope.names.lookup y.1=some .local\/(scope.names.lookup y.1=some .cell/\((cellsFrom (s.heap.objs.size+1) scope.names []).lookup y.1).isSome=true):=λ ⟨n,v⟩ hy=>by
  rcases S.par n (mZ hy).1 with q | q
  ·exact .inl q
  ·exact .inr ⟨q,pF _ _ _ (.inl q)⟩
 refine sL hr.depth (KX _ _ lk) rfl S.co S.gen rfl (sM KX hcd) (hb _ _ _ _ ?_);refine sN S.kind hkind λ env he s1 x=>?_;subst he;refine ⟨lim.keeps x.toInCall.keep,sO ?_⟩;obtain ⟨t,ht,hq⟩:=hbody A outer s H vs Q E (hr.deeper _) hsp;have I:Inv (M0 CX P w K mg base N qual scope f cdv A outer s H E) [] (P9 N vs) H s1:=a3p S hr.hd e0 hl r x;refine cZ (ht [] s1 (P9 N vs) H _ I hq) (λ fl s' hs=>?_) λ e s' hs=>hs;have fin:∀ {σ':St} {H':Hp} {v:V} {u:aC},Inv (M0 CX P w K mg base N qual scope f cdv A outer s H E) [] σ' H' s'->RelV v u->Q v H'->CE outer P w H s Q u s' :=
  λ {σ' H' v u} J rv q=>⟨v,H',J.os,J.bare,J.base,J.hok,rv,q⟩
 cases fl with
 | ret u =>
  obtain ⟨v,σ',H',J,rv,q⟩:=hs;exact fin J rv q
 | next =>
  obtain ⟨σ',H',J,q⟩:=hs;exact fin (v:=V.non) (u:=gT) J rfl q
 | brk =>
  obtain ⟨_,_,_,q⟩:=hs;exact dD q
 | cont =>
  obtain ⟨_,_,_,q⟩:=hs;exact dD q
section
variable {X:Cx} {x:Str} {p pos:Pos} {e:aN} {es:List aN} {t:TA} {id T:String} {r:List V->Hp->VK->Prop}
def tCB (r:List V->Hp->VK->Prop) (t:TA):TE:=λ σ H Q=>t σ H λ vs H1=>r vs H1 Q
theorem j8 (hc:J5 X (.builtin id) r) (hg:Gl X x) (hm:X.mg x=none) (hv:bootBuiltins x=some (.builtin id)) (ha:PA X (e::es) t) (hn:x≠"__name__":=by decide) (hdb:(x==("__debug__":Str))=false:=by decide)
  (he:starEach (e::es) X.env=(false,eval e X.env)::starEach es X.env:=by rfl) (hpl:(backTo pos (starEach es X.env)).any (·.1)=false:=by rfl):PE X (.Call (.Name x p) (e::es) [] pos) (tCB r t):=by
 intro pins s σ H Q I h;refine jD (T9 I hg hm hv ?_ hn hdb);exact xO (A7 (ha pos pins s σ H _ I h) λ us s1 ⟨vs,H1,I1,r1,q1⟩=>hc pins s1 σ H1 vs us Q I1 r1 q1) he hpl
theorem v8 (hc:J5 X (.type T) r) (hg:Gl X x) (hm:X.mg x=none) (hv:bootBuiltins x=some (.type T)) (ha:PA X (e::es) t) (hn:x≠"__name__":=by decide) (hdb:(x==("__debug__":Str))=false:=by decide)
  (he:starEach (e::es) X.env=(false,eval e X.env)::starEach es X.env:=by rfl) (hpl:(backTo pos (starEach es X.env)).any (·.1)=false:=by rfl):PE X (.Call (.Name x p) (e::es) [] pos) (tCB r t):=by
 intro pins s σ H Q I h;refine jD (T9 I hg hm hv ?_ hn hdb);exact iZ (A7 (ha pos pins s σ H _ I h) λ us s1 ⟨vs,H1,I1,r1,q1⟩=>hc pins s1 σ H1 vs us Q I1 r1 q1) he hpl
end
end L2
namespace HT
open PySem PyProof.Rows
section
open PySem.SeqAt
open PySem.AutoSeq1 (wpAny_loadPart')
open PySem.MeetsSeq PySem.MeetsSeq2 PySem.MeetsSeq3
end
section
variable {prog:aL} {w:aI} {A:aY} {E:aC->aD->Prop} {s:aD}
theorem cat_tup {t b:aA} {vs ws:List aC} {Q:aC->aD->Prop} (ht:fT s.heap t vs.toArray) (hb:fT s.heap b ws.toArray) (hv:vs≠[])
  (h1:ws=[]->Q (.ref t) s) (h2:ws≠[]->Q (.ref s.heap.objs.size) { s with heap:=s.heap.push { cls:=.type "tuple",data:=.seq (vs++ws).toArray } })
  (hsz:vs.length+ws.length<=sizeLine):wpAny (model prog w) A (binaryOp .Add (.ref t) (.ref b)) Q E s:=by
 obtain ⟨⟨cls,dd,data,sl⟩,ho,hc,n,hd⟩:=id ht;obtain ⟨⟨cls2,dd2,data2,sl2⟩,ho2,hc2,n2,hd2⟩:=id hb;simp only at hc hd hc2 hd2;subst hc hd hc2 hd2;have e:vs.toArray++ws.toArray=(vs++ws).toArray:=by simp
 by_cases hw:ws=[]
 ·exact sP ⟨_,ho,rfl⟩ ⟨_,ho2,rfl⟩ sQ sR sS sU (sV _ _)
   (tuple_addW1 t b vs.toArray ws.toArray n n2 dd dd2 sl sl2 (by simpa using hv) (by simp [hw])) ⟨ho,ho2,h1 hw⟩
 ·refine sP ⟨_,ho,rfl⟩ ⟨_,ho2,rfl⟩ sQ sR sS sU (sV _ _)
   (tuple_addW2 t b vs.toArray ws.toArray n n2 dd dd2 sl sl2 (by simpa using hv) (by simpa using hw) (by rw [cG,cG]; exact hsz)) ⟨ho,ho2,?_⟩
  rw [e];exact h2 hw
def sIx (n d:Nat):Option Int->Nat
 | none=>d
 | some v=>if v<0 then (v+(n:Int)).toNat else min v.toNat n
theorem sIx_none (n d:Nat):sIx n d none=d:=rfl
theorem sIx_nat (n d k:Nat):sIx n d (some (k:Int))=min k n:=by
 show (if (k:Int)<0 then ((k:Int)+(n:Int)).toNat else min (k:Int).toNat n)=min k n
 rw [if_neg (by omega),bW]
end
end HT
namespace L2
open PySem PySem.Spec PyProof.Rows
abbrev TO:=St->Hp->(Option Int->Hp->Prop)->Prop
def PO (X:Cx) (e:Option aN) (t:TO):Prop :=
 ∀ (pins:List (aA×Obj)) (s:aD) (σ:St) (H:Hp) (Q:Option Int->Hp->Prop),Inv X pins σ H s->t σ H Q →
  wpAny (model X.prog X.w) X.A (evalPart e X.env) (λ u s'=>∃ o H',Inv X pins σ H' s'/\IsPart u o/\Q o H') X.xe s
def b1c:TO:=λ _ H Q=>Q none H
def b4W (t:TE):TO:=λ σ H Q=>t σ H λ x H1=>∃ i,x=.int i/\Q (some i) H1
section
variable {X:Cx} {e:aN} {te:TE} {lo hi:Option aN} {tl th:TO} {pos p2:Pos}
theorem N8:PO X none b1c:=by
 intro pins s σ H Q I h;rw [sW];exact aT ⟨none,H,I,.none,h⟩
theorem K1 (h:PE X e te):PO X (some e) (b4W te):=by
 intro pins s σ H Q I hw;rw [evalPart_some];refine A7 (h pins s σ H _ I hw) λ u s1 ⟨x,H1,I1,r1,q1⟩=>?_;obtain ⟨i,rfl,q⟩:=q1;obtain ⟨t,rfl⟩:=r1;exact ⟨some i,H1,I1,.int i t,q⟩
def SlR (X:Cx) (r:V->Option Int->Option Int->Hp->VK->Prop):Prop :=
 ∀ (pins:List (aA×Obj)) (s:aD) (σ:St) (H:Hp) (x:V) (v vl vu:aC) (lo hi:Option Int) (sl:aA) (Q:VK),Inv X pins σ H s->RelV x v->s.heap.IsSliceOf sl vl vu .none->IsPart vl lo->IsPart vu hi->r x lo hi H Q →
  ∃ T id,typeLookup (.type T) "__getitem__"=pure (some (.builtin id))/\s.TypeIs v T/\wpAny (model X.prog X.w) X.A (getItem v (.ref sl)) (EP X pins σ Q) X.xe s
def tSl (r:V->Option Int->Option Int->Hp->VK->Prop) (te:TE) (tl th:TO):TE:=λ σ H Q=>te σ H λ x H1=>tl σ H1 λ l H2=>th σ H2 λ u H3=>r x l u H3 Q
theorem G1 {r:V->Option Int->Option Int->Hp->VK->Prop} (hr:SlR X r) (he:PE X e te) (hl:PO X lo tl) (hu:PO X hi th):PE X (.Subscript e (.Slice lo hi none p2) pos) (tSl r te tl th):=by
 intro pins s σ H Q I h;refine Subscript_ (A7 (he pins s σ H _ I h) λ v s1 ⟨x,H1,I1,r1,q1⟩=>?_);refine wpAny_Slice (A7 (hl pins s1 σ H1 _ I1 q1) λ vl s2 ⟨l,H2,I2,pl,q2⟩=>A7 (hu pins s2 σ H2 _ I2 q2) λ vu s3 ⟨u,H3,I3,pu,q3⟩=>?_);rw [sW];refine aT ?_;have I4:Inv X pins σ H3 { s3 with heap:=s3.heap.push { cls:=.type "slice",data:=.fields #[vl,vu,.none] } }:=I3.kept (t':=s3.toks) λ b ob q=>bE _ q;obtain ⟨T,id,hT,ht,hg⟩:=hr pins { s3 with heap:=s3.heap.push { cls:=.type "slice",data:=.fields #[vl,vu,.none] } } σ H3 x v vl vu l u s3.heap.objs.size Q I4 r1 (xP ..) pl pu q3
 show wpAny (model X.prog X.w) X.A (subscriptTail e (.Slice lo hi none p2) v (.ref s3.heap.objs.size)) (EP X pins σ Q) X.xe { s3 with heap:=s3.heap.push { cls:=.type "slice",data:=.fields #[vl,vu,.none] } }
 exact tail_any (ops:=[.ref s3.heap.objs.size,v]) ht hT hg (by with_unfolding_all rfl)
def M5 (xs:List V) (lo hi:Option Int):List V:=(xs.drop (HT.sIx xs.length 0 lo)).take (HT.sIx xs.length xs.length hi - HT.sIx xs.length 0 lo)
theorem a4u (xs:List V) (lo hi:Option Int):(M5 xs lo hi).length<=xs.length:=by
 unfold M5;rw [cU,eZ];omega
def b4r (K:aE):R2:=λ x y H Q=>∃ a b xs ys,x=.ref a/\y=.ref b/\SqT K H a xs/\SqT K H b ys/\xs≠[]/\xs.length+ys.length<=sizeLine ∧
 (ys=[]->Q (.ref a) H)/\(ys≠[]->∀ p,H p=none->Q (.ref p) (upd H p (.tup (xs++ys))))
theorem Vals.nil_iff {xs:List V} {us:List aC} (r:Vals xs us):us=[] ↔ xs=[]:=by
 cases r with
 | nil=>simp
 | cons _ _=>simp
theorem a6m:Z9 X (binaryOp .Add) (b4r X.K):=by
 intro pins s σ H x y v u Q I rx ry h;obtain ⟨a,b,xs,ys,rfl,rfl,ha,hb,hx,hz,q1,q2⟩:=h
 cases rx
 cases ry;obtain ⟨its,r1,p1,_⟩:=I.tuple ha;obtain ⟨its2,r2,p2,_⟩:=I.tuple hb;refine HT.cat_tup p1 p2 (λ z=>hx (r1.nil_iff.mp z)) (λ z=>⟨.ref a,H,I,rfl,q1 (r2.nil_iff.mp z)⟩) (λ z=>?_) (by rw [<- r1.length,<- r2.length]; exact hz);refine ⟨.ref s.heap.objs.size,_,I.laid (t':=s.toks) (o:=.tup (xs++ys)) (λ b ob q=>bE _ q) (aU _) ?_,rfl,q2 (λ w=>z (r2.nil_iff.mpr w)) _ (I.hok.fresh (aU _))⟩;exact ⟨by rw [bF]; exact hz,_,r1.append r2,oZ _ _⟩
end
def ixN (n:Nat) (i:Int):Option Nat:=if 0<=i then (if i<n then some i.toNat else none) else if -(n:Int)<=i then some (i+n).toNat else none
def atI {α:Type} (xs:List α) (i:Int):Option α:=(ixN xs.length i).bind λ j=>xs[j]?
theorem a6j {n:Nat} {i:Int} {j:Nat} (h:ixN n i=some j):seqIndex? i n=some j/\j<n/\-(n:Int)<=i/\i<n:=by
 unfold ixN at h
 by_cases h0:0<=i
 ·rw [if_pos h0] at h
  by_cases h1:i<n
  ·rw [if_pos h1] at h
   have e:i.toNat=j:=bG h;exact ⟨by rw [pH h0 h1,e],by omega,by omega,h1⟩
  ·rw [if_neg h1] at h; cases h
 ·rw [if_neg h0] at h
  by_cases h1:-(n:Int)<=i
  ·rw [if_pos h1] at h
   have e:(i+n).toNat=j:=bG h;exact ⟨by rw [pI (by omega) h1,e],by omega,h1,by omega⟩
  ·rw [if_neg h1] at h; cases h
theorem a6p {α:Type} {xs:List α} {i:Int} {v:α} (h:atI xs i=some v):∃ j,seqIndex? i xs.length=some j/\xs[j]?=some v/\j<xs.length/\-(xs.length:Int)<=i/\i<xs.length:=by
 unfold atI at h
 cases e:ixN xs.length i with
 | none=>rw [e] at h; cases h
 | some j =>
  rw [e] at h;obtain ⟨h1,h2,h3,h4⟩:=a6j e;exact ⟨j,h1,h,h2,h3,h4⟩
theorem B6 {α:Type} {xs:List α} {j:Nat} {v:α} (h:xs[j]?=some v):atI xs (j:Int)=some v:=by
 have hj:j<xs.length:=(bP.mp h).1;have e:ixN xs.length (j:Int)=some j:=by
  unfold ixN;rw [if_pos (by omega),if_pos (by omega)]; simp
 unfold atI; rw [e]; exact h
theorem b0c {α:Type} (xs:List α) (v:α):atI (xs++[v]) (-1)=some v:=by
 have hl:(xs++[v]).length=xs.length+1:=by simp
 have e:ixN (xs++[v]).length (-1)=some xs.length:=by
  unfold ixN;rw [hl,if_neg (by decide),if_pos (by omega)]
  congr 1
  omega
 unfold atI;rw [e]
 show (xs++[v])[xs.length]?=some v
 simp
def b0D (b:aN):Prop:=∀ o i,subscripted b false o i=operate [o,i] (getItem o i)
def IxR (X:Cx) (r:R2):Prop :=
 ∀ (value slice:aN) (pins:List (aA×Obj)) (s:aD) (σ:St) (H:Hp) (x y:V) (v u:aC) (Q:VK),Inv X pins σ H s->RelV x v->RelV y u->r x y H Q →
  subscripted slice false v u=operate [v,u] (getItem v u)->wpAny (model X.prog X.w) X.A (subscriptTail value slice v u) (EP X pins σ Q) X.xe s
def MtR (X:Cx) (id:String) (r:V->List V->Hp->VK->Prop):Prop :=
 ∀ (pins:List (aA×Obj)) (s:aD) (σ:St) (H:Hp) (x:V) (xs:List V) (v:aC) (us:List aC) (Q:VK),Inv X pins σ H s->RelV x v->Vals xs us->r x xs H Q →
  wpAny (model X.prog X.w) X.A (call (.builtin id) (v::us)) (EP X pins σ Q) X.xe s
section
variable {X:Cx} {a b:aN} {ta tb:TE} {pos:Pos}
theorem p7 {r:R2} (hr:IxR X r) (ha:PE X a ta) (hb:PE X b tb) (hs:b0D b):PE X (.Subscript a b pos) (tOp r ta tb):=by
 intro pins s σ H Q I h;exact Subscript_ (b2S ha hb I h λ v u s2 x y H2 I2 rx ry q=>hr a b pins s2 σ H2 x y v u Q I2 rx ry q (hs _ _))
def b5a (K:aE):R2:=λ x y H Q=>∃ p xs i v,x=.ref p/\y=.int i/\SqL K H p xs/\atI xs i=some v/\Q v H
def b4Y (K:aE):R2:=λ x y H Q=>∃ p xs i v,x=.ref p/\y=.int i/\SqT K H p xs/\atI xs i=some v/\Q v H
theorem j9:IxR X (b5a X.K):=by
 intro value slice pins s σ H x y v u Q I rx ry h hs;obtain ⟨p,xs,i,z,rfl,rfl,hq,he,q⟩:=h
 cases rx;obtain ⟨t,rfl⟩:=ry;obtain ⟨its,r,pl,hz⟩:=I.list hq;obtain ⟨j,h1,h2,h3,h4,h5⟩:=a6p he;obtain ⟨w,ew,rw'⟩:=r.get h2;have hl:=r.length;have hn:=a3Z;have fin:EP X pins σ Q w s:=⟨z,H,I,rw',q⟩
 by_cases h0:0<=i
 ·have hj:i.toNat=j:=by
   rw [pH h0 h5] at h1;exact bG h1
  exact item_listR pl.isList h0 (by omega) (by rw [hj]; simpa using ew) fin hs
 ·have hj:(i+(its.toArray.size:Int)).toNat=j:=by
   rw [pI (by omega) h4] at h1;rw [cG,<- hl];exact bG h1
  exact sX (x:=w) pl.isList.typeIs slot_list_getitem.lookup
   (wpAny_getItem_list_neg (Q:=λ r s'=>r=w/\EP X pins σ Q r s') pl.isList (by omega) (by rw [cG] <;> omega) (by omega) (by rw [hj]; simpa using ew) ⟨rfl,fin⟩) hs
theorem A9:IxR X (b4Y X.K):=by
 intro value slice pins s σ H x y v u Q I rx ry h hs;obtain ⟨p,xs,i,z,rfl,rfl,hq,he,q⟩:=h
 cases rx;obtain ⟨t,rfl⟩:=ry;obtain ⟨its,r,pl,hz⟩:=I.tuple hq;obtain ⟨j,h1,h2,h3,h4,h5⟩:=a6p he;obtain ⟨w,ew,rw'⟩:=r.get h2;have hl:=r.length;have hn:=a3Z;have fin:EP X pins σ Q w s:=⟨z,H,I,rw',q⟩;exact sX (x:=w) pl.typeIs slot_tuple_getitem.lookup
  (getItem_tuple (j:=j) (Q:=λ r s'=>r=w/\EP X pins σ Q r s') pl (by omega) (by omega) (by rw [cG,<- hl]; exact h1) (by simpa using ew) ⟨rfl,fin⟩) hs
theorem a5I (its:List aC) (n j:Nat) (u:aC):gD (·.setIfInBounds j u) { cls:=.type "list",data:=.seq its.toArray n }={ cls:=.type "list",data:=.seq (its.set j u).toArray n }:=by
 simp [gD]
theorem Inv.lst {pins:List (aA×Obj)} {σ:St} {H:Hp} {s:aD} {p:aA} {xs:List V} (I:Inv X pins σ H s) (h:H p=some (.lst xs)) :
  ∃ (its:List aC) (n:Nat),Vals xs its/\s.heap.get? p=some { cls:=.type "list",data:=.seq its.toArray n }/\xs.length<=sizeLine:=by
 obtain ⟨z,its,n,r,e⟩:=I.hok p _ h;exact ⟨its,n,r,e,z⟩
theorem Inv.lstUpd {pins:List (aA×Obj)} {σ:St} {H:Hp} {s:aD} {p:aA} {xs ys:List V} {its its':List aC} {n n':Nat} {f:Obj->Obj} (I:Inv X pins σ H s) (h:H p=some (.lst xs))
  (ho:s.heap.get? p=some { cls:=.type "list",data:=.seq its.toArray n }) (hf:f { cls:=.type "list",data:=.seq its.toArray n }={ cls:=.type "list",data:=.seq its'.toArray n' }) (r:Vals ys its') (hz:ys.length<=sizeLine) (t:Nat) :
  Inv X pins σ (upd H p (.lst ys)) { s with heap:=s.heap.update p f,toks:=t }:=by
 have e:(s.heap.update p f).get? p=some { cls:=.type "list",data:=.seq its'.toArray n' }:=by
  rw [pJ f ho (by rw [hf] <;> rfl),hf]
 refine I.write (x:=p) (e:=p) (by rw [h]; trivial) (.inl rfl) (λ b u hb q=>(jY _ _ (bI hb)).trans q) ⟨_,e⟩ ?_;exact ⟨hz,its',n',r,e⟩
def b4b:V->V->V->Hp->(Hp->Prop)->Prop:=λ o i v H Q=>∃ p xs k j,o=.ref p/\i=.int k/\H p=some (.lst xs)/\ixN xs.length k=some j/\Q (upd H p (.lst (xs.set j v)))
theorem J6:b4w X b4b:=by
 intro pins s σ H o i v ov iv u Q I ro ri rv h;obtain ⟨p,xs,k,j,rfl,rfl,hp,hj,q⟩:=h
 cases ro;obtain ⟨t,rfl⟩:=ri;obtain ⟨its,n,r,ho,hz⟩:=I.lst hp;obtain ⟨h1,h2,h3,h4⟩:=a6j hj;have hl:=r.length;have hn:=a3Z;have I':Inv X pins σ (upd H p (.lst (xs.set j v))) { s with heap:=s.heap.update p (gD (·.setIfInBounds j u)) } :=
  I.lstUpd hp ho (a5I its n j u) (r.set rv j) (by rw [dG]; exact hz) s.toks
 by_cases h0:0<=k
 ·have hk:k.toNat=j:=by
   rw [pH h0 h4] at h1;exact bG h1
  exact W.ki_setAt ho h0 (by omega) (by rw [cG,<- hl]; exact h4) (by rw [hk]; exact ⟨_,I',q⟩)
 ·have hk:(k+(its.toArray.size:Int)).toNat=j:=by
   rw [pI (by omega) h3] at h1;rw [cG,<- hl];exact bG h1
  exact W.ki_setBack ho (by omega) (by rw [cG,<- hl]; exact h3) (by omega) (by rw [hk]; exact ⟨_,I',q⟩)
theorem a3R (lo hi:Option Int) (n:Nat):(sliceBounds lo hi none n).1=((HT.sIx n 0 lo:Nat):Int)/\(sliceBounds lo hi none n).2.1=((HT.sIx n n hi:Nat):Int)/\(sliceBounds lo hi none n).2.2=1:=by
 refine ⟨?_,?_,rfl⟩
 ·cases lo with
  | none=>simp [sliceBounds,HT.sIx]
  | some i =>
   simp only [sliceBounds,HT.sIx,sY,show (1:Int)>0 by decide,if_true]
   by_cases h:i<0
   ·simp only [h,if_true] <;> omega
   ·simp only [h,if_false] <;> omega
 ·cases hi with
  | none=>simp [sliceBounds,HT.sIx]
  | some i =>
   simp only [sliceBounds,HT.sIx,sY,show (1:Int)>0 by decide,if_true]
   by_cases h:i<0
   ·simp only [h,if_true] <;> omega
   ·simp only [h,if_false] <;> omega
theorem a2S (its:List aC) (lo hi:Option Int):slicePick its.toArray lo hi none=((its.drop (HT.sIx its.length 0 lo)).take (HT.sIx its.length its.length hi - HT.sIx its.length 0 lo)).toArray:=by
 obtain ⟨h1,h2,h3⟩:=a3R lo hi its.toArray.size;unfold slicePick;rw [h1,h2,h3];simp only [sliceRange_one,pick_run,cG] <;> rfl
def b5J (K:aE):V->Option Int->Option Int->Hp->VK->Prop:=λ x lo hi H Q=>∃ a xs,x=.ref a/\SqL K H a xs/\∀ p,H p=none->Q (.ref p) (upd H p (.lst (M5 xs lo hi)))
theorem M3:SlR X (b5J X.K):=by
 intro pins s σ H x v vl vu lo hi sl Q I rx hs pl pu h;obtain ⟨a,xs,rfl,hx,q⟩:=h
 cases rx;obtain ⟨its,r,ht,hz⟩:=I.list hx;have hlen:=r.length;refine ⟨"list",_,slot_list_getitem.lookup,ht.isList.typeIs,?_⟩;refine wpAny_getItem_list_slice ht.isList hs pl pu .none (by simp) ?_ (by rw [cG] <;> omega);rw [a2S,<- hlen];refine ⟨.ref s.heap.objs.size,_,I.laid (t':=s.toks) (o:=.lst (M5 xs lo hi)) (λ b ob q=>bE _ q) (aU _) ?_,rfl,q _ (I.hok.fresh (aU _))⟩;exact ⟨Nat.le_trans (a4u xs lo hi) hz,_,0,(r.drop (HT.sIx xs.length 0 lo)).take (HT.sIx xs.length xs.length hi - HT.sIx xs.length 0 lo),cI _ rfl⟩
def a0S:V->Bool
 | .non=>true
 | .bl _=>true
 | .int _=>true
 | .str _=>true
 | _=>false
def eqV:V->V->Bool
 | .non,.non=>true
 | .bl a,.bl b=>a==b
 | .bl a,.int b=>(if a then 1 else 0)==b
 | .int a,.bl b=>a==(if b then 1 else 0)
 | .int a,.int b=>a==b
 | .str a,.str b=>a==b
 | _,_=>false
theorem b3R {A:aY} {s:aD} {y x:V} {u v:aC} (ry:RelV y u) (rx:RelV x v) (fy:a0S y=true) (fx:a0S x=true):sZ A s u v (eqV y x):=by
 cases y with
 | non =>
  cases ry
  cases x with
  | non=>cases rx; exact xQ _
  | bl b=>cases rx; exact xR b
  | int b=>obtain ⟨t,rfl⟩:=rx; exact xS b t
  | str b=>obtain ⟨t,rfl⟩:=rx; exact xT b t
  | _=>exact absurd (show false=true from fx) cS
 | bl a =>
  cases ry
  cases x with
  | non=>cases rx; exact xU a
  | bl b=>cases rx; exact xV a b
  | int b=>obtain ⟨t,rfl⟩:=rx; exact xW a b t
  | str b=>obtain ⟨t,rfl⟩:=rx; exact xX a b t
  | _=>exact absurd (show false=true from fx) cS
 | int a =>
  obtain ⟨t',rfl⟩:=ry
  cases x with
  | non=>cases rx; exact xY a t'
  | bl b=>cases rx; exact xZ a t' b
  | int b=>obtain ⟨t,rfl⟩:=rx; exact yA a t' b t
  | str b=>obtain ⟨t,rfl⟩:=rx; exact rC a t' b t
  | _=>exact absurd (show false=true from fx) cS
 | str a =>
  obtain ⟨t',rfl⟩:=ry
  cases x with
  | non=>cases rx; exact yB a t'
  | bl b=>cases rx; exact yC a t' b
  | int b=>obtain ⟨t,rfl⟩:=rx; exact rD a t' b t
  | str b=>obtain ⟨t,rfl⟩:=rx; exact yE a t' b t
  | _=>exact absurd (show false=true from fx) cS
 | _=>exact absurd (show false=true from fy) cS
def eqU (x:V) (u:aC):Bool:=match u with
 | .none=>eqV .non x
 | .bool b=>eqV (.bl b) x
 | .int i _=>eqV (.int i) x
 | .str z _=>eqV (.str z) x
 | _=>false
theorem a9z {x y:V} {u:aC} (r:RelV y u) (f:a0S y=true):eqU x u=eqV y x:=by
 cases y with
 | non=>cases r; rfl
 | bl b=>cases r; rfl
 | int i=>obtain ⟨t,rfl⟩:=r; rfl
 | str z=>obtain ⟨t,rfl⟩:=r; rfl
 | _=>exact absurd (show false=true from f) cS
theorem a3G {x:V}:∀ {xs:List V} {us:List aC},Vals xs us->xs.all a0S=true->us.any (eqU x)=xs.any λ y=>eqV y x
 | _,_,.nil,_=>rfl
 | y::xs,u::us,.cons r t,f=>by
  rw [pK,fV] at f;rw [pL,pL,a9z r f.1,a3G t f.2]
theorem a2e {A:aY} {s:aD} {x:V} {v:aC} (rx:RelV x v) (fx:a0S x=true):∀ {xs:List V} {us:List aC},Vals xs us->xs.all a0S=true->∀ u∈us,sZ A s u v (eqU x u)
 | _,_,.nil,_=>λ u hu=>by cases hu
 | y::xs,u::us,.cons r t,f=>λ u' hu=>by
  rw [pK,fV] at f;rcases bD.mp hu with rfl | hu
  ·rw [a9z r f.1]; exact b3R r rx f.1 fx
  ·exact a2e rx fx t f.2 u' hu
def inV (x:V) (xs:List V):Bool:=xs.any λ y=>eqV y x
def rIn (K:aE) (neg:Bool):R2:=λ x y H Q=>∃ p xs,y=.ref p/\(SqL K H p xs\/SqT K H p xs)/\a0S x=true/\xs.all a0S=true/\Q (.bl (if neg then !inV x xs else inV x xs)) H
theorem a3N:Z9 X (compareOp .NotIn) (rIn X.K true):=by
 intro pins s σ H x y v u Q I rx ry h;obtain ⟨p,xs,rfl,hq,fx,fs,q⟩:=h
 cases ry;rcases hq with hq | hq
 ·obtain ⟨its,r,pl,hz⟩:=I.list hq
  refine SeqAt.notIn_listAt (eqU x) pl.isList (λ w hw=>a2e rx fx r fs w (by simpa using hw)) ⟨.bl _,H,I,rfl,?_⟩;rw [show its.toArray.any (eqU x)=its.any (eqU x) by simp,a3G r fs];exact q
 ·obtain ⟨its,r,pl,hz⟩:=I.tuple hq
  refine SeqAt.notIn_tupleAt (eqU x) pl (λ w hw=>a2e rx fx r fs w (by simpa using hw)) ⟨.bl _,H,I,rfl,?_⟩;rw [show its.toArray.any (eqU x)=its.any (eqU x) by simp,a3G r fs];exact q
theorem m8:J5 X (.builtin "len") (λ xs H Q=>∃ p ys,xs=[.ref p]/\(SqL X.K H p ys\/SqT X.K H p ys)/\Q (.int ys.length) H):=by
 intro pins s σ H xs us Q I r h;obtain ⟨p,ys,rfl,hq,q⟩:=h;obtain ⟨u,rfl,rx⟩:=P7 r
 cases rx;have hn:=a3Z;rcases hq with hq | hq
 ·obtain ⟨its,r',pl,hz⟩:=I.list hq
  have hlen:=r'.length;exact Calls.call_len_list pl.isList (by simp only [cG] <;> omega) ⟨.int ys.length,H,I.tok _,⟨s.toks+1,by rw [cG,hlen]⟩,q⟩
 ·obtain ⟨its,r',pl,hz⟩:=I.tuple hq
  have hlen:=r'.length;exact len_tuple pl (by simp only [cG] <;> omega) ⟨.int ys.length,H,I.tok _,⟨s.toks+1,by rw [cG,hlen]⟩,q⟩
theorem A6:J5 X (.type "list") (λ xs H Q=>∃ p ys,xs=[.ref p]/\(SqL X.K H p ys\/SqT X.K H p ys)/\∀ l,H l=none->Q (.ref l) (upd H l (.lst ys))):=by
 intro pins s σ H xs us Q I r h;obtain ⟨p,ys,rfl,hq,q⟩:=h;obtain ⟨u,rfl,rx⟩:=P7 r
 cases rx;have fin:∀ (its:List aC),Vals ys its->ys.length<=sizeLine->∀ (h':aG) (c':Nat),(∀ b o',s.heap.get? b=some o'->h'.get? b=some o') →
   h'.get? s.heap.objs.size=some { cls:=.type "list",dict:=none,data:=.seq its.toArray c',slots:=#[] }->EP X pins σ Q (.ref s.heap.objs.size) { s with heap:=h' }:=λ its r' hz h' c' kp e =>
  ⟨.ref s.heap.objs.size,_,I.laid (t':=s.toks) kp (aU _) (show ObjOk X.prog X.w _ h' _ (.lst ys) from ⟨hz,its,c',r',e⟩),rfl,q _ (I.hok.fresh (aU _))⟩
 rcases hq with hq | hq
 ·obtain ⟨its,r',pl,hz⟩:=I.list hq
  have hlen:=r'.length;obtain ⟨o,ho,hc,n,hd⟩:=pl.isList;exact tD p (.inl rfl) ho hc hd (λ h' c' kp e=>fin its r' hz h' c' kp e) (by simp only [cG] <;> omega)
 ·obtain ⟨its,r',pl,hz⟩:=I.tuple hq
  have hlen:=r'.length;obtain ⟨o,ho,hc,n,hd⟩:=pl;exact tD p (.inr rfl) ho hc hd (λ h' c' kp e=>fin its r' hz h' c' kp e) (by simp only [cG] <;> omega)
theorem J1:J5 X (.type "tuple") (λ xs H Q=>∃ p ys,xs=[.ref p]/\((SqL X.K H p ys/\∀ l,H l=none->Q (.ref l) (upd H l (.tup ys)))\/(SqT X.K H p ys/\Q (.ref p) H))):=by
 intro pins s σ H xs us Q I r h;obtain ⟨p,ys,rfl,h⟩:=h;obtain ⟨u,rfl,rx⟩:=P7 r
 cases rx;rcases h with ⟨hq,q⟩ | ⟨hq,q⟩
 ·obtain ⟨its,r',pl,hz⟩:=I.list hq
  have hlen:=r'.length;refine call_tuple_list pl.isList (λ h' kp=>?_) (by simp only [cG] <;> omega);have I1:Inv X pins σ H { s with heap:=h' }:=I.kept (t':=s.toks) kp;have I2:Inv X pins σ (upd H h'.objs.size (.tup ys)) { s with heap:=h'.push { cls:=.type "tuple",data:=.seq its.toArray } } :=
   I1.laid (t':=s.toks) (λ b o e=>bE _ e) (aU _) (show ObjOk X.prog X.w _ _ _ (.tup ys) from ⟨hz,its,r',oZ _ _⟩)
  exact ⟨.ref h'.objs.size,_,I2,rfl,q _ (I1.hok.fresh (aU _))⟩
 ·obtain ⟨its,r',pl,hz⟩:=I.tuple hq
  exact call_tuple_same pl ⟨.ref p,H,I,rfl,q⟩
def tyV (K:aE) (T:String) (x:V) (H:Hp):Prop:=match x with
 | .str _=>T="str"
 | .int _=>T="int"
 | .ref p=>(T="list"/\∃ xs,SqL K H p xs)\/(T="tuple"/\∃ o,K.lookup p=some o/\o.cls=.type "tuple"/\o.dict=none) ∨
   (T="dict"/\((∃ kvs,H p=some (.dK kvs))\/∃ kvs,H p=some (.dT kvs)))\/(T="set"/\∃ S n,H p=some (.set S n))
 | _=>False
theorem b3B {pins:List (aA×Obj)} {σ:St} {H:Hp} {s:aD} {T:String} {x:V} {v:aC} (I:Inv X pins σ H s) (r:RelV x v) (ty:tyV X.K T x H) :
  s.TypeIs v T/\∀ a,v=.ref a->∃ ob,s.heap.get? a=some ob/\ob.dict=none:=by
 cases x with
 | str z =>
  obtain ⟨t,rfl⟩:=r
  cases (show T="str" from ty);exact ⟨typeIs_str s z t,λ _ e=>nomatch e⟩
 | int i =>
  obtain ⟨t,rfl⟩:=r
  cases (show T="int" from ty);exact ⟨typeIs_int s i t,λ _ e=>nomatch e⟩
 | ref p =>
  cases r;rcases ty with ⟨rfl,xs,hq⟩ | ⟨rfl,o,hk,hc,hd⟩ | ⟨rfl,hk⟩ | ⟨rfl,S,n,hk⟩
  ·obtain ⟨its,_,pl,_⟩:=I.list hq
   refine ⟨pl.isList.typeIs,λ a e=>?_⟩
   cases e;obtain ⟨o,n,e,c,hd,_⟩:=pl;exact ⟨o,e,hd⟩
  ·refine ⟨⟨o,I.kIn p o hk,hc⟩,λ a e=>?_⟩
   cases e;exact ⟨o,I.kIn _ o hk,hd⟩
  ·have z:∃ o,s.heap.get? p=some o/\o.ExactDict:=by
    rcases hk with ⟨kvs,hk⟩ | ⟨kvs,hk⟩
    ·obtain ⟨_,_,_,_,o,_,_,e,ex,_⟩:=I.hok p _ hk
     exact ⟨o,e,ex⟩
    ·obtain ⟨_,_,_,_,o,_,_,e,ex,_⟩:=I.hok p _ hk
     exact ⟨o,e,ex⟩
   obtain ⟨o,e,ex⟩:=z;refine ⟨⟨o,e,ex.1⟩,λ a e2=>?_⟩
   cases e2;exact ⟨o,e,ex.2.1⟩
  ·obtain ⟨o,_,_,_,e,ex,_⟩:=I.hok p _ hk
   refine ⟨⟨o,e,ex.1⟩,λ a e2=>?_⟩
   cases e2;exact ⟨o,e,ex.2.1⟩
 | _=>exact dD ty
def tBM (K:aE) (T:String) (r:V->List V->Hp->VK->Prop) (to:TE) (t:TA):TE:=λ σ H Q=>to σ H λ x H1=>tyV K T x H1/\t σ H1 λ xs H2=>r x xs H2 Q
variable {o e:aN} {es:List aN} {to:TE} {t:TA} {name:Str} {apos cpos:Pos} {T id:String} {r:V->List V->Hp->VK->Prop}
theorem a5d (pa:PlainAttrs T) (slot:Slot T name id) (hty:typeOf (.builtin id)=pure (.type "method_descriptor")) (hm:MtR X id r) (ho:PE X o to) (ha:PA X (e::es) t)
    (hbase:attributeBase o name X.env (eval o X.env)=eval o X.env:=by rfl)
    (hfew:((backTo cpos (starEach (e::es) X.env)).all (λ x=>!x.1)&&(backToKw cpos (keywordEach [] X.env)).all (λ x=>x.1.isSome)
     &&decide ((e::es).length+([]:List pE).length+(if ([]:List pE).isEmpty then 0 else 1)<30))=true:=by rfl)
    (hline:(apos.endLine==cpos.line)=true:=by rfl) (hs:starEach (e::es) X.env=(false,eval e X.env)::starEach es X.env:=by rfl) (hplain:(backTo cpos (starEach es X.env)).any (·.1)=false:=by rfl) :
    PE X (.Call (.Attribute o name apos) (e::es) [] cpos) (tBM X.K T r to t):=by
  intro pins s σ H Q I h;refine wpAny_Call_method_late hbase hfew hline rfl (A7 (ho pins s σ H _ I h) λ v s1 ⟨x,H1,I1,r1,ty,q1⟩=>?_);obtain ⟨h1,h2⟩:=b3B I1 r1 ty;refine ⟨T,id,pa,slot,hty,h1,h2,?_⟩;have hA:=ha cpos pins s1 σ H1 _ I1 q1;rw [hs] at hA ⊢;refine Calls.callWith_builtin (by show (false || (backTo cpos (starEach es X.env)).any (·.1))=false; rw [hplain] <;> rfl) (tE ?_);exact A7 hA λ us s2 ⟨vs,H2,I2,r2,q2⟩=>hm pins s2 σ H2 x vs v us Q I2 r1 r2 q2
/- xs.append(e),list.index on a module's tuple .. are MtR facts of 06m -/
end
def MtM (X:Cx) (id:String) (r:V->List V->Hp->VK->Prop):Prop :=
 ∀ (pins:List (aA×Obj)) (s:aD) (σ:St) (H:Hp) (x:V) (xs:List V) (v:aC) (us:List aC) (Q:VK),Inv X pins σ H s->RelV x v->Vals xs us->r x xs H Q →
  wpAny (model X.prog X.w) X.A (call (.builtin id) (v::us)) (EP X pins σ Q) X.xe s
theorem Vals.one:∀ {x:V} {us:List aC},Vals [x] us->∃ u,us=[u]/\RelV x u
 | _,_,.cons r .nil=>⟨_,rfl,r⟩
theorem Vals.rep {xs:List V} {us:List aC} (h:Vals xs us):∀ k:Nat,Vals (bA k xs).flatten (bA k us).flatten
 | 0=>.nil
 | k+1=>by
  rw [iK,iK,lM,lM];exact Vals.append h (Vals.rep h k)
theorem a3v (its:List aC):∀ (k:Nat) (acc:List aC),
  pM (λ x1 x2=>x1++x2) acc.toArray (bA k its.toArray)=(acc++(bA k its).flatten).toArray
 | 0,acc=>by simp
 | k+1,acc=>by
  have e:acc.toArray++its.toArray=(acc++its).toArray:=by simp
  have e2:(acc++its)++(bA k its).flatten=acc++(bA (k+1) its).flatten:=by
   rw [iK,lM,gX]
  rw [<- e2,<- a3v its k (acc++its),<- e,iK,List.foldl_cons]
section
variable {X:Cx} {pins:List (aA×Obj)} {σ:St} {H:Hp} {s:aD} {l b:aA} {xs ys zs:List V}
theorem Inv.lset {its its':List aC} {n:Nat} {f:Array aC->Array aC} {t':Nat} (I:Inv X pins σ H s) (hH:H l=some (.lst xs))
  (e:s.heap.get? l=some { cls:=.type "list",data:=.seq its.toArray n }) (hf:f its.toArray=its'.toArray) (hv:Vals ys its') (hz:ys.length<=sizeLine) :
  Inv X pins σ (upd H l (.lst ys)) { s with heap:=s.heap.update l (gD f),toks:=t' }:=by
 have q:=yF e f;rw [hf] at q;refine I.write (x:=l) (e:=l) (by rw [hH]; exact trivial) (.inl rfl) (λ b' u hb hu=>(jY s.heap (gD f) (bI hb)).trans hu) ⟨_,q⟩ ?_;exact ⟨hz,its',_,hv,q⟩
theorem Inv.lnew {its:List aC} {t':Nat} (I:Inv X pins σ H s) (hv:Vals ys its) (hz:ys.length<=sizeLine) :
  Inv X pins σ (upd H s.heap.objs.size (.lst ys)) { s with heap:=s.heap.push { cls:=.type "list",data:=.seq its.toArray },toks:=t' } :=
 I.laid (λ _ _ q=>bE _ q) (aU _) ⟨hz,its,0,hv,cI _ rfl⟩
theorem Inv.fresh (I:Inv X pins σ H s):H s.heap.objs.size=none:=I.hok.fresh (aU _)
theorem Inv.lstM (I:Inv X pins σ H s) (hH:H l=some (.lst xs)):xs.length<=sizeLine/\∃ (its:List aC) (n:Nat),Vals xs its/\xs.length=its.length/\s.heap.get? l=some { cls:=.type "list",data:=.seq its.toArray n }:=by
 obtain ⟨z,its,n,r,e⟩:=I.hok l _ hH;exact ⟨z,its,n,r,r.length,e⟩
theorem a9h {n:Nat} (h:n<=sizeLine):pN n=false:=by
 unfold pN;exact decide_eq_false (by omega)
end
section
variable {X:Cx}
def b0R:V->List V->Hp->VK->Prop:=λ x vs H Q=>∃ l xs y,x=.ref l/\vs=[y]/\H l=some (.lst xs)/\xs.length<sizeLine/\Q .non (upd H l (.lst (xs++[y])))
theorem N4:MtM X "list.append" b0R:=by
 intro pins s σ H x vs v us Q I rx rv h;obtain ⟨l,xs,y,rfl,rfl,hH,hz,q⟩:=h
 cases rx;obtain ⟨u,rfl,ru⟩:=rv.one;obtain ⟨z,its,n,r,hl,e⟩:=I.lstM hH;refine pO F.slot_list_append ⟨_,e,rfl⟩ F.entry_list_append (F.args_list_append_2 _ _) (PySem.list_append l its.toArray n u (by rw [cG]; omega)) ⟨e,?_⟩;refine ⟨.non,_,I.lset (its':=its++[u]) hH e (by simp) (r.append (.cons ru .nil)) ?_,rfl,q⟩;rw [bF,fN];omega
def b5S:R2:=λ x y H Q=>∃ l b xs zs,x=.ref l/\y=.ref b/\H l=some (.lst xs)/\H b=some (.lst zs)/\xs.length+zs.length<=sizeLine/\∀ p,H p=none->Q (.ref p) (upd H p (.lst (xs++zs)))
theorem B8:Z9 X (binaryOp .Add) b5S:=by
 intro pins s σ H x y v u Q I rx ry h;obtain ⟨l,b,xs,zs,rfl,rfl,hH,hB,hz,q⟩:=h
 cases rx
 cases ry;obtain ⟨z,its,n,r,hl,e⟩:=I.lstM hH;obtain ⟨z2,its2,n2,r2,hl2,e2⟩:=I.lstM hB;refine PySem.P.add_list e e2 ?_ (by rw [cG,cG]; omega);have ea:its.toArray++its2.toArray=(its++its2).toArray:=by simp
 rw [ea];exact ⟨.ref _,_,I.lnew (t':=s.toks) (r.append r2) (by rw [bF]; omega),rfl,q _ I.fresh⟩
def b5P:R2:=λ x y H Q=>∃ l k xs,x=.ref l/\y=.int k/\H l=some (.lst xs)/\-(2 ^ 63)<=k/\k<2 ^ 63/\xs.length*k.toNat<=sizeLine ∧
 ∀ p,H p=none->Q (.ref p) (upd H p (.lst (bA k.toNat xs).flatten))
theorem b1r {α:Type} (xs:List α) (k:Nat):(bA k xs).flatten.length=k*xs.length:=by
 induction k with
 | zero=>simp
 | succ k ih=>rw [iK,lM,bF,ih,pP,Nat.add_comm]
theorem U0:Z9 X (binaryOp .Mult) b5P:=by
 intro pins s σ H x y v u Q I rx ry h;obtain ⟨l,k,xs,rfl,rfl,hH,h1,h2,hz,q⟩:=h
 cases rx;obtain ⟨t,rfl⟩:=ry;obtain ⟨z,its,n,r,hl,e⟩:=I.lstM hH;have hlen:its.toArray.size*k.toNat<=sizeLine:=by rw [cG,<- hl]; exact hz
 have hcap:¬ its.toArray.size*k.toNat>(2 ^ 63 - 1) / 8:=by
  have:(sizeLine:Nat)<=(2 ^ 63 - 1) / 8:=by decide
  omega
 have hfit:¬ (!Builtin.List.listFitsIndex k)=true:=by
  rw [fitsIndex_both h1 h2];exact cS
 have hlong:¬ pN (its.toArray.size*k.toNat)=true:=by
  rw [a9h hlen];exact cS
 have hnew:pM (λ x1 x2=>x1++x2) #[] (bA (if its.toArray.isEmpty=true then 0 else k.toNat) its.toArray)=(bA k.toNat its).flatten.toArray:=by
  have f0:∀ m:Nat,pM (λ x1 x2=>x1++x2) #[] (bA m its.toArray)=(bA m its).flatten.toArray:=λ m=>by
   have:=a3v its m [];rw [jF] at this;exact this
  rw [f0]
  cases its with
  | nil=>simp
  | cons a r'=>rw [if_neg (by simp)]
 refine wpAny_binaryOp_repeat_ref (T:="list") (U:="int") (by decide) ⟨_,e,rfl⟩ (λ s'=>typeIs_int s' k t) noFill_list_mul F.fills_int_mul tF repeat_list F.slot_int_index.lookup
  (pO tF (typeIs_int s k t) F.entry_int_rmul (F.args_int_rmul_2 _ _) (int___rmul___int_list k t l its.toArray n)
   ⟨e,rfl,⟨_,e,rfl⟩,pO F.slot_list_mul ⟨_,e,rfl⟩ F.entry_list_mul (F.args_list_mul_2 _ _) (yG l its.toArray n k t hfit hcap hlong) ⟨e,?_⟩⟩)
 rw [hnew];exact ⟨.ref _,_,I.lnew (t':=s.toks) (r.rep k.toNat) (by rw [b1r,tG]; exact hz),rfl,q _ I.fresh⟩
end
section
variable {prog:aL} {w:aI} {A:aY} {E:aC->aD->Prop} {s:aD}
end
section
variable {X:Cx}
end
end L2
namespace Att
open PySem PySem.W PySem.Calls PyProof.Rows
theorem a1P {P:iL} {h:aG}:∀ (ns:List Int) (vs:List aC),WellAll P h vs (ns.map tH)->lN vs ns:=by
 intro ns
 induction ns with
 | nil =>
  intro vs w;rw [pQ] at w
  cases w;exact .nil
 | cons n ns ih =>
  intro vs w;rw [cJ] at w
  cases w with
  | cons a b =>
   cases a;exact .cons _ _ (ih _ b)
theorem a7E {l:pR} {n:Nat} (hn:l.most=some n) {P:iL} {h:aG} {args:List WData} {vals:List aC}
  (hpre:l.row.toRowW.claim.pre args=true) (hwl:WellAll P h vals args) :
  ∃ a vs ns,vals=[cY a]/\args=[WData.list (ns.map tH)]/\h.get? a=some { cls:=.type "list",data:=.seq vs.toArray }/\lN vs ns/\ns.length<=n:=by
 have hsh:WShape.hasAll [] args [.list .int]=true:=(pre_splitW hpre).1;have hc:l.pre.holds [] { args:=args }=true:=(pre_splitW hpre).2;obtain ⟨d,r,rfl,h1,h2⟩:=hasAllW_cons hsh;obtain rfl:=hasAllW_nil h2;obtain ⟨xs,rfl,h3⟩:=hasW_list h1;obtain ⟨ns,rfl⟩:=items_int h3;have hlen:ns.length<=n:=by
  unfold OpenLaw.pre at hc;have h4:(WTm.not (.lt (.lit (.int (n:Int))) (.len (.arg 0)))).holds [] { args:=[.list (ns.map .int)] }=true:=by
   have h4:=(holds_andW hc).1;rw [hn] at h4;exact h4
  have h5:=condW_of h4 (w_not (w_lt w_lit (w_len_list (w_arg rfl))));rw [aH] at h5;refine pS λ q=>?_;have q':(n:Int)<((ns.length:Nat):Int):=by omega
  first
   | (rw [decide_eq_true q'] at h5; exact absurd h5 (by decide))
   | (simp at h5; omega)
 cases hwl with
 | cons w1 w2 =>
  cases w2
  cases w1 with
  | list ho hall=>exact ⟨_,_,ns,rfl,rfl,ho,a1P ns _ hall,hlen⟩
theorem a8h (l:pR) (args:List WData):l.row.toRowW.claim.post args (.bool true) args=true :=
 postW_of (r:=l.row.toRowW) (X:=(true==true))
  (show tI [] (.bool true) .bool=true by first | rfl | decide | simp [tI,WShape.arms,WShape.armsAll])
  (show (WTm.eq .res (.lit (.bool true))).value [] { args:=args,res:=some (.bool true),after:=args }=some (.bool (true==true)) from w_eq_bool (w_res rfl) w_lit) rfl
theorem attach_call {l:pR} {n:Nat} {q:aL} {loose:List Str} {XP:(Str->Option aC)->aG->Prop} {YP:aI->aG->Prop} {d:DefRec}
  (hn:l.most=some n) (hdf:d.params.defaults=[])
  (call:∀ (w:aI) (s₀ s₁:aD) (mg mb:Str->Option aC) (fa:aA) (o:Obj) (pm cd doc:aC) (a:aA) (vs:List aC) (ns:List Int),
   Ground q loose [] XP w s₀ mg mb s₁.heap->YP w s₁.heap →
   s₁.heap.get? fa=some o->o.data=.func (docDef d.name d.params d.body d.scope pm cd doc)->s₁.heap.CodeRec cd d.name->mg d.name=some (.ref fa) →
   s₁.heap.get? a=some { cls:=.type "list",data:=.seq vs.toArray }->lN vs ns->ns.length<=n->s₁.gens=#[] →
   codeAny (model l.prog w) callerA (.call (.ref fa) ⟨[.ref a],[]⟩) (λ r s'=>r=.ok (.ret (.bool true))/\OldK s₁.heap s'.heap/\s'.os=s₁.os/\gA s'.gens) s₁) :
  WalkO q loose XP YP l.row.toRowW d [] (λ f vs=>pT f vs):=by
 intro w s₀ s₁ mg mb G Y fa o pm cd doc dV kV ho hd hcd hD hmg hg args vals as hpre hlay hrd hwl hlo;obtain rfl:dV=.none:=Dflts.none hD hdf;obtain rfl:kV=.none:=Dflts.noKw hD;obtain ⟨a,vs,ns,rfl,rfl,hobj,hints,hlen⟩:=a7E hn hpre hwl;refine enter_call (jV (call w s₀ s₁ mg mb fa o pm cd doc a vs ns G Y ho (fd_plain hd) hcd hmg hobj hints hlen hg) λ r s' hq=>?_);obtain ⟨rfl,h2,h3,h4⟩:=hq;exact ⟨.inl ⟨.bool true,.bool true,[],rfl,λ _=>rfl,.bool true,a8h l _,λ _=>⟨List.Pairwise.nil,λ _ hm=>(nomatch hm)⟩⟩,h2,h3,h4⟩
section
variable {prog:aL} {w:aI} {A:aY} {E:aC->aD->Prop} {s:aD} {K:eU}
end
end Att
namespace L2
open PySem PySem.Spec PyProof.Rows
theorem a3u:∀ {vs:List aC} {ns:List Int},lN vs ns->Vals (ns.map V.int) vs
 | _,_,.nil=>.nil
 | _,_,.cons n t h=>.cons ⟨t,rfl⟩ (a3u h)
def G4 (s:aO) (j:Nat):aO:=match s with
 | .ClassDef _ _ _ body _ _ _ _ _ _ _=>body.getD j (.Pass ⟨0,0,0,0⟩)
 | _=>.Pass ⟨0,0,0,0⟩
def G5 (s:aO):jX:=match s with
 | .FunctionDef _ a _ _ _ _ _ _ _ _=>a
 | _=>{ posonlyargs:=[],args:=[],vararg:=none,kwonlyargs:=[],kw_defaults:=[],kwarg:=none,defaults:=[] }
def w4 (s:aO):List aO:=match s with
 | .FunctionDef _ _ b _ _ _ _ _ _ _=>b
 | _=>[]
def j4 (s:aO):bS:=match s with
 | .FunctionDef _ _ _ _ _ _ sc _ _ _=>sc
 | _=>{ kind:=.function,names:=[],isGenerator:=false,isCoroutine:=false }
abbrev E1:CXT:=λ _ _ _ _ _ _=>False
abbrev E0:XK:=λ _ _ _=>False
theorem v5 {X:Cx}:P6 E1 X E0:=λ _ _ _ _ _ _ _ h=>h.elim
structure Fun (K:aE) (x qual:Str) (st:aO) (f:aA) (fd:aJ):Prop where
 ex:∃ (oc:aC) (od:Option aA) (kV doc pm:aC) (an:Option aA) (cdv ct:aC) (osl:Array (Option aC)),
  fd=gW x qual (G5 st) (w4 st) (j4 st) .none kV doc pm an cdv ct/\K.lookup f=some ⟨oc,od,.func fd,osl⟩/\lK K cdv qual=true
 kp:dL K (.ref f)=true
section
variable {P:aL} {w:aI} {K:aE} {mg:Str->Option aC} {base:aG}
theorem Fun.ok {x qual:Str} {st:aO} {f:aA} {fd:aJ} {N ps:List Str} {k:Nat} {sp:Sp} (F:Fun K x qual st f fd) (S:m6 N ps (j4 st)) (len:∀ vs H Q E,sp vs H Q E->vs.length=ps.length)
  (hbody:∀ (cdv:aC) (A:aY) (outer:List Env) (s:aD) (H:Hp) (vs:List V) (Q:VK) (E:XK),Room k (A.deeper (dE qual (j4 st) s.heap.objs.size f cdv))->sp vs H Q E →
   ∃ t,PSs (M0 E1 P w K mg base N qual (j4 st) f cdv A outer s H E).nox (w4 st) t/\t { nx:=λ _ H'=>Q .non H',rt:=Q } (P9 N vs) H):FnOk P w K mg base E1 (k+1) f fd ps sp:=by
 obtain ⟨oc,od,kV,doc,pm,an,cdv,ct,osl,rfl,lk,hcd⟩:=F.ex;refine b0x lk hcd S len λ A outer s H vs Q E hr hsp=>?_;obtain ⟨t,h,q⟩:=hbody cdv A outer s H vs Q E hr hsp;exact ⟨t,h.nox,q⟩
theorem Fun.binds {x qual:Str} {st:aO} {f:aA} {fd:aJ} {ps:List Str} (F:Fun K x qual st f fd)
  (h:∀ (kV doc pm:aC) (an:Option aA) (cdv ct:aC) (us:List aC),us.length=ps.length->bindArgs (gW x qual (G5 st) (w4 st) (j4 st) .none kV doc pm an cdv ct) ⟨us,[]⟩=pure (ps.zip us)):Binds K fd ps []:=by
 obtain ⟨oc,od,kV,doc,pm,an,cdv,ct,osl,rfl,lk,hcd⟩:=F.ex;exact .all (h kV doc pm an cdv ct)
theorem a9g {x qual:Str} {st:aO} {f:aA} {oc:aC} {od an:Option aA} {osl:Array (Option aC)} {kV doc pm cdv ct:aC} (l:K.lookup f=some ⟨oc,od,.func (gW x qual (G5 st) (w4 st) (j4 st) .none kV doc pm an cdv ct),osl⟩)
  (c:lK K cdv qual=true) (k:dL K (.ref f)=true):Fun K x qual st f (gW x qual (G5 st) (w4 st) (j4 st) .none kV doc pm an cdv ct):=⟨⟨oc,od,kV,doc,pm,an,cdv,ct,osl,rfl,l,c⟩,k⟩
end
theorem p6 {n:Nat} (h:n<=1000):n<sizeLine:=eJ h (by decide)
section
variable {X:Cx}
theorem pv (i:Nat) {x:Str} {pos:Pos} (hN:X.N[i]?=some x:=by rfl) (hv:Vis X.env.scope x:=by first | exact aM rfl | exact fO (aM rfl) | exact fO (fO rfl)) (hd:(x==("__debug__":Str))=false:=by decide)
  (hcd:(x==("__classdict__":Str))=false:=by decide):PE X (.Name x pos) (a5V i):=b3J hN hv hd hcd
end
theorem a1Q {A B:Prop} (h:B):if false=true then A else B:=by
 rw [if_neg cS];exact h
theorem a1N {A B:Prop} (h:A):if true=true then A else B:=by
 rw [if_pos rfl];exact h
theorem w6 {c A B:Prop} [Decidable c] (h1:c->A) (h2:¬ c->B):if c then A else B:=by
 by_cases h:c
 ·rw [if_pos h]
  exact h1 h
 ·rw [if_neg h]
  exact h2 h
theorem b4q {c A B:Prop} [Decidable c] (hc:c) (h:B):if (!decide c)=true then A else B:=by
 rw [decide_eq_true hc];exact a1Q h
def Same (H H':Hp):Prop:=∀ b o,H b=some o->H' b=some o
theorem Same.refl (H:Hp):Same H H:=λ _ _ h=>h
theorem Same.trans {H H1 H2:Hp} (a:Same H H1) (b:Same H1 H2):Same H H2:=λ c o h=>b c o (a c o h)
theorem Same.free {H H':Hp} (e:Same H H') {l:aA} (h:H' l=tJ):H l=tJ:=by
 cases q:H l with
 | none=>rfl
 | some o =>
  rw [e l o q] at h
  cases h
theorem Same.seq {K:aE} {H H':Hp} {a:aA} {xs:List V} (e:Same H H') (h:SqL K H a xs):SqL K H' a xs:=by
 rcases h with (h | ⟨o,h⟩) | h
 ·exact .inl (.inl (e _ _ h))
 ·exact .inl (.inr ⟨o,e _ _ h⟩)
 ·exact .inr h
def clo (env:Env):List (Str×NameKind)->List (Str×Addr)->List (Str×Addr)
 | [],cs=>cs
 | (n,k)::r,cs=>if k==.free then (match env.cells.lookup n with | some a=>clo env r ((n,a)::cs) | none=>clo env r cs) else clo env r cs
theorem D5 {scope:bS} {env:Env} (h:∀ n,(n,eK)∈scope.names->∃ c,env.cells.lookup n=some c):closureFor scope env=pure (clo env scope.names []):=by
 simp only [closureFor];generalize ([]:List (Str×Addr))=cs
 revert h
 generalize scope.names=l;intro h
 induction l generalizing cs with
 | nil=>rfl
 | cons x r ih =>
  obtain ⟨n,k⟩:=x;have hr:∀ n,(n,eK)∈r->∃ c,env.cells.lookup n=some c:=λ n hn=>h n (cQ _ hn)
  by_cases hk:k=.free
  ·subst hk
   obtain ⟨c,hc⟩:=h n dU;have q:=ih ((n,c)::cs) hr;simp only [iM,clo,hc,beq_self_eq_true,if_true,cellOf];exact q
  ·have hb:(k==eK)=false:=by simpa using hk
   have q:=ih cs hr;simp only [iM,clo,hb,nA,if_false];exact q
theorem a0I {env:Env} {x:Str} {c:aA}:∀ {l:List (Str×NameKind)} {cs:List (Str×Addr)},(∀ x c,cs.lookup x=some c->env.cells.lookup x=some c)->(clo env l cs).lookup x=some c->env.cells.lookup x=some c
 | [],_,h,e=>h x c e
 | (n,k)::r,cs,h,e=>by
  unfold clo at e
  by_cases hk:(k==eK)=true
  ·rw [if_pos hk] at e
   cases q:env.cells.lookup n with
   | none=>rw [q] at e; exact a0I h e
   | some a =>
    rw [q] at e;refine a0I (cs:=(n,a)::cs) (λ y d z=>?_) e;rw [fA] at z
    cases hy:y==n with
    | true =>
     rw [hy] at z;have:y=n:=by simpa using hy
     subst this;rw [q]; exact z
    | false=>rw [hy] at z; exact h y d z
  ·rw [if_neg hk] at e
   exact a0I h e
theorem a1W {env:Env} {x:Str} {c:aA}:∀ {l:List (Str×NameKind)} {cs:List (Str×Addr)},(x,c)∈clo env l cs->(env.cells.lookup x=some c/\(x,eK)∈l)\/(x,c)∈cs
 | [],_,e=>.inr e
 | (n,k)::r,cs,e=>by
  unfold clo at e
  by_cases hk:(k==eK)=true
  ·rw [if_pos hk] at e
   have hk':k=.free:=by simpa using hk
   cases q:env.cells.lookup n with
   | none =>
    rw [q] at e;exact (a1W e).imp (λ z=>⟨z.1,cQ _ z.2⟩) id
   | some a =>
    rw [q] at e;rcases a1W (cs:=(n,a)::cs) e with z | z
    ·exact .inl ⟨z.1,cQ _ z.2⟩
    ·rcases bD.mp z with z | z
     ·cases z
      exact .inl ⟨q,by rw [hk']; exact dU⟩
     ·exact .inr z
  ·rw [if_neg hk] at e
   exact (a1W e).imp (λ z=>⟨z.1,cQ _ z.2⟩) id
theorem x6:∀ (names:List (Str×NameKind)) (n:Nat) (acc:List (Str×Addr)),cellsFrom n names acc=cellsFrom n names []++acc
 | [],_,_=>rfl
 | (x,k)::r,n,acc=>by
  unfold cellsFrom
  split
  ·rw [x6 r (n+1) ((x,n)::acc),x6 r (n+1) [(x,n)],gX]; rfl
  ·exact x6 r n acc
theorem M4 {x:Str} {c:aA}:∀ {names:List (Str×NameKind)} {n:Nat},(x,c)∈cellsFrom n names []->(x,gY)∈names
 | [],_,e=>by cases e
 | (y,k)::r,n,e=>by
  unfold cellsFrom at e
  by_cases hk:(k==gY)=true
  ·rw [if_pos hk,x6] at e
   have hk':k=.cell:=by simpa using hk
   rcases bU.mp e with z | z
   ·exact cQ _ (M4 z)
   ·rw [cX] at z
    cases z;rw [hk']; exact dU
  ·rw [if_neg hk] at e
   exact cQ _ (M4 e)
theorem T0 {x:Str}:∀ {names:List (Str×NameKind)} {n:Nat},(x,gY)∈names->∃ c,(x,c)∈cellsFrom n names []
 | (y,k)::r,n,e=>by
  unfold cellsFrom;rcases bD.mp e with z | z
  ·cases z
   rw [if_pos (by rfl),x6];exact ⟨n,dJ _ dU⟩
  ·split
   ·rw [x6]
    obtain ⟨c,hc⟩:=T0 (n:=n+1) z;exact ⟨c,iC _ hc⟩
   ·exact T0 z
theorem a2t {α:Type} {x:Str}:∀ {l₁ l₂:List (Str×α)},(l₁++l₂).lookup x=match l₁.lookup x with | some c=>some c | none=>l₂.lookup x
 | [],_=>rfl
 | (n,c)::r,l₂=>by
  rw [eV,fA,fA]
  cases hx:x==n with
  | true=>rfl
  | false=>exact a2t (l₁:=r)
theorem a0r {α:Type} {x:Str} {c:α}:∀ {l:List (Str×α)},(x,c)∈l->∃ c',l.lookup x=some c'
 | (n,d)::r,h=>by
  rw [fA]
  cases hx:x==n with
  | true=>exact ⟨d,rfl⟩
  | false =>
   rcases bD.mp h with z | z
   ·cases z; simp at hx
   ·exact a0r z
theorem a0d {env:Env} {x:Str}:∀ {l:List (Str×NameKind)} {cs:List (Str×Addr)},(∃ c,cs.lookup x=some c)->∃ c,(clo env l cs).lookup x=some c
 | [],_,h=>h
 | (n,k)::r,cs,h=>by
  unfold clo
  split
  ·split
   ·refine a0d ?_
    rw [fA]
    cases hy:x==n with
    | true=>exact ⟨_,rfl⟩
    | false=>exact h
   ·exact a0d h
  ·exact a0d h
theorem Z4 {env:Env} {x:Str} (hx:∃ c,env.cells.lookup x=some c):∀ {l:List (Str×NameKind)} {cs:List (Str×Addr)},(x,eK)∈l->∃ c,(clo env l cs).lookup x=some c
 | (n,k)::r,cs,h=>by
  rcases bD.mp h with e | e
  ·cases e
   obtain ⟨c,hc⟩:=hx;unfold clo;rw [if_pos (by rfl),hc];refine a0d ⟨c,?_⟩;simp [fA]
  ·unfold clo
   split
   ·split
    ·exact Z4 hx e
    ·exact Z4 hx e
   ·exact Z4 hx e
def P5 (env:Env) (scope:bS) (C:aA):List (Str×Addr):=cellsFrom (C+1) scope.names (clo env scope.names [])
theorem G6 {env:Env} {scope:bS} {C:aA} {x:Str} {c:aA} (h:(P5 env scope C).lookup x=some c) :
  ((x,c)∈cellsFrom (C+1) scope.names []/\(x,gY)∈scope.names)\/(env.cells.lookup x=some c/\(x,eK)∈scope.names):=by
 have m:=mem_of_lookup h;unfold P5 at m;rw [x6] at m;rcases bU.mp m with z | z
 ·exact .inl ⟨z,M4 z⟩
 ·rcases a1W z with y | y
  ·exact .inr y
  ·cases y
theorem a1L {env:Env} {scope:bS} {C:aA} {x:Str} (hx:∃ c,env.cells.lookup x=some c) (hf:(x,eK)∈scope.names) (hn:(x,gY) ∉ scope.names):(P5 env scope C).lookup x=env.cells.lookup x:=by
 obtain ⟨c,hc⟩:=Z4 (env:=env) (cs:=[]) hx hf;have hc':=a0I (env:=env) (λ _ _ z=>by simp at z) hc;unfold P5;rw [x6,a2t]
 cases q:(cellsFrom (C+1) scope.names []).lookup x with
 | some d=>exact absurd (M4 (mem_of_lookup q)) hn
 | none=>rw [hc',<- hc]
def W3 (X:Cx) (os:List Str) (fr:List Nat) (scope:bS) (C:aA) (fp:List aA) (s₀:aD) (H₀:Hp):Cx :=
 { X with N:=os++fr.map (λ j=>X.N.getD j ""),s₀:=s₀,H₀:=H₀,env:=compEnvC scope (P5 X.env scope C) C X.env,outer:=X.stack,ex:=fp,fn:=λ x=>scope.names.lookup x==some .cell,pn:=[],xe:=λ _ _=>False }
def frv (fr:List Nat) (σ:St):St:=fr.map λ j=>(σ[j]?).join
def blkσ (n:Nat) (fr:List Nat) (σ:St):St:=bA n none++frv fr σ
def Wk (σ0 σ2:St):Prop:=σ2.length=σ0.length/\∀ (i:Nat) v,σ0[i]?=some (some v)->σ2[i]?=some (some v)
def a0n (outer:bS) (scope:bS) (N:List Str) (fr:List Nat):Bool :=
 (scope.names.all λ p=>(scope.names.lookup p.1==some p.2)&&(p.2 != .free || outer.names.lookup p.1==some .cell)) &&
 (fr.all λ j=>decide (j<N.length)&&(outer.names.lookup (N.getD j "")==some .cell)&&(scope.names.lookup (N.getD j "")==some .free))
theorem K4 {x:Str} {k:jE}:∀ {l:List (Str×NameKind)},l.lookup x=some k->(x,k)∈l
 | (n,j)::r,h=>by
  rw [fA] at h
  cases hx:x==n with
  | true =>
   rw [hx] at h;have:x=n:=by simpa using hx
   subst this
   cases h;exact dU
  | false=>rw [hx] at h; exact cQ _ (K4 h)
theorem Q1 {env:Env} {x:Str} {k:jE}:∀ {names:List (Str×NameKind)},
  (names.map λ (n,k)=>if (k==eK&&env.scope.kind==.function&&env.kindOf n==some .cell) then (n,gY) else (n,k)).lookup x=some k →
  (x,k)∈names\/(x,eK)∈names
 | [],h=>by simp at h
 | (n,j)::r,h=>by
  rw [cJ] at h;dsimp only at h
  by_cases hc:(j==eK&&env.scope.kind==.function&&env.kindOf n==some .cell)=true
  ·rw [if_pos hc,fA] at h
   have hj:j=.free:=by
    have:=(fV _ _ ▸ (fV _ _ ▸ hc).1).1
    simpa using this
   cases hx:x==n with
   | true =>
    have:x=n:=by simpa using hx
    subst this;subst hj;exact .inr dU
   | false =>
    rw [hx] at h;exact (Q1 h).imp (cQ _) (cQ _)
  ·rw [if_neg hc,fA] at h
   cases hx:x==n with
   | true =>
    rw [hx] at h;have:x=n:=by simpa using hx
    subst this
    cases h;exact .inl dU
   | false =>
    rw [hx] at h;exact (Q1 h).imp (cQ _) (cQ _)
section
variable {X:Cx} {os:List Str} {fr:List Nat} {scope:bS}
theorem O8 (h:a0n X.env.scope scope X.N fr=true):∀ p∈scope.names,scope.names.lookup p.1=some p.2/\(p.2=.free->X.env.scope.names.lookup p.1=some .cell):=λ p hp=>by
 have q:=jG.mp (fV _ _ ▸ h).1 p hp;simp only [fV,bne_iff_ne,Bool.or_eq_true,beq_iff_eq,ne_eq] at q;refine ⟨q.1,λ e=>?_⟩;rcases q.2 with z | z
 ·exact absurd e z
 ·exact z
theorem a5F (h:a0n X.env.scope scope X.N fr=true) {x:Str} {a b:jE} (ha:(x,a)∈scope.names) (hb:(x,b)∈scope.names):a=b:=by
 have h1:=(O8 h _ ha).1;have h2:=(O8 h _ hb).1;rw [h1] at h2;exact bG h2
theorem b2m (h:a0n X.env.scope scope X.N fr=true):∀ j∈fr,j<X.N.length/\X.env.scope.names.lookup (X.N.getD j "")=some .cell/\scope.names.lookup (X.N.getD j "")=some .free:=λ j hj=>by
 have q:=jG.mp (fV _ _ ▸ h).2 j hj;simp only [fV,beq_iff_eq,decide_eq_true_eq] at q;exact ⟨q.1.1,q.1.2,q.2⟩
theorem S7 {pins:List (aA×Obj)} {σ:St} {H:Hp} {s:aD} (I:Inv X pins σ H s) (h:a0n X.env.scope scope X.N fr=true):∀ n,(n,eK)∈scope.names->∃ c,X.env.cells.lookup n=some c:=λ n hn =>
 I.ok.has n (.inl ((O8 h _ hn).2 rfl))
theorem Inv.block {pins:List (aA×Obj)} {σ:St} {H:Hp} {s:aD} {fp:List aA} {h₁:aG} {t':Nat} (I:Inv X pins σ H s) (hk:scope.kind=.function) (h:a0n X.env.scope scope X.N fr=true)
  (hf:∀ b∈fp,T3 X pins H b) (ho:∀ b∈fp,∃ o,s.heap.get? b=some o) (hns:h₁.Ns s.heap.objs.size λ _=>none) (hkeep:∀ b o,s.heap.get? b=some o->h₁.get? b=some o)
  (hcl:CellsOk h₁ (s.heap.objs.size+1) (cellsFrom (s.heap.objs.size+1) scope.names [])) :
  Inv (W3 X os fr scope s.heap.objs.size fp s H) [] (blkσ os.length fr σ) H { s with heap:=h₁,toks:=t' } where
 ok:={
  mod:=I.ok.mod
  kind:=hk
  glob:=I.ok.glob
  blt:=I.ok.blt
  above:=aU _
  inj:=λ x y c e1 e2=>by
   have old:∀ {z:Str},X.env.cells.lookup z=some c->c<s.heap.objs.size:=λ {z} e=>by
    obtain ⟨v,q⟩:=I.cell z c e;exact q.lt
   rcases G6 e1 with z1 | z1 <;> rcases G6 e2 with z2 | z2
   ·exact sJ hcl.apart z1.1 z2.1
   ·exact absurd (bM (jZ (old z2.1)) (hcl.empty _ _ z1.1).2) (cN _)
   ·exact absurd (bM (jZ (old z1.1)) (hcl.empty _ _ z2.1).2) (cN _)
   ·exact I.ok.inj x y c z1.1 z2.1
  has:=λ x hx=>by
   have hm:(x,gY)∈scope.names\/(x,eK)∈scope.names:=by
    rcases hx with e | e
    ·exact Q1 e
    ·rcases Q1 e with z | z
     ·exact .inr z
     ·exact .inr z
   rcases hm with z | z
   ·obtain ⟨c,hc⟩:=T0 (n:=s.heap.objs.size+1) z
    refine a0r (c:=c) ?_
    show (x,c)∈P5 _ _ _
    unfold P5;rw [x6];exact iC _ hc
   ·obtain ⟨c,hc⟩:=S7 I h x z
    refine ⟨c,?_⟩
    show (P5 _ _ _).lookup x=_
    rw [a1L ⟨c,hc⟩ z (λ w=>by cases a5F h z w)];exact hc
  cab:=λ x c hx e=>by
   have hx':scope.names.lookup x=some .cell:=by simpa using (show (scope.names.lookup x==some .cell)=true from hx)
   rcases G6 e with z | z
   ·exact fJ (tK (hcl.empty _ _ z.1).2)
   ·cases a5F h (K4 hx') z.2
  hd:=I.ok.hd
  frames:=I.ok.frames
  stk:=.inl rfl
  exf:=λ b hb=>by
   obtain ⟨o,e⟩:=ho b hb;refine ⟨Nat.ne_of_lt (bC e),λ x c e1=>?_⟩;rcases G6 e1 with z | z
   ·intro w
    have:=(hcl.empty _ _ z.1).2;rw [w] at this;exact absurd (bM (jZ (bC e)) this) (cN _)
   ·exact (hf b hb).2.2.2.2.1 x c z.1
  bs:=I.bs
  bsz:=cO I.ok.bsz I.sz
  noex:=λ b o e hb=>by
   rcases (hf b hb).2.2.2.1 with z | z
   ·exact I.ok.noex b o e z
   ·exact absurd (bM (bC e) (cO I.ok.bsz z)) (cN _)
  exfs:=λ b hb hz=>by
   rcases bD.mp (I.stkSub b hz) with e | e
   ·exact (hf b hb).2.1 e
   ·exact (hf b hb).2.2.1 e
  funs:=I.stack
  frf:=I.stkFree }
 os:=rfl
 bare:=I.bare
 base:=Un.kept hkeep
 loc:=by
  refine ⟨_,hns,λ i x v e1 e2 _=>?_⟩;have hi:os.length<=i:=by
   refine pS λ hlt=>?_;unfold blkσ at e2;rw [dB (by simpa using hlt)] at e2;rw [fU] at e2
   split at e2 <;> cases e2
  have e1':(fr.map λ j=>X.N.getD j "")[i - os.length]?=some x:=by
   rw [<- dP (l₁:=os) hi]; exact e1
  have e2':(fr.map λ j=>(σ[j]?).join)[i - os.length]?=some (some v):=by
   have z:(bA os.length (none:Option V)).length<=i:=by simpa using hi
   unfold blkσ at e2;rw [dP z,bQ] at e2;exact e2
  rw [aQ] at e1' e2'
  cases q:fr[i - os.length]? with
  | none=>rw [q] at e1'; cases e1'
  | some j =>
   rw [q] at e1' e2';have hj:j∈fr:=bN q;obtain ⟨hjl,hjc,hjf⟩:=b2m h j hj;have ex:X.N.getD j ""=x:=bG e1';have ev:(σ[j]?).join=some v:=bG e2';have hN:X.N[j]?=some x:=by
    rw [<- ex,aZ,aV hjl]; rfl
   have hσ:σ[j]?=some (some v):=by
    cases r:σ[j]? with
    | none=>rw [r] at ev; cases ev
    | some y=>rw [r] at ev; exact congrArg some ev
   rw [ex] at hjc hjf;obtain ⟨m,_,hl⟩:=I.loc;obtain ⟨u,r,lk⟩:=hl j x v hN hσ (.inr (.inl hjc));refine ⟨u,r,?_⟩;have kc:tL X.env x=some .cell:=hjc;rcases lk with ⟨k1,_⟩ | ⟨_,c,ec,z⟩
   ·rw [kc] at k1; cases k1
   ·have hfm:=K4 hjf
    have ec':(P5 X.env scope s.heap.objs.size).lookup x=some c:=by
     rw [a1L ⟨c,ec⟩ hfm (λ w=>by cases a5F h hfm w)]; exact ec
    refine .inr ⟨?_,c,ec',?_⟩
    ·have kk:∀ {names:List (Str×NameKind)},names.lookup x=some .free->(names.map λ (n,k)=>if (k==eK&&X.env.scope.kind==.function&&X.env.kindOf n==some .cell) then (n,gY) else (n,k)).lookup x=some .cell:=by
      intro names
      induction names with
      | nil=>intro e; simp at e
      | cons p r ih =>
       obtain ⟨n,k⟩:=p;intro e;rw [fA] at e;rw [cJ];dsimp only
       cases hx:x==n with
       | true =>
        rw [hx] at e
        cases e;have hxn:x=n:=by simpa using hx
        subst hxn;rw [if_pos (by rw [I.ok.kind,kc]; rfl),fA];simp
       | false =>
        rw [hx] at e
        by_cases hc:(k==eK&&X.env.scope.kind==.function&&X.env.kindOf n==some .cell)=true
        ·rw [if_pos hc,fA,hx]; exact ih e
        ·rw [if_neg hc,fA,hx]; exact ih e
     exact .inl (kk hjf)
    ·obtain ⟨o,ho',hd⟩:=z
     exact ⟨o,hkeep _ _ ho',hd⟩
 cell:=λ x c e=>by
  rcases G6 e with z | z
  ·exact ⟨_,(hcl.empty _ _ z.1).1⟩
  ·obtain ⟨v,o,ho',hd⟩:=I.cell x c z.1
   exact ⟨v,o,hkeep _ _ ho',hd⟩
 free:=I.hok.fresh (aU _)
 freeC:=λ x c e=>by
  rcases G6 e with z | z
  ·exact I.hok.fresh (fJ (tK (hcl.empty _ _ z.1).2))
  ·exact I.freeC x c z.1
 pin:=λ p hp=>nomatch hp
 hok:=I.hok.kept hkeep
 len:=by simp [blkσ,frv,W3]
theorem Inv.unblock {pins:List (aA×Obj)} {σ σ':St} {H H':Hp} {s s':aD} {fp:List aA} {C:aA} (I:Inv X pins σ H s) (hf:∀ b∈fp,T3 X pins H b) (J:Inv (W3 X os fr scope C fp s H) [] σ' H' s'):Inv X pins σ H' s' :=
 I.call' J.os J.base J.hok J.bare λ b hb=>⟨(hf b hb).2.2.2.1,(hf b hb).2.1,(hf b hb).2.2.2.2.1,(hf b hb).2.2.2.2.2⟩
theorem Inv.letgo {pins:List (aA×Obj)} {σ:St} {H H₀:Hp} {s s₀:aD} {C:aA} {h':aG} (I₀:Inv X pins σ₀ H₀ s₀) (I:Inv X pins σ H s) (hn:H C=none) (hC:s₀.heap.objs.size<=C) (hs:iX C s.heap h'):Inv X pins σ H { s with heap:=h' } :=
 I.turned (t':=s.toks) (it:=C) (λ b o hb e=>(hs.2 b hb).trans e) hn (eH (bM I₀.lt hC)) (.inr (cO I₀.sz hC))
  (λ x c e z=>by
   obtain ⟨v,q⟩:=I₀.cell x c e;exact absurd (bM q.lt (by rw [z]; exact hC)) (cN _))
  λ p hp z=>absurd (bM (bC (I₀.pin p hp).1) (by rw [z]; exact hC)) (cN _)
end
def b3F (X:Cx) (ifs:List aN) (t:TT):Prop :=
 ∀ (pins:List (aA×Obj)) (s:aD) (σ:St) (H:Hp) (Q:Bool->Hp->Prop),Inv X pins σ H s->t σ H Q →
  wpAny (model X.prog X.w) X.A (forIn ifs true λ c r=>if r=true then do let ok <- isTrue c X.env (eval c X.env); pure (nB ok) else pure (nB r)) (TP X pins σ Q) X.xe s
def a9E:TT:=λ _ H Q=>Q true H
theorem a5f {X:Cx}:b3F X [] a9E:=λ _ _ _ H _ I h=>tM ⟨H,I,h⟩
theorem a5a {X:Cx} {c:aN} {t:TT} (h:PT X c t):b3F X [c] t:=λ pins s σ H Q I q=>wpAny_tests_one (h pins s σ H Q I q)
theorem a0O {M:iW} {A:aY} {E:aC->aD->Prop} {s:aD} {scope:bS} {globals:aA} {closure:List (Str×Addr)} {qual:Str} {env:Env} {Q:Env->aD->Prop}
  (hQ:Q { scope,locals:=s.heap.objs.size,globals,cells:=cellsFrom (s.heap.objs.size+1) scope.names closure,qual,func:=none,code:=env.code,frame:=env.frame,builtins:=env.builtins } { s with heap:=pushCells (s.heap.push { cls:=.type "dict",data:=.dict #[] }) scope.names }) :
  wpAny M A (newFunctionEnv scope globals closure [] qual none .none (some env)) Q E s:=by
 simp only [newFunctionEnv,Option.isSome_some,if_true];refine aF (wpAny_alloc ?_);refine aF (wpAny_layCells _ (λ name kind cells=>by cases hkc:kind==gY <;> simp [hkc]) _ _ _ _ ?_);rw [show ({ s with heap:=s.heap.push { cls:=.type "dict",data:=.dict #[] } }:aD).heap.objs.size=s.heap.objs.size+1 from eQ ..];simp only [jH];exact aF (aT (aT hQ))
theorem a3A {prog:aL} {w:aI} {A:aY} {R:iG->aD->Prop} {s:aD} {elt target iter:aN} {ifs:List aN} {scope:bS} {pos:Pos} {it acc:aC} {env:Env} (I:Nat->aD->Prop)
  (turn:∀ n s,I n s->wpAny (model prog w) A (pyNext it) (λ r s₁=>match r with
   | none=>R (.ok .next) s₁
   | some v=>wpAny (model prog w) A (letOwnedTupleGo target it v) (λ _ s₀=>wpAny (model prog w) A (assign target env v) (λ _ s₂ =>
     wpAny (model prog w) A (forIn ifs true λ c r=>if r=true then do let ok <- isTrue c env (eval c env); pure (nB ok) else pure (nB r)) (λ ok s₃ =>
      if ok=true then wpAny (model prog w) A (eval elt env) (λ x s₄ =>
       wpAny (model prog w) A (call (.builtin "list.append") [acc,x]) (λ _ s₅=>∃ m,m<n/\I m s₅) (λ _ _=>False) s₄) (λ _ _=>False) s₃
      else ∃ m,m<n/\I m s₃) (λ _ _=>False) s₂) (λ _ _=>False) s₀) (λ _ _=>False) s₁) (λ _ _=>False) s)
  (n:Nat) (h:I n s) :
  codeAny (model prog w) A (.compLoop (.ListComp elt [⟨target,iter,ifs,0⟩] scope pos) 0 it acc env) R s:=by
 refine tN rfl I (λ n s hI=>?_) n h
 show wpAny _ A ((compTurn (.ListComp elt [⟨target,iter,ifs,0⟩] scope pos) 0 it acc env).onRaise (λ x=>do noteFrame x env; theTreesLotGoes x)) _ _ s
 refine wpAny_noted ?_;rw [tO];refine aF (gU (aF (cZ (turn n s hI) (λ r s₁ h₁=>?_) λ _ _ h'=>h'.elim)))
 cases r with
 | none=>exact aT h₁
 | some v =>
  refine aF (cZ h₁ (λ _ s₀ h₀=>?_) λ _ _ h'=>h'.elim);refine aF (cZ h₀ (λ _ s₂ h₂=>aF (cZ h₂ (λ ok s₃ h₃=>?_) λ _ _ h'=>h'.elim)) λ _ _ h'=>h'.elim)
  cases ok with
  | false=>exact aT ⟨rfl,h₃⟩
  | true =>
   exact aF (aF (cZ h₃ (λ x s₄ h₄=>aF (cZ h₄ (λ _ s₅ h₅=>aT (aT ⟨rfl,h₅⟩)) λ _ _ h'=>h'.elim)) λ _ _ h'=>h'.elim))
def lcW (n:Nat) (fr:List Nat) (g:TG) (te:TE) (σ:St) (J:It) (H1:Hp) (p:aA) (D:Hp->Prop):Prop :=
 ∃ W:Nat->Nat->List V->Hp->Prop,(∃ m,W 0 m [] (upd H1 p (.lst [])))/\∀ i m ys H,W i m ys H →
  (J.stop i H/\D H)\/(J.go i H/\∀ x H',J.yld i H x H'->g x (blkσ n fr σ) H' λ σ2 H2=>Wk (blkσ n fr σ) σ2/\te σ2 H2 λ v H3=>H3 p=some (.lst ys)/\ys.length<sizeLine/\∃ m',m'<m/\W (i+1) m' (ys++[v]) (upd H3 p (.lst (ys++[v]))))
def tLC (n:Nat) (fr:List Nat) (wi:TI) (g:TG) (te:TE):TE:=λ σ H Q=>wi σ H λ J H1=>∀ p,H1 p=none->lcW n fr g te σ J H1 p (Q (.ref p))
def lcI (n:Nat) (fr:List Nat) (g:TG) (tc:TT) (te:TE) (σ:St) (J:It) (H1:Hp) (p:aA) (D:Hp->Prop):Prop :=
 ∃ W:Nat->Nat->List V->Hp->Prop,(∃ m,W 0 m [] (upd H1 p (.lst [])))/\∀ i m ys H,W i m ys H →
  (J.stop i H/\D H)\/(J.go i H/\∀ x H',J.yld i H x H'->g x (blkσ n fr σ) H' λ σ2 H2=>Wk (blkσ n fr σ) σ2/\tc σ2 H2 λ ok H2' =>
   if ok=true then te σ2 H2' λ v H3=>H3 p=some (.lst ys)/\ys.length<sizeLine/\∃ m',m'<m/\W (i+1) m' (ys++[v]) (upd H3 p (.lst (ys++[v]))) else ∃ m',m'<m/\W (i+1) m' ys H2')
def b4h (n:Nat) (fr:List Nat) (wi:TI) (g:TG) (tc:TT) (te:TE):TE:=λ σ H Q=>wi σ H λ J H1=>∀ p,H1 p=none->lcI n fr g tc te σ J H1 p (Q (.ref p))
theorem a4p {n:Nat} {fr:List Nat} {g:TG} {te:TE} {σ:St} {J:It} {H1:Hp} {p:aA} {D:Hp->Prop}:lcI n fr g a9E te σ J H1 p D=lcW n fr g te σ J H1 p D:=by
 unfold lcI lcW a9E;simp only [if_true]
section
variable {X:Cx} {os:List Str} {fr:List Nat} {scope:bS} {elt tg iter:aN} {pos:Pos} {wi:TI} {g:TG} {te:TE}
theorem a0X {ifs:List aN} {tc:TT} {pins:List (aA×Obj)} {σ:St} {s2:aD} {D:aA->Hp->Prop} {itv:aC} {RR:aC->aA->iG->aD->Prop}
  (hc:X.calm=true) (hg:∀ C fp s₀ H₀,PG (W3 X os fr scope C fp s₀ H₀) tg g) (ht:∀ C fp s₀ H₀,b3F (W3 X os fr scope C fp s₀ H₀) ifs tc) (he:∀ C fp s₀ H₀,PE (W3 X os fr scope C fp s₀ H₀) elt te)
  (hk:scope.kind=.function) (hok:a0n X.env.scope scope X.N fr=true)
  (h2:PIE X pins σ tg (λ J H1=>∀ p,H1 p=none->lcI os.length fr g tc te σ J H1 p (D p)) itv s2)
  (hRR:∀ p C s3 H3 s' H',Inv X pins σ H3 s3->s3.heap.objs.size=C->H' C=none->Inv X pins σ H' s'->(∃ m,s'.heap.Ns C m)->D p H'->RR (.ref p) C (.ok .next) s') :
  wpAny (model X.prog X.w) X.A (newList []) (λ acc s₃=>wpAny (model X.prog X.w) X.A (newFunctionEnv scope X.env.globals (clo X.env scope.names []) [] X.env.qual none .none (some X.env)) (λ cenv s₄ =>
   codeAny (model X.prog X.w) X.A (.compStart (.ListComp elt [⟨tg,iter,ifs,0⟩] scope pos) 0 itv acc { cenv with scope:=relabel scope X.env }) (RR acc cenv.locals) s₄) X.xe s₃) X.xe s2:=by
 obtain ⟨it,fp,tn,J,H2,e,I2,T,st2,f2,hR⟩:=h2;subst e;refine lE ?_;have fresh:H2 s2.heap.objs.size=none:=I2.fresh;obtain ⟨W,⟨m0,w0⟩,turn⟩:=hR s2.heap.objs.size fresh;have I3:Inv X pins σ (upd H2 s2.heap.objs.size (.lst [])) { s2 with heap:=s2.heap.push { cls:=.type "list",dict:=none,data:=.seq ([]:List aC).toArray } }:=I2.lnew (ys:=[]) (its:=[]) (t':=s2.toks) .nil (dA _);have obj2:=T.obj _ _ st2;have ne2:∀ b∈fp,b≠s2.heap.objs.size:=λ b hb=>by
  obtain ⟨o,e,_⟩:=obj2 b hb;exact cF (bC e)
 have st3:tn 0 (s2.heap.push { cls:=.type "list",dict:=none,data:=.seq ([]:List aC).toArray }):=T.keep _ _ _ st2 λ b hb o e=>bE _ e;have f3:∀ b∈fp,T3 X pins (upd H2 s2.heap.objs.size (.lst [])) b:=λ b hb=>⟨by rw [i7 (ne2 b hb)]; exact (f2 b hb).1,(f2 b hb).2⟩;generalize hs3:({ s2 with heap:=s2.heap.push { cls:=.type "list",dict:=none,data:=.seq ([]:List aC).toArray } }:aD)=s3 at I3 ⊢;have st3':tn 0 s3.heap:=by rw [<- hs3]; exact st3
 generalize s2.heap.objs.size=p at *;refine a0O ?_;have hns:(pushCells (s3.heap.push { cls:=.type "dict",data:=.dict #[] }) scope.names).Ns s3.heap.objs.size λ _=>none:=(tQ s3.heap (.type "dict")).keeps (nD _ _);have hkeep:∀ b o,s3.heap.get? b=some o->(pushCells (s3.heap.push { cls:=.type "dict",data:=.dict #[] }) scope.names).get? b=some o:=λ b o e=>nD _ _ b o (bE _ e);have hcl:=tR scope.names (s3.heap.push { cls:=.type "dict",data:=.dict #[] }) (s3.heap.objs.size+1) [] ⟨λ _ _ hm=>(nomatch hm),tS⟩ (by rw [eQ]; exact aU _);rw [eQ] at hcl;generalize pushCells (s3.heap.push { cls:=.type "dict",data:=.dict #[] }) scope.names=h₁ at hns hkeep hcl ⊢;have obj3:∀ b∈fp,∃ o,s3.heap.get? b=some o:=λ b hb=>by
  obtain ⟨o,e,_⟩:=T.obj _ _ st3' b hb;exact ⟨o,e⟩
 have J0:=I3.block (os:=os) (t':=s3.toks) hk hok f3 obj3 (h₁:=h₁) hns hkeep hcl;have ok0:=J0.ok;have fpY:∀ {H':Hp},(∀ b∈fp,H' b=none)->∀ b∈fp,T3 (W3 X os fr scope s3.heap.objs.size fp s3 (upd H2 p (.lst []))) [] H' b:=λ hn b hb =>
  ⟨hn b hb,(ok0.exf b hb).1,ok0.exfs b hb,.inl hb,(ok0.exf b hb).2,λ q hq=>nomatch hq⟩
 have st4:tn 0 h₁:=T.keep _ _ _ st3' λ b hb o e=>hkeep b o e;have fr0:∀ b∈fp,upd H2 p (.lst []) b=none:=λ b hb=>(f3 b hb).1;have loop:∀ s4:aD,s4={ s3 with heap:=h₁,toks:=s3.toks } →
   codeAny (model X.prog X.w) X.A (.compLoop (.ListComp elt [⟨tg,iter,ifs,0⟩] scope pos) 0 (.ref it) (.ref p) (compEnvC scope (P5 X.env scope s3.heap.objs.size) s3.heap.objs.size X.env)) (RR (.ref p) s3.heap.objs.size) s4:=by
  rintro s4 rfl;refine a3A (λ n s'=>∃ i ys H',Inv (W3 X os fr scope s3.heap.objs.size fp s3 (upd H2 p (.lst []))) [] (blkσ os.length fr σ) H' s'/\tn i s'.heap/\(∀ b∈fp,H' b=none)/\W i n ys H') ?_ m0 ⟨0,[],_,J0,st4,fr0,w0⟩;rintro n s5 ⟨i,ys,H5,I5,st5,fr5,w5⟩;rcases turn i n ys H5 w5 with ⟨stop,qd⟩ | ⟨go,step⟩
  ·refine A7 (T.done (W3 X os fr scope s3.heap.objs.size fp s3 (upd H2 p (.lst []))) rfl rfl rfl hc i [] s5 _ H5 (λ _ _=>False) I5 (fpY fr5) st5 stop) λ r s6 ⟨hr,I6⟩=>?_
   subst hr;exact hRR p _ s3 _ s6 H5 I3 rfl I6.free (I3.unblock f3 I6) (let ⟨m,hm,_⟩:=I6.loc; ⟨m,hm⟩) qd
  ·refine A7 (T.item (W3 X os fr scope s3.heap.objs.size fp s3 (upd H2 p (.lst []))) rfl rfl rfl hc i [] s5 _ H5 (λ _ _=>False) I5 (fpY fr5) st5 go) λ r s6 ⟨u,hr,h6⟩=>?_
   subst hr;refine A7 h6 λ _ s7 ⟨x,H7,I7,r7,y7,st7,fr7⟩=>?_;have I7':=I7.pinned (fpY fr7) (T.obj _ _ st7);refine A7 (hg _ _ _ _ _ s7 _ H7 x u _ I7' r7 (step x H7 y7)) λ _ s8 ⟨σ8,H8,I8,wk8,q8⟩=>?_;have again:∀ {H':Hp} {s':aD} {zs:List V} {m':Nat},Inv (W3 X os fr scope s3.heap.objs.size fp s3 (upd H2 p (.lst []))) ([]++a1A fp s7.heap) σ8 H' s'->m'<n->W (i+1) m' zs H' →
     ∃ m,m<n/\∃ i ys H',Inv (W3 X os fr scope s3.heap.objs.size fp s3 (upd H2 p (.lst []))) [] (blkσ os.length fr σ) H' s'/\tn i s'.heap/\(∀ b∈fp,H' b=none)/\W i m ys H':=λ {H' s' zs m'} J' hm' w'=>by
    refine ⟨m',hm',i+1,zs,H',(J'.weak wk8.1.symm λ i v e=>wk8.2 i v e).unpinned,T.keep _ _ _ st7 λ b hb o e=>(J'.pin (b,o) (dJ _ (dJ _ (N6 hb e)))).1,λ b hb=>?_,w'⟩;obtain ⟨o,e,d⟩:=T.obj _ _ st7 b hb;exact (J'.pin (b,o) (dJ _ (dJ _ (N6 hb e)))).2.1
   refine A7 (ht _ _ _ _ _ s8 σ8 H8 _ I8 q8) λ ok s9 ⟨H9,I9,q9⟩=>?_
   cases ok with
   | false =>
    obtain ⟨m',hm',w9⟩:=q9;exact again I9 hm' w9
   | true =>
    refine A7 (he _ _ _ _ _ s9 σ8 H9 _ I9 q9) λ y s10 ⟨v,H10,I10,r10,hp10,hz10,m',hm',w10⟩=>?_;refine A7 (N4 (X:=W3 X os fr scope s3.heap.objs.size fp s3 (upd H2 p (.lst []))) _ s10 σ8 H10 (.ref p) [v] (.ref p) [y] (λ _ H'=>H'=upd H10 p (.lst (ys++[v]))) I10 rfl (.cons r10 .nil) ⟨p,ys,v,rfl,rfl,hp10,hz10,rfl⟩) λ _ s11 ⟨_,H11,I11,_,e11⟩=>?_;subst e11;exact again I11 hm' w10
 exact tT (loop _ rfl) (T.self _ 0 _ _ _ st4 (loop _ rfl))
theorem R5 (os:List Str) (fr:List Nat) (hc:X.calm=true) (hi:PI X tg iter wi) (hg:∀ C fp s₀ H₀,PG (W3 X os fr scope C fp s₀ H₀) tg g) (he:∀ C fp s₀ H₀,PE (W3 X os fr scope C fp s₀ H₀) elt te)
  (hk:scope.kind=.function:=by rfl) (hok:a0n X.env.scope scope X.N fr=true:=by rfl) (hs:∀ x,foldedSetIterable iter X.env x=pure x:=by intro _; rfl) :
  PE X (.ListComp elt [⟨tg,iter,[],0⟩] scope pos) (tLC os.length fr wi g te):=by
 intro pins s σ H Q I h;unfold tLC at h;simp only [<- a4p] at h;rw [tU];refine lO (use:=none) rfl hs (D5 (S7 I hok)) hk (λ x hx hl=>by have:=(O8 hok x hx).1; rw [hl] at this; exact this) (A7 (hi pins s σ H _ I h) λ v s1 h1=>A7 h1 λ itv s2 h2=>?_);refine a0X (os:=os) (D:=λ p H'=>Q (.ref p) H') (RR:=λ acc C=>compPost (model X.prog X.w) X.A X.xe none (EP X pins σ Q) acc C) hc hg (λ _ _ _ _=>a5f) he hk hok h2 ?_;intro p C s3 H3 s' H' I3 eC hn I' ⟨m,hm⟩ q;refine ⟨m,hm,λ h' hs'=>⟨.ref p,H',I3.letgo I' hn (by omega) hs',rfl,q⟩⟩
theorem b0f {c:aN} {tc:TT} (os:List Str) (fr:List Nat) (hc:X.calm=true) (hi:PI X tg iter wi) (hg:∀ C fp s₀ H₀,PG (W3 X os fr scope C fp s₀ H₀) tg g) (ht:∀ C fp s₀ H₀,PT (W3 X os fr scope C fp s₀ H₀) c tc) (he:∀ C fp s₀ H₀,PE (W3 X os fr scope C fp s₀ H₀) elt te)
  (hk:scope.kind=.function:=by rfl) (hok:a0n X.env.scope scope X.N fr=true:=by rfl) (hs:∀ x,foldedSetIterable iter X.env x=pure x:=by intro _; rfl) :
  PE X (.ListComp elt [⟨tg,iter,[c],0⟩] scope pos) (b4h os.length fr wi g tc te):=by
 intro pins s σ H Q I h;rw [tU];refine lO (use:=none) rfl hs (D5 (S7 I hok)) hk (λ x hx hl=>by have:=(O8 hok x hx).1; rw [hl] at this; exact this) (A7 (hi pins s σ H _ I h) λ v s1 h1=>A7 h1 λ itv s2 h2=>?_);refine a0X (os:=os) (D:=λ p H'=>Q (.ref p) H') (RR:=λ acc C=>compPost (model X.prog X.w) X.A X.xe none (EP X pins σ Q) acc C) hc hg (λ _ _ _ _=>a5a (ht _ _ _ _)) he hk hok h2 ?_;intro p C s3 H3 s' H' I3 eC hn I' ⟨m,hm⟩ q;refine ⟨m,hm,λ h' hs'=>⟨.ref p,H',I3.letgo I' hn (by omega) hs',rfl,q⟩⟩
theorem a4P {i:Nat} {x:Str} {pos' spos:Pos} (os:List Str) (fr:List Nat) (hN:X.N.Nodup) (hi':X.N[i]?=some x) (hx:X.env.scope.names.lookup x=some .local)
  (hc:X.calm=true) (hi:PI X tg iter wi) (hg:∀ C fp s₀ H₀,PG (W3 X os fr scope C fp s₀ H₀) tg g) (he:∀ C fp s₀ H₀,PE (W3 X os fr scope C fp s₀ H₀) elt te)
  (hsw:swapsWith (.ListComp elt [⟨tg,iter,[],0⟩] scope pos) (some (.Name x pos')) spos.line X.env=pure true:=by rfl)
  (hk:scope.kind=.function:=by rfl) (hok:a0n X.env.scope scope X.N fr=true:=by rfl) (hs:∀ x,foldedSetIterable iter X.env x=pure x:=by intro _; rfl) :
  PS X (.Assign [.Name x pos'] (.ListComp elt [⟨tg,iter,[],0⟩] scope pos) spos) (a4D (tLC os.length fr wi g te) (K9 i)):=by
 intro pins s σ H D I h;unfold a4D tLC at h;simp only [<- a4p] at h;rw [pU _ _ _ _ hsw];refine aF (gU (aF ?_))
 show wpAny _ X.A (do let _ <- comprehension (.ListComp elt [⟨tg,iter,[],0⟩] scope pos) scope X.env _ (newList []) false (eval iter X.env) (some (assign (.Name x pos') X.env))) _ _ s
 refine aF (cZ (lO (use:=some (assign (.Name x pos') X.env)) (Q:=λ _ s'=>SP X pins D .next s') rfl hs (D5 (S7 I hok)) hk (λ x hx hl=>by have:=(O8 hok x hx).1; rw [hl] at this; exact this)
  (A7 (hi pins s σ H _ I h) λ v s1 h1=>A7 h1 λ itv s2 h2=>?_)) (λ _ s' hq=>aT (aT hq)) λ _ _ e=>e)
 refine a0X (os:=os) (D:=λ p H'=>D.nx (σ.set i (some (.ref p))) H') (RR:=λ acc C=>compPost (model X.prog X.w) X.A X.xe (some (assign (.Name x pos') X.env)) (λ _ s'=>SP X pins D .next s') acc C) hc hg (λ _ _ _ _=>a5f) he hk hok h2 ?_;intro p C s3 H3 s' H' I3 eC hn I' ⟨m,hm⟩ q
 show wpAny _ X.A (assign (.Name x pos') X.env (.ref p)) _ _ _
 refine mQ (a0c (v:=.ref p) I' hN hi' (.inl hx) rfl (λ s'' I'' ⟨a,hsa,ha⟩=>?_) (.inr hx));have hCa:C≠a:=by
  rcases ha with e | e
  ·rw [e]; exact eH (by rw [<- eC]; exact I3.lt)
  ·obtain ⟨v,z⟩:=I3.cell x a e
   exact eH (by rw [<- eC]; exact z.lt)
 exact ⟨m,hm.sameBut hsa hCa,λ h' hs'=>⟨_,H',I3.letgo I'' hn (by omega) hs',q⟩⟩
end
section
variable {X:Cx} {pins:List (aA×Obj)} {σ:St} {H:Hp} {s:aD} {a:aA} {xs:List V}
abbrev SqA (K:aE) (H:Hp) (a:aA) (xs:List V):Prop:=SqL K H a xs\/SqT K H a xs
theorem a0U {h':aG} {o:Obj} {h:aG} (hk:∀ b x,b ∉ [h.objs.size]->(h.push o).get? b=some x->h'.get? b=some x):∀ b x,h.get? b=some x->h'.get? b=some x :=
 λ b x e=>hk b x (λ hm=>by rw [cX.mp hm] at e; exact cN _ (bC e)) (bE _ e)
theorem Y7 (hc:X.calm=true) (I:Inv X pins σ H s) (h:SqA X.K H a xs):∃ its:List aC,Vals xs its/\∀ (Q:aC->aD->Prop) (E:aC->aD->Prop),
  (∀ (o:Obj) (St:Nat->aG->Prop),Walks X.prog X.w X.A.in1 s.heap.objs.size [s.heap.objs.size,a] [s.heap.objs.size] its.toArray.size (λ i v=>its.toArray[i]?=some v) St->St 0 (s.heap.push o) →
   (∀ b∈[s.heap.objs.size,a],b<(s.heap.push o).objs.size)->Q (.ref s.heap.objs.size) { s with heap:=s.heap.push o })->wpAny (model X.prog X.w) X.A.in1 (pyIter (.ref a)) Q E s:=by
 have hh:=I.ok.hd hc;have lt2:∀ (o:Obj),a<s.heap.objs.size->∀ b∈[s.heap.objs.size,a],b<(s.heap.push o).objs.size:=λ o hlt b hb=>by
  rw [eQ];rcases bD.mp hb with rfl | hb
  ·exact jB _
  ·rw [cX.mp hb]; exact jZ hlt
 rcases h with h | h
 ·obtain ⟨its,r,p,hz⟩:=I.list h
  have hl:=p.isList;have hlt:a<s.heap.objs.size:=by obtain ⟨_,e,_⟩:=hl; exact bC e
  refine ⟨its,r,λ Q E hQ=>mS hl ?_⟩;exact hQ _ _ (pV (A:=X.A.in1) hh _ a (cF hlt) its.toArray) ⟨⟨_,cI _ rfl,rfl,rfl⟩,hl.push _⟩ (lt2 _ hlt)
 ·obtain ⟨its,r,p,hz⟩:=I.tuple h
  have hl:s.heap.IsTuple a its.toArray:=p;have hlt:a<s.heap.objs.size:=by obtain ⟨_,e,_⟩:=hl; exact bC e
  refine ⟨its,r,λ Q E hQ=>rR hl ?_⟩;exact hQ _ _ (Walks.tuple (A:=X.A.in1) hh _ a (cF hlt) its.toArray) ⟨⟨_,cI _ rfl,rfl,rfl⟩,hl.push _⟩ (lt2 _ hlt)
theorem a4d {ys:List V} {its:List aC} (r:Vals ys its) {i:Nat} {v:aC} (e:its.toArray[i]?=some v):∃ y,ys[i]?=some y/\RelV y v:=by
 have e':its[i]?=some v:=by simpa using e
 cases q:ys[i]? with
 | none=>rw [r.none_of q] at e'; cases e'
 | some y =>
  obtain ⟨u,h1,h2⟩:=r.get q;rw [e'] at h1; cases h1;exact ⟨y,rfl,h2⟩
theorem a5B (bs:List Bool):((aR bs.length).all λ i=>(bs[i]?).getD true)=bs.all id:=by
 rw [jR,jG,jG];constructor
 ·intro h b hb
  obtain ⟨i,hi,e⟩:=pW hb;have:=h i (dY.mpr hi);simp only [aV hi,gE,e] at this;exact this
 ·intro h i hi
  have hi':=dY.mp hi;simp only [aV hi',gE];exact h _ (fB hi')
theorem a5w (bs:List Bool):((aR bs.length).any λ i=>(bs[i]?).getD false)=bs.any id:=by
 rw [jR,pX,pX];constructor
 ·rintro ⟨i,hi,e⟩
  have hi':=dY.mp hi;simp only [aV hi',gE] at e;exact ⟨_,fB hi',e⟩
 ·rintro ⟨b,hb,e⟩
  obtain ⟨i,hi,rfl⟩:=pW hb;exact ⟨i,dY.mpr hi,by simp only [aV hi,gE]; exact e⟩
end
section
variable {X:Cx}
theorem a5i (hc:X.calm=true):J5 X (.builtin "all") (λ vs H Q=>∃ (a:aA) (bs:List Bool),vs=[.ref a]/\SqA X.K H a (bs.map V.bl)/\Q (.bl (bs.all id)) H):=by
 intro pins s σ H vs us Q I r h;obtain ⟨a,bs,rfl,hs,q⟩:=h;obtain ⟨u,rfl,ru⟩:=P7 r
 cases ru;obtain ⟨its,rv,walk⟩:=Y7 hc I hs;have hlen:its.toArray.size=bs.length:=by rw [cG,<- rv.length,aH]
 refine call_all_walk (walk _ _ λ o St W st fp=>?_);refine ⟨_,_,_,_,_,_,λ i=>(bs[i]?).getD true,rfl,W,st,λ i v s' Q' E' hP hQ=>?_,λ h' tk hk=>?_⟩
 ·obtain ⟨y,e,ry⟩:=a4d rv hP
  rw [aQ] at e
  cases eb:bs[i]? with
  | none=>rw [eb] at e; cases e
  | some b =>
   rw [eb] at e; cases e
   cases ry;simp only [eb,gE] at hQ;exact gB hQ
 ·rw [hlen,a5B bs]
  exact ⟨.bl _,H,I.kept (a0U hk),rfl,q⟩
theorem a8D (hc:X.calm=true):J5 X (.builtin "any") (λ vs H Q=>∃ (a:aA) (bs:List Bool),vs=[.ref a]/\SqA X.K H a (bs.map V.bl)/\Q (.bl (bs.any id)) H):=by
 intro pins s σ H vs us Q I r h;obtain ⟨a,bs,rfl,hs,q⟩:=h;obtain ⟨u,rfl,ru⟩:=P7 r
 cases ru;obtain ⟨its,rv,walk⟩:=Y7 hc I hs;have hlen:its.toArray.size=bs.length:=by rw [cG,<- rv.length,aH]
 refine call_any_walk (walk _ _ λ o St W st fp=>?_);refine ⟨_,_,_,_,_,_,λ i=>(bs[i]?).getD false,rfl,W,st,λ i v s' Q' E' hP hQ=>?_,λ h' tk hk=>?_⟩
 ·obtain ⟨y,e,ry⟩:=a4d rv hP
  rw [aQ] at e
  cases eb:bs[i]? with
  | none=>rw [eb] at e; cases e
  | some b =>
   rw [eb] at e; cases e
   cases ry;simp only [eb,gE] at hQ;exact gB hQ
 ·rw [hlen,a5w bs]
  exact ⟨.bl _,H,I.kept (a0U hk),rfl,q⟩
theorem a0K {ns:List Int} {its:List aC} (rv:Vals (ns.map V.int) its):∀ (i:Nat) (v:aC),its.toArray[i]?=some v->∃ t,v=fR (ns.getD i 0) t:=λ i v hP=>by
 obtain ⟨y,e,ry⟩:=a4d rv hP;rw [aQ] at e
 cases en:ns[i]? with
 | none=>rw [en] at e; cases e
 | some n =>
  rw [en] at e; cases e;obtain ⟨t,rfl⟩:=ry;exact ⟨t,by rw [aZ,en]; rfl⟩
theorem a1B (ns:List Int):∀ j,preSum (λ i=>ns.getD i 0) j=(ns.take j).sum
 | 0=>by simp [preSum]
 | j+1=>by
  rw [preSum,a1B ns j]
  by_cases hj:j<ns.length
  ·rw [tV hj,List.sum_append,aZ,aV hj]; simp
  ·rw [gF (by omega),gF (by omega),aZ,cK (by omega)]; simp
theorem a9s (hc:X.calm=true):J5 X (.builtin "sum") (λ vs H Q=>∃ (a:aA) (ns:List Int),vs=[.ref a]/\SqA X.K H a (ns.map V.int)/\Q (.int ns.sum) H):=by
 intro pins s σ H vs us Q I r h;obtain ⟨a,ns,rfl,hs,q⟩:=h;obtain ⟨u,rfl,ru⟩:=P7 r
 cases ru;obtain ⟨its,rv,walk⟩:=Y7 hc I hs;have hlen:its.toArray.size=ns.length:=by rw [cG,<- rv.length,aH]
 refine call_sum_walkG (walk _ _ λ o St W st fp=>?_);refine ⟨_,_,_,_,_,_,λ i=>ns.getD i 0,rfl,W,st,fp,a0K rv,λ h' tk t' hk=>?_⟩;rw [hlen,a1B,gF (aU _)];exact ⟨.int _,H,I.kept (a0U hk),⟨_,rfl⟩,q⟩
theorem a2V {l:List Int} {j:Nat} (h:j<l.length):l.getD j 0∈l:=by
 rw [aZ,aV h]; exact fB h
theorem a3q {l:List Int} {a:Int} (h:a∈l):∃ j,j<l.length/\l.getD j 0=a:=by
 obtain ⟨j,hj,e⟩:=pW h;exact ⟨j,hj,by rw [aZ,aV hj]; exact e⟩
theorem a1o (hc:X.calm=true):J5 X (.builtin "max") (λ vs H Q=>∃ (a:aA) (ns:List Int),vs=[.ref a]/\SqA X.K H a (ns.map V.int)/\ns≠[]/\∀ M,M∈ns->(∀ n∈ns,n<=M)->Q (.int M) H):=by
 intro pins s σ H vs us Q I r h;obtain ⟨a,ns,rfl,hs,hne,q⟩:=h;obtain ⟨u,rfl,ru⟩:=P7 r
 cases ru;obtain ⟨its,rv,walk⟩:=Y7 hc I hs;have hlen:its.toArray.size=ns.length:=by rw [cG,<- rv.length,aH]
 have hpos:0<ns.length:=pY.mpr hne;refine call_max_walk (walk _ _ λ o St W st fp=>?_);refine ⟨_,_,_,_,_,_,_,rfl,W,st,fp,by rw [hlen]; exact hpos,CmpOf.ints_gt (λ i=>ns.getD i 0) (a0K rv),λ v h' tk hP hk=>?_⟩;obtain ⟨h1,h2⟩:=argBest_gt (λ i=>ns.getD i 0) (its.toArray.size - 1);obtain ⟨t,rfl⟩:=a0K rv _ v hP;refine ⟨.int _,H,I.kept (a0U hk),⟨_,rfl⟩,q _ (a2V (by omega)) λ n hn=>?_⟩;obtain ⟨j,hj,rfl⟩:=a3q hn;exact h2 j (by omega)
theorem a8e (hc:X.calm=true):J5 X (.builtin "min") (λ vs H Q=>∃ (a:aA) (ns:List Int),vs=[.ref a]/\SqA X.K H a (ns.map V.int)/\ns≠[]/\∀ M,M∈ns->(∀ n∈ns,M<=n)->Q (.int M) H):=by
 intro pins s σ H vs us Q I r h;obtain ⟨a,ns,rfl,hs,hne,q⟩:=h;obtain ⟨u,rfl,ru⟩:=P7 r
 cases ru;obtain ⟨its,rv,walk⟩:=Y7 hc I hs;have hlen:its.toArray.size=ns.length:=by rw [cG,<- rv.length,aH]
 have hpos:0<ns.length:=pY.mpr hne;refine call_min_walk (walk _ _ λ o St W st fp=>?_);refine ⟨_,_,_,_,_,_,_,rfl,W,st,fp,by rw [hlen]; exact hpos,tW (λ i=>ns.getD i 0) (a0K rv),λ v h' tk hP hk=>?_⟩;obtain ⟨h1,h2⟩:=argBest_lt (λ i=>ns.getD i 0) (its.toArray.size - 1);obtain ⟨t,rfl⟩:=a0K rv _ v hP;refine ⟨.int _,H,I.kept (a0U hk),⟨_,rfl⟩,q _ (a2V (by omega)) λ n hn=>?_⟩;obtain ⟨j,hj,rfl⟩:=a3q hn;exact h2 j (by omega)
theorem a1I:J5 X (.builtin "isinstance") (λ vs H Q=>∃ x t n b,vs=[x,.ty n]/\a1u X.K H x t/\bV X.K t (.type n)=some b/\Q (.bl b) H):=by
 intro pins s σ H vs us Q I r h;obtain ⟨x,t,n,b,rfl,ty,e,q⟩:=h;obtain ⟨u,v,rfl,ru,rv⟩:=a2p r
 cases rv;exact a8f I ru ty e λ tk=>⟨.bl b,H,I.tok _,rfl,q⟩
end
mutual
inductive Dp (K:aE) (H:Hp):V->eL->Prop
 | non:Dp K H .non .none
 | bl (b:Bool):Dp K H (.bl b) (.bool b)
 | int (i:Int):Dp K H (.int i) (.int i)
 | str (x:Str):Dp K H (.str x) (.str x)
 | lst {a:aA} {xs:List V} {ds:List eL}:SqL K H a xs->Dps K H xs ds->Dp K H (.ref a) (.list ds)
 | tup {a:aA} {xs:List V} {ds:List eL}:SqT K H a xs->Dps K H xs ds->Dp K H (.ref a) (.tuple ds)
inductive Dps (K:aE) (H:Hp):List V->List eL->Prop
 | nil:Dps K H [] []
 | cons {x:V} {xs:List V} {d:eL} {ds:List eL}:Dp K H x d->Dps K H xs ds->Dps K H (x::xs) (d::ds)
end
theorem Same.tseq {K:aE} {H H':Hp} {a:aA} {xs:List V} (e:Same H H') (h:SqT K H a xs):SqT K H' a xs:=by
 rcases h with (h | ⟨o,h⟩) | h
 ·exact .inl (.inl (e _ _ h))
 ·exact .inl (.inr ⟨o,e _ _ h⟩)
 ·exact .inr h
mutual
theorem Dp.same {K:aE} {H H':Hp} (e:Same H H'):∀ {x:V} {d:eL},Dp K H x d->Dp K H' x d
 | _,_,.non=>.non
 | _,_,.bl b=>.bl b
 | _,_,.int i=>.int i
 | _,_,.str x=>.str x
 | _,_,.lst h r=>.lst (e.seq h) (Dps.same e r)
 | _,_,.tup h r=>.tup (e.tseq h) (Dps.same e r)
theorem Dps.same {K:aE} {H H':Hp} (e:Same H H'):∀ {xs:List V} {ds:List eL},Dps K H xs ds->Dps K H' xs ds
 | _,_,.nil=>.nil
 | _,_,.cons a r=>.cons (Dp.same e a) (Dps.same e r)
end
section
variable {X:Cx} {pins:List (aA×Obj)} {σ:St} {H:Hp} {s:aD}
mutual
theorem Dp.reads (I:Inv X pins σ H s):∀ {x:V} {d:eL},Dp X.K H x d->∀ {u:aC},RelV x u->∃ as,Reads s.heap u d as
 | _,_,.non,u,r=>by cases r; exact ⟨_,.none⟩
 | _,_,.bl b,u,r=>by cases r; exact ⟨_,.bool b⟩
 | _,_,.int i,u,r=>by obtain ⟨t,rfl⟩:=r; exact ⟨_,.int i t⟩
 | _,_,.str x,u,r=>by obtain ⟨t,rfl⟩:=r; exact ⟨_,.str x t⟩
 | _,_,.lst h q,u,r=>by
  cases r;obtain ⟨its,rv,p,hz⟩:=I.list h;obtain ⟨o,e1,e2,n,e3⟩:=p.isList;obtain ⟨as,ra⟩:=Dps.reads I q rv;exact ⟨_,.list e1 e2 e3 (by simpa using ra)⟩
 | _,_,.tup h q,u,r=>by
  cases r;obtain ⟨its,rv,p,hz⟩:=I.tuple h;obtain ⟨o,e1,e2,n,e3⟩:=(show s.heap.IsTuple _ its.toArray from p);obtain ⟨as,ra⟩:=Dps.reads I q rv;exact ⟨_,.tuple e1 e2 e3 (by simpa using ra)⟩
theorem Dps.reads (I:Inv X pins σ H s):∀ {xs:List V} {ds:List eL},Dps X.K H xs ds->∀ {us:List aC},Vals xs us->∃ as,ReadsAll s.heap us ds as
 | _,_,.nil,us,r=>by cases r; exact ⟨_,.nil⟩
 | _,_,.cons a q,us,r=>by
  cases r with
  | cons r1 r2 =>
   obtain ⟨as,h1⟩:=Dp.reads I a r1;obtain ⟨bs,h2⟩:=Dps.reads I q r2;exact ⟨_,.cons h1 h2⟩
end
end
section
variable {X:Cx}
def b6w (K:aE):R2:=λ x y H Q=>∃ d e,Dp K H x d/\Dp K H y e/\d.canLay0=true/\e.canLay0=true/\min d.depth e.depth<=60/\Q (.bl (dZ d e)) H
def b5b (K:aE):R2:=λ x y H Q=>∃ d e,Dp K H x d/\Dp K H y e/\d.canLay0=true/\e.canLay0=true/\min d.depth e.depth<=60/\Q (.bl (!PyData.eqv d e)) H
theorem a3L {k:Nat} (hr:Room k X.A):Z9 X (compareOp .Eq) (b6w X.K):=by
 intro pins s σ H x y v u Q I rx ry h;obtain ⟨d,e,h1,h2,c1,c2,hd,q⟩:=h;obtain ⟨as,r1⟩:=h1.reads I rx;obtain ⟨bs,r2⟩:=h2.reads I ry;exact SeqAt.compareEq_reads r1 r2 c1 c2 (by have:=hr.units; omega) ⟨.bl _,H,I,rfl,q⟩
theorem a2B {k:Nat} (hr:Room k X.A):Z9 X (compareOp .NotEq) (b5b X.K):=by
 intro pins s σ H x y v u Q I rx ry h;obtain ⟨d,e,h1,h2,c1,c2,hd,q⟩:=h;obtain ⟨as,r1⟩:=h1.reads I rx;obtain ⟨bs,r2⟩:=h2.reads I ry;exact SeqAt.compareNe_reads r1 r2 c1 c2 (by have:=hr.units; omega) ⟨.bl _,H,I,rfl,q⟩
end
theorem Same.new {H:Hp} {p:aA} (h:H p=none) (o:HO):Same H (upd H p o):=λ b u q=>by rw [i7 (i9 q h)]; exact q
theorem Wk.set {n:Nat} {fr:List Nat} {σ:St} {i:Nat} {v:V} (hi:i<n):Wk (blkσ n fr σ) ((blkσ n fr σ).set i (some v)):=by
 refine ⟨by simp,λ j w e=>?_⟩
 by_cases hj:j=i
 ·subst hj
  unfold blkσ at e;rw [dB (by simpa using hi),fU] at e
  split at e <;> cases e
 ·rw [bY (bI hj)]; exact e
structure a7x (J:It) (H1:Hp) (xs:List V):Prop where
 go:∀ i H,Same H1 H->i<xs.length->J.go i H
 yld:∀ i H x H',Same H1 H->i<xs.length->J.yld i H x H'->H'=H/\xs[i]?=some x
 stop:∀ H,Same H1 H->J.stop xs.length H
theorem D8 {K:aE} {a:aA} {xs:List V} {H1:Hp} (h:SqL K H1 a xs):a7x (Itl K a) H1 xs :=
 ⟨λ i H e hi=>⟨xs,xs[i],e.seq h,aV hi⟩,λ i H x H' e hi y=>⟨y.1,y.2 xs (e.seq h)⟩,λ H e=>⟨xs,e.seq h,aU _⟩⟩
theorem Y4 {K:aE} {a:aA} {xs:List V} {H1:Hp} (h:SqT K H1 a xs):a7x (Itt K a) H1 xs :=
 ⟨λ i H e hi=>⟨xs,xs[i],e.tseq h,aV hi⟩,λ i H x H' e hi y=>⟨y.1,y.2 xs (e.tseq h)⟩,λ H e=>⟨xs,e.tseq h,aU _⟩⟩
theorem a2D {lo:Int} {n:Nat} {H1:Hp}:a7x (Itr lo n) H1 ((aR n).map λ (i:Nat)=>V.int (lo+(i:Int))) :=
 ⟨λ i H e hi=>(show i<n from by simpa using hi),λ i H x H' e hi y=>⟨y.1,by rw [y.2,aQ,bZ (by simpa using hi)]; rfl⟩,λ H e=>by simp [Itr]⟩
theorem aS.app {α β:Type} {F:α->β->Prop}:∀ {a c:List α} {b d:List β},aS F a b->aS F c d->aS F (a++c) (b++d)
 | _,_,_,_,.nil,s=>s
 | _,_,_,_,.cons r t,s=>.cons r (aS.app t s)
section
variable {xs:List V} {J:It} {n:Nat} {fr:List Nat} {g:TG} {te:TE} {σ:St} {H1:Hp} {p:aA} {D:Hp->Prop}
theorem T8 (hJ:a7x J H1 xs) (hp:H1 p=none) (hz:xs.length<sizeLine) (F:V->V)
  (step:∀ (i:Nat) x H (N:VK),xs[i]?=some x->Same H1 H->N (F x) H->g x (blkσ n fr σ) H λ σ2 H2=>Wk (blkσ n fr σ) σ2/\te σ2 H2 N)
  (hd:D (upd H1 p (.lst (xs.map F)))):lcW n fr g te σ J H1 p D:=by
 refine ⟨λ i m ys H=>m=xs.length - i/\i<=xs.length/\ys=(xs.take i).map F/\H=upd H1 p (.lst ys),⟨xs.length,by simp,dA _,by simp,rfl⟩,?_⟩;rintro i m ys H ⟨rfl,hi,rfl,rfl⟩;have e:=Same.new (o:=.lst ((xs.take i).map F)) hp
 by_cases hlt:i<xs.length
 ·refine .inr ⟨hJ.go i _ e hlt,λ x H' y=>?_⟩
  obtain ⟨rfl,hx⟩:=hJ.yld i _ x H' e hlt y;refine step i x _ _ hx e ⟨upd_same,by rw [aH,cU]; omega,xs.length - (i+1),by omega,rfl,hlt,?_,W2⟩;rw [lP,hx,cV]; rfl
 ·have:i=xs.length:=by omega
  subst this;refine .inl ⟨hJ.stop _ e,?_⟩;rw [gF (aU _)]; exact hd
theorem V7 (hJ:a7x J H1 xs) (hp:H1 p=none) (hz:xs.length<sizeLine) (R:Nat->V->Hp->Prop) (hR:∀ i y H H',R i y H->(∀ b o,b≠p->H b=some o->H' b=some o)->R i y H')
  (step:∀ (i:Nat) x H ys (N:VK),xs[i]?=some x->Same H1 H->H p=some (.lst ys)->(∀ v H3,Same H H3->R i v H3->N v H3)->g x (blkσ n fr σ) H λ σ2 H2=>Wk (blkσ n fr σ) σ2/\te σ2 H2 N)
  (hd:∀ ys H,Same H1 H->H p=some (.lst ys)->ys.length=xs.length->(∀ i y,ys[i]?=some y->R i y H)->D H):lcW n fr g te σ J H1 p D:=by
 refine ⟨λ i m ys H=>m=xs.length - i/\i<=xs.length/\Same H1 H/\H p=some (.lst ys)/\ys.length=i/\∀ j y,ys[j]?=some y->R j y H,⟨xs.length,by simp,dA _,Same.new hp _,upd_same,rfl,λ j y e=>by simp at e⟩,?_⟩;rintro i m ys H ⟨rfl,hi,e,hH,len,pr⟩
 by_cases hlt:i<xs.length
 ·refine .inr ⟨hJ.go i _ e hlt,λ x H' y=>?_⟩
  obtain ⟨rfl,hx⟩:=hJ.yld i _ x H' e hlt y;refine step i x _ ys _ hx e hH λ v H3 s3 r3=>⟨s3 _ _ hH,by omega,xs.length - (i+1),by omega,rfl,hlt,λ b o q=>?_,upd_same,by rw [bF,len]; rfl,λ j y ey=>?_⟩
  ·rw [i7 (i9 q hp)]; exact s3 _ _ (e _ _ q)
  ·have up:∀ b o,b≠p->H3 b=some o->upd H3 p (.lst (ys++[v])) b=some o:=λ b o hb q=>by rw [i7 hb]; exact q
   by_cases hj:j<ys.length
   ·rw [dB hj] at ey
    exact hR j y _ _ (pr j y ey) λ b o hb q=>up b o hb (s3 _ _ q)
   ·rw [dP (by omega)] at ey
    have hj':j - ys.length=0:=by
     cases q:j - ys.length with
     | zero=>rfl
     | succ k=>rw [q] at ey; simp at ey
    rw [hj'] at ey;have:j=i:=by omega
    subst this;simp at ey;subst ey;exact hR j v _ _ r3 up
 ·have:i=xs.length:=by omega
  subst this;exact .inl ⟨hJ.stop _ e,hd ys H e hH len pr⟩
end
theorem Inv.turnedLaid {X:Cx} {pins:List (aA×Obj)} {σ:St} {H:Hp} {s:aD} {h':aG} {fp:List aA} {T:aA} {xs:List V} {its:List aC} (I:Inv X pins σ H s) (hf:∀ b∈fp,T3 X pins H b)
  (k:∀ b o,b ∉ fp->s.heap.get? b=some o->h'.get? b=some o) (ho:∀ b∈fp,∃ o,h'.get? b=some o) (hT:s.heap.objs.size<=T) (hz:xs.length<=sizeLine) (hv:Vals xs its) (ht:fT h' T its.toArray) :
  Inv X pins σ (upd H T (.tup xs)) { s with heap:=h' }:=by
 have hTn:H T=none:=I.hok.fresh hT;have neT:∀ b o,s.heap.get? b=some o->b≠T:=λ b o e=>cF (bM (bC e) hT);refine I.step (g':=s.gens) (t':=s.toks) (d':=s.drawn) (ch:=fp) (λ b hb=>⟨(hf b hb).2.2.2.1,(hf b hb).2.1,(hf b hb).2.2.2.2.1,(hf b hb).2.2.2.2.2⟩) (λ b o _ _ hc e _=>k b o hc e) (λ b o _ _ hc e _=>⟨o.slots,k b o hc e⟩)
  (λ b o hc e n=>by rw [i7 (neT b o e)]; exact n) (λ b o hc e=>⟨o,k b o hc e⟩) (λ b ys e=>by rw [i7 (i9 e hTn)]; exact e) (λ b o u e=>by rw [i7 (i9 e hTn)]; exact e) (λ b ps e=>⟨#[],by rw [i7 (i9 e hTn),e]; simp⟩)
  (λ m hm=>?_) (λ b u e=>?_) I.bare
 ·obtain ⟨o,es,ep,e1,r⟩:=hm
  exact ⟨o,es,ep,k _ o (λ z=>(hf _ z).2.1 rfl) e1,r⟩
 ·by_cases hb:b=T
  ·subst hb; rw [upd_same] at e; cases e
   exact ⟨hz,its,hv,ht⟩
  ·rw [i7 hb] at e
   have nit:∀ c u,H c=some u->c ∉ fp:=λ c u q z=>by rw [(hf c z).1] at q; cases q
   refine (I.hok b u e).stay (λ c v hc q=>k c v ?_ q) (λ c q=>by rw [i7 (i9 q hTn)]; exact q) λ c ys q=>by rw [i7 (i9 q hTn)]; exact q
   rcases hc with z | z
   ·rw [z]; exact nit b u e
   ·exact nit c _ z
theorem Inv.turnedAll {X:Cx} {pins:List (aA×Obj)} {σ:St} {H:Hp} {s:aD} {h':aG} {fp:List aA} (I:Inv X pins σ H s) (hf:∀ b∈fp,T3 X pins H b)
  (k:∀ b o,b ∉ fp->s.heap.get? b=some o->h'.get? b=some o):Inv X pins σ H { s with heap:=h' }:=by
 refine I.step (g':=s.gens) (t':=s.toks) (d':=s.drawn) (ch:=fp) (λ b hb=>⟨(hf b hb).2.2.2.1,(hf b hb).2.1,(hf b hb).2.2.2.2.1,(hf b hb).2.2.2.2.2⟩) (λ b o _ _ hc e _=>k b o hc e) (λ b o _ _ hc e _=>⟨o.slots,k b o hc e⟩)
  (λ b o hc e n=>n) (λ b o hc e=>⟨o,k b o hc e⟩) (λ b ys e=>e) (λ b o u e=>e) (λ b ps e=>⟨#[],by rw [e]; simp⟩)
  (λ m hm=>?_) (λ b u e=>?_) I.bare
 ·obtain ⟨o,es,ep,e1,r⟩:=hm
  exact ⟨o,es,ep,k _ o (λ z=>(hf _ z).2.1 rfl) e1,r⟩
 ·have nit:∀ c u,H c=some u->c ∉ fp:=λ c u q z=>by rw [(hf c z).1] at q; cases q
  refine (I.hok b u e).stay (λ c v hc q=>k c v ?_ q) (λ c q=>q) λ c ys q=>q;rcases hc with z | z
  ·rw [z]; exact nit b u e
  ·exact nit c _ z
theorem a9r (n l1 l2:Nat) (h1:l1<n) (h2:l2<n):fD (n+4) (n+2) (n+3) n (n+1) l1 l2 where
 TIz:=(by omega:(n+2:Nat)≠n+4)
 TOz:=(by omega:(n+3:Nat)≠n+4)
 i1z:=(by omega:(n:Nat)≠n+4)
 i2z:=(by omega:(n+1:Nat)≠n+4)
 TITO:=(by omega:(n+2:Nat)≠n+3)
 TIi1:=(by omega:(n+2:Nat)≠n)
 TIi2:=(by omega:(n+2:Nat)≠n+1)
 TOi1:=(by omega:(n+3:Nat)≠n)
 TOi2:=(by omega:(n+3:Nat)≠n+1)
 i12:=(by omega:(n:Nat)≠n+1)
 l1z:=(by omega:(l1:Nat)≠n+4)
 l1TO:=(by omega:(l1:Nat)≠n+3)
 l1i1:=(by omega:(l1:Nat)≠n)
 l1i2:=(by omega:(l1:Nat)≠n+1)
 l2z:=(by omega:(l2:Nat)≠n+4)
 l2TO:=(by omega:(l2:Nat)≠n+3)
 l2i1:=(by omega:(l2:Nat)≠n)
 l2i2:=(by omega:(l2:Nat)≠n+1)
section
variable {X:Cx}
def b5h (i j:Int):Prop:=0<j/\j<2 ^ 8000
theorem log2_lt {y:Nat} (h:y<2 ^ 8000):y.log2<9000:=by
 by_cases h0:y=0
 ·subst h0; decide
 ·exact bM ((pZ h0).mpr h) (by decide)
theorem a2P:Z9 X (binaryOp .FloorDiv) (rI b5h λ i j=>.int (i / j)):=opI λ i j _ _ _ _ _ hc q=>by
 have h0:j≠0:=by have:=hc.1; omega
 have e:i.fdiv j=i / j:=rY i (bR hc.1);refine rX h0 (by rw [e]; exact q) (.inl (PyProof.noPylong_of_log2 (log2_lt ?_)));have:=hc.1;have:=hc.2;omega
def Big (n:Nat) (i:Int):Prop:=i.natAbs<2 ^ n
def b4p (i j:Int):Prop:=Big 1000000 i/\Big 1000000 j
theorem a7l {i:Int} (h:Big 1000000 i):tX i<=2 ^ 20:=by
 unfold tX
 split
 ·exact dA _
 ·rename_i h0
  have h0':i.natAbs≠0:=by
   intro z;exact h0 (by rw [Int.natAbs_eq_zero.mp z]; rfl)
  have:=(pZ h0').mpr h;omega
theorem N9:Z9 X (binaryOp .Mult) (rI b4p λ i j=>.int (i*j)):=opI λ _ _ _ _ _ _ _ hc q=>mul_int q (IntMulOk.of_bits (a7l hc.1) (a7l hc.2))
end
theorem Same.write {H H':Hp} {p:aA} {o:HO} (e:Same H H') (hp:H p=none):Same H (upd H' p o):=λ b u q=>by rw [i7 (i9 q hp)]; exact e b u q
section
variable {xs:List V} {J:It} {fr:List Nat} {tc:TT} {σ:St} {H1:Hp} {p:aA} {D:Hp->Prop}
end
end L2
namespace L2
open PySem PySem.W
theorem X5:typeOf (.builtin "object.__class__")=pure (.type "getset_descriptor"):=by kernel_rfl
theorem a4c:(".".intercalate ("object.__class__".cutAt '.').dropLast)="object":=by
 have e0:"object.__class__".cutAt '.'=["object","__class__"]:=by decide +kernel
 rw [e0];decide +kernel
section
variable {prog:aL} {w:aI} {A:aY} {E:aC->aD->Prop} {s:aD} {K:eU} {x C D:aA} {ox:Obj}
theorem a8C {R:iG->aD->Prop} (X:K.In s.heap) (hx:s.heap.get? x=some ox) (hc:ox.cls=.ref D) (hm:gG K D (.type "object")=some true) (hq:R (.ok (.ret (.ref D))) s) :
  codeAny (model prog w) A (.call (.builtin "getset_descriptor.__get__") ⟨[.builtin "object.__class__",.ref x,.ref D],[]⟩) R s:=by
 obtain ⟨h,g,d,t,os⟩:=s;have L1:=nF (M:=model prog w) X hm;have hT5:(⟨h,g,d,t,os⟩:aD).TypeIs (.builtin "object.__class__") "getset_descriptor":=X5;refine tY qA.plain F.entry_gs_get (qA.check _ _ _ _ _ _ _ _ hT5 (F.args_gs_get _ _ _) ?_)
 repeat (any_goals (first | assumption | (with_reducible refine jI hx ?_; rw [hc]) | with_reducible refine L1.at ?_ | wp_step))
 rw [a4c];refine L1.at ?_
 repeat (any_goals (first | assumption | wp_step))
 refine ⟨Code.quiet_builtin _ (by decide +kernel),qB KF.entry_class ?_⟩;unfold gH.«object.__class__»
 repeat (any_goals (first | assumption | (with_reducible refine jI hx ?_; rw [hc]) | wp_step))
theorem a7D {tk:Tok} {Q:lQ->aD->Prop} (X:K.In s.heap) (hx:s.heap.get? x=some ox) (hc:ox.cls=.ref D) (ha:iN K (.ref D) "__class__"=some (some (.builtin "object.__class__")))
  (hm:gG K D (.type "object")=some true)
  (hq:Q (.done (.ret (.ref D))) s) :
  wpAny (model prog w) A (gH.«object.__getattribute__» ⟨[.ref x,.str "__class__" tk],[]⟩) Q E s:=by
 obtain ⟨h,g,d,t,os⟩:=s;have L1:=qC (M:=model prog w) X ha;have hT5:(⟨h,g,d,t,os⟩:aD).TypeIs (.builtin "object.__class__") "getset_descriptor":=X5;have f5:=X5;have f6:=qA.lookup;have f7:=F.slot_gs_set.lookup;unfold gH.«object.__getattribute__»
 repeat (any_goals (first | assumption | (with_reducible refine jI hx ?_; rw [hc]) | with_reducible refine L1.at ?_ | wp_step))
 refine a8C X hx hc hm ?_
 repeat (any_goals (first | assumption | wp_step))
theorem a7t {nv:aC} {Q:Unit->aD->Prop} (X:K.In s.heap) (hx:s.heap.get? x=some ox) (hc:ox.cls=.ref D) (hb:gG K D (.type "BaseException")=some true) (hq:Q () s) :
  wpAny (model prog w) A (checkBuiltinCall "BaseException.__getattribute__" ⟨[.ref x,nv],[]⟩) Q E s:=by
 have hk:builtinKind "BaseException.__getattribute__"=some .slot:=by decide +kernel
 have hsplit:splitId "BaseException.__getattribute__"=some ("BaseException","__getattribute__"):=by decide +kernel
 have ag:=F.args_bexc_ga (.ref x) nv;obtain ⟨h,g,d,t,os⟩:=s;have L1:=nF (M:=model prog w) X hb;simp only [checkBuiltinCall,hk,hsplit];refine aF ?_;unfold isInstance
 repeat (first | (with_reducible refine jI hx ?_; rw [hc]) | with_reducible refine L1.at ?_ | wp_step)
 exact hq
theorem a9W {tk:Tok} {R:iG->aD->Prop} (X:K.In s.heap) (hx:s.heap.get? x=some ox) (hc:ox.cls=.ref D) (ha:iN K (.ref D) "__class__"=some (some (.builtin "object.__class__")))
  (hm:gG K D (.type "object")=some true) (hb:gG K D (.type "BaseException")=some true) (hq:R (.ok (.ret (.ref D))) s) :
  codeAny (model prog w) A (.call (.builtin "BaseException.__getattribute__") ⟨[.ref x,.str "__class__" tk],[]⟩) R s :=
 tY tZ.ga.plain F.entry_bexc_ga (a7t X hx hc hb (a7D X hx hc ha hm hq))
theorem a7V {Q:Option aC->aD->Prop} (X:K.In s.heap) (hx:s.heap.get? x=some ox) (hc:ox.cls=.ref D) (hga:iN K (.ref D) "__getattribute__"=some (some (.builtin "BaseException.__getattribute__")))
  (hgn:iN K (.ref D) "__getattr__"=some none) (ha:iN K (.ref D) "__class__"=some (some (.builtin "object.__class__")))
  (hm:gG K D (.type "object")=some true) (hb:gG K D (.type "BaseException")=some true) (hq:Q (some (.ref D)) { s with toks:=s.toks+1 }) :
  wpAny (model prog w) A (getAttr? (.ref x) "__class__") Q E s:=by
 obtain ⟨h,g,d,t,os⟩:=s;have L1:=qC (M:=model prog w) X hga;have L2:=qC (M:=model prog w) X hgn;have f3:=tZ.ga.bind (.ref x);have hx2:(lR "BaseException.__getattribute__"==lR "object.__getattribute__")=false:=by decide +kernel
 have hx1:(onTheHeap (cY D)&&lR "BaseException.__getattribute__"==lR "object.__getattribute__")=false:=by rw [hx2]; rfl
 have hx0:(false&&onTheHeap (lR "BaseException.__getattribute__"))=false:=rfl;unfold getAttr?
 repeat (any_goals (first | assumption | (with_reducible refine jI hx ?_; rw [hc]) | with_reducible refine L1.at ?_ | with_reducible refine L2.at ?_ | wp_step))
 refine a9W X hx hc ha hm hb ?_
 repeat (any_goals (first | assumption | wp_step))
end
structure S4 (K:eU) (D:aA):Prop where
 ob:∃ nm q N bs bm hdct sn sub ab col dd k0 k1 k2 k3 k5,K.lookup D=some (excClassObj nm q D N bs bm hdct sn sub ab col dd k0 k1 k2 k3 k5 "ValueError.__new__")/\nsOkIn K N=true/\nsIn K N "__init__"=some none ∧
  tailIn K [.type "ValueError",.type "Exception",.type "BaseException",.type "object"] bm=true
 ga:iN K (.ref D) "__getattribute__"=some (some (.builtin "BaseException.__getattribute__"))
 gn:iN K (.ref D) "__getattr__"=some none
 ca:iN K (.ref D) "__class__"=some (some (.builtin "object.__class__"))
 mo:gG K D (.type "object")=some true
 mb:gG K D (.type "BaseException")=some true
def a6k (ea D:aA) (h:aG):Prop:=∃ o,h.get? ea=some o/\o.cls=.ref D
theorem a9B {K:eU} {D ea:aA} (k:S4 K D):KitX K (.ref ea) (.ref D) (a6k ea D) where
 ty:=λ M h X p=>by
  obtain ⟨o,h1,h2⟩:=p;exact h2 ▸ (Looks.ld h1).andThen .now
 it:=λ M h X p=>by
  obtain ⟨_,_,_,_,_,_,_,_,_,_,_,_,_,_,_,_,lk,_⟩:=k.ob;intro A' Q' E' s' kk q;unfold isType loadHead;exact aF (sA (kk _ _ (X _ _ lk)) (aT q))
 ne:=λ h tp dd its n sl X htp=>eW.mpr λ q=>by
  obtain ⟨_,_,_,_,_,_,_,_,_,_,_,_,_,_,_,_,lk,_⟩:=k.ob;have e:D=tp:=qD (beq_iff_eq.mp q);subst e;have z:=(X _ _ lk).symm.trans htp;exact absurd (yH (congrArg Obj.cls (bG z))) (by decide)
 ca:=λ {prog w A E Q s} X p kk=>by
  obtain ⟨o,h1,h2⟩:=p;exact a7V X h1 h2 k.ga k.gn k.ca k.mo k.mb kk
def a8c (ea D:aA):HO:=.ext (a6k ea D)
theorem b1h {P:aL} {w:aI} {H:Hp} {h:aG} {ea D:aA} (e:a6k ea D h):ObjOk P w H h ea (a8c ea D) :=
 ⟨e,let ⟨o,h1,_⟩:=e; ⟨o,h1⟩,λ h1 h2 ⟨o,a,b⟩ k=>⟨o,k o a,b⟩⟩
theorem D9 {X:Cx}:J5 X (.builtin "isinstance") (λ vs H Q=>∃ (ea D:aA) (c:V) (b:Bool),vs=[.ref ea,c]/\H ea=some (a8c ea D)/\S4 X.K D/\(∀ u,RelV c u->kitOne X.K (.ref D) u=some b)/\Q (.bl b) H):=by
 intro pins s σ H vs us Q I r h;obtain ⟨ea,D,c,b,rfl,he,k,e,q⟩:=h;obtain ⟨u,v,rfl,ru,rv⟩:=a2p r
 cases (show u=cY ea from ru);have ho:ObjOk X.prog X.w H s.heap ea (a8c ea D):=I.hok ea _ he;exact kia_one (a9B k) I.kIn ho.1 (e v rv) (λ z=>nomatch z) λ tk=>⟨.bl b,H,I.tok _,rfl,q⟩
theorem a8l {prog:aL} {w:aI} {A:aY} {E:aC->aD->Prop} {s:aD} {K:eU} {ea D R:aA} {oe:Obj} {Q:Bool->aD->Prop} (X:K.In s.heap) (hx:s.heap.get? ea=some oe) (hc:oe.cls=.ref D)
  (hs:gG K D (.ref R)=some true) (kR:S4 K R) (hq:Q true s):wpAny (model prog w) A (excMatches (.ref ea) (.ref R)) Q E s:=by
 obtain ⟨h,g,d,t,os⟩:=s;obtain ⟨_,_,_,_,_,_,_,_,_,_,_,_,_,_,_,_,lk,_⟩:=kR.ob;have hR:=X _ _ lk;have L1:=nF (M:=model prog w) X hs;have L2:=nF (M:=model prog w) X kR.mb;have f:=tc_notTuple;unfold excMatches
 repeat (first | with_reducible refine L1.at ?_ | with_reducible refine L2.at ?_ | (with_reducible refine jI hx ?_; rw [hc]) | with_reducible refine jI hR ?_ | wp_step)
 exact hq
end L2
namespace L2
open PySem PySem.Spec PyProof.Rows
theorem ObjOk.got {P:aL} {w:aI} {H:Hp} {h:aG} {a:aA} {o:HO} (x:ObjOk P w H h a o):∃ ob,h.get? a=some ob:=by
 cases o with
 | lst xs=>obtain ⟨_,_,_,_,e⟩:=x; exact ⟨_,e⟩
 | tup xs=>obtain ⟨_,_,_,ob,e,_⟩:=x; exact ⟨ob,e⟩
 | dK kvs=>obtain ⟨_,_,_,_,ob,_,_,e,_⟩:=x; exact ⟨ob,e⟩
 | dT kvs=>obtain ⟨_,_,_,_,ob,_,_,e,_⟩:=x; exact ⟨ob,e⟩
 | set S n=>obtain ⟨ob,_,_,_,e,_⟩:=x; exact ⟨ob,e⟩
 | ins C dx fs=>obtain ⟨_,_,_,e,_⟩:=x; exact ⟨_,e⟩
 | own y=>exact x
 | xd fs=>obtain ⟨_,⟨ob,_,_,e,_⟩,_⟩:=x; exact ⟨ob,e⟩
 | rng lo hi=>obtain ⟨_,_,_,e⟩:=x; exact ⟨_,e⟩
 | frz ob u=>obtain ⟨e,_⟩:=x; exact ⟨_,e⟩
 | tbl ps=>exact ⟨_,(show h.get? a=some _ from x)⟩
 | met f y=>exact ⟨_,(show h.get? a=some _ from x)⟩
 | ext φ=>obtain ⟨_,e,_⟩:=x; exact e
theorem Un.slots {fs ex:List aA} {H0 H':Hp} {h0 h1 h2:aG} (u:Un fs ex H0 H' h0 h1) (hb:∀ b o,h1.get? b=some o->(∃ o0,h0.get? b=some o0)->b ∉ fs->h2.get? b=some o)
  (hf:∀ b∈fs,∀ o,h1.get? b=some o->∃ sl,h2.get? b=some { o with slots:=sl }):Un fs ex H0 H' h0 h2 where
 keep:=λ b o q n hfs hx=>hb b o (u.keep b o q n hfs hx) ⟨o,q⟩ hfs
 slot:=λ b o q n hfs hx=>by
  obtain ⟨sl,e⟩:=u.slot b o q n hfs hx;obtain ⟨sl',e'⟩:=hf b hfs _ e;exact ⟨sl',e'⟩
 free:=u.free
 there:=λ b o q hx=>by
  obtain ⟨o',e⟩:=u.there b o q hx
  by_cases hm:b∈fs
  ·obtain ⟨sl,e'⟩:=hf b hm _ e; exact ⟨_,e'⟩
  ·exact ⟨_,hb b o' e ⟨o,q⟩ hm⟩
 tups:=u.tups
 frzs:=u.frzs
 tbls:=u.tbls
theorem HOk.slots {P:aL} {w:aI} {H:Hp} {h h':aG} (x:HOk P w H h) (k:∀ b u o,H b=some u->h.get? b=some o->h'.get? b=some o):HOk P w H h':=λ a o e =>
 (x a o e).stay (λ b u hb q=>by
  rcases hb with rfl | hb
  ·exact k b o u e q
  ·exact k b _ u hb q) (λ _ q=>q) λ _ _ q=>q
structure Fly (P:aL) (w:aI) (l:List Env) (H:Hp) (s:aD) (ea t D:aA) (B:aG) (H':Hp) (s':aD):Prop where
 os:s'.os=s.os
 bare:gA s'.gens
 un:Un (frs l) [] H H' s.heap s'.heap
 hok:HOk P w H' s'.heap
 fly:uA B l ea (.ref D) (.ref t) s'.heap
 inb:∀ b o,s'.heap.get? b=some o->((∃ o0,s.heap.get? b=some o0)/\b ∉ frs l)\/H' b≠none->B.get? b=some o
def Q7 (P:aL) (w:aI):CXT:=λ l H s E e s'=>∃ (ea t D:aA) (B:aG) (H':Hp),e=.ref ea/\Fly P w l H s ea t D B H' s'/\E (.ref D) none H'
section
variable {P:aL} {w:aI} {l:List Env} {H:Hp} {s s':aD} {ea t D:aA} {B h':aG} {H':Hp}
theorem Fly.slots (F:Fly P w l H s ea t D B H' s') (fl:uA B l ea (.ref D) (.ref t) h') (up:s'.heap.UpToSlots h'):Fly P w l H s ea t D B H' { s' with heap:=h' }:=by
 have st:∀ b o,B.get? b=some o->h'.get? b=some o:=fl.1;refine ⟨F.os,F.bare,F.un.slots (λ b o q z hn=>st b o (F.inb b o q (.inl ⟨z,hn⟩))) (λ b hb o q=>?_),F.hok.slots (λ b u o e q=>st b o (F.inb b o q (.inr (by rw [e]; simp)))),fl,λ b o q z=>?_⟩
 ·obtain ⟨_,o',ho',hd⟩:=F.fly.2.2.1.mem hb
  rw [q] at ho'; cases ho';exact up b o q hd
 ·have:∃ o1,s'.heap.get? b=some o1:=by
   rcases z with ⟨⟨o0,z⟩,_⟩ | z
   ·exact F.un.there b o0 z (by simp)
   ·cases e:H' b with
    | none=>exact absurd e z
    | some u=>exact (F.hok b u e).got
  obtain ⟨o1,q1⟩:=this;have b1:=F.inb b o1 q1 z;have:=st b o1 b1;rw [show h'.get? b=some o from q] at this
  cases this;exact b1
theorem Fly.new (F:Fly P w l H s ea t D B H' s'):s.heap.get? ea=none/\H' ea=none:=by
 obtain ⟨_,hb,hfr,oe,vs,T,oT,ts,he,hc,hd,_⟩:=F.fly;have nb:∀ o,B.get? ea≠some o:=λ o z=>by rw [hb] at z; cases z
 constructor
 ·cases q:s.heap.get? ea with
  | none=>rfl
  | some o0 =>
   refine absurd (F.inb ea oe he (.inl ⟨⟨o0,q⟩,λ hm=>?_⟩)) (nb _);obtain ⟨_,o,ho,hnf⟩:=hfr.mem hm;rw [he] at ho; cases ho;exact hnf vs hd
 ·cases q:H' ea with
  | none=>rfl
  | some u=>exact absurd (F.inb ea oe he (.inr (by rw [q]; simp))) (nb _)
theorem Fly.at (F:Fly P w l H s ea t D B H' s'):a6k ea D s'.heap:=by
 obtain ⟨o,h1,h2⟩:=F.fly.there;exact ⟨o,h1,h2⟩
theorem Fly.inv {X:Cx} {pins:List (aA×Obj)} {σ:St} (I:Inv X pins σ H s) (F:Fly X.prog X.w X.stack H s ea t D B H' s'):Inv X pins σ H' s' :=
 I.call' F.os F.un F.hok F.bare (λ b z=>absurd z (by simp))
theorem Fly.track {X:Cx} {pins:List (aA×Obj)} {σ:St} (I:Inv X pins σ H s) (F:Fly X.prog X.w X.stack H s ea t D B H' s'):Inv X pins σ (upd H' ea (a8c ea D)) s':=by
 obtain ⟨n1,n2⟩:=F.new;have u:=F.un;refine I.call' F.os (ch:=[]) ⟨u.keep,u.slot,λ b o q n hx=>?_,u.there,λ b xs q=>?_,λ b o xs q=>?_,λ b ps q=>?_⟩ (λ a o e=>?_) F.bare (λ b z=>absurd z (by simp))
 ·rw [i7 (λ z=>by rw [z,n1] at q; cases q)]; exact u.free b o q n hx
 ·have:=u.tups b xs q
  rw [i7 (i9 this n2)]; exact this
 ·have:=u.frzs b o xs q
  rw [i7 (i9 this n2)]; exact this
 ·obtain ⟨m,e⟩:=u.tbls b ps q
  exact ⟨m,by rw [i7 (i9 e n2)]; exact e⟩
 ·by_cases ha:a=ea
  ·subst ha; rw [upd_same] at e; cases e
   exact b1h F.at
  ·rw [i7 ha] at e
   exact (F.hok a o e).stay (λ _ _ _ q=>q) (λ c q=>by rw [i7 (i9 q n2)]; exact q) λ c xs q=>by rw [i7 (i9 q n2)]; exact q
end
section
variable {P:aL} {w:aI} {K:aE} {mg:Str->Option aC} {base:aG} {N:List Str} {qual:Str} {scope:bS} {f:aA} {cd:aC} {A:aY} {outer:List Env} {s₀:aD} {H₀:Hp} {E:XK}
theorem a0k {b:aA} {o:Obj} {X:Cx} {pins:List (aA×Obj)} {σ:St} {H:Hp} {s:aD} (I:Inv X pins σ H s) (e:X.s₀.heap.get? b=some o) (hb:b ∉ frs X.outer):b ∉ frs X.stack:=λ z=>by
 rcases bD.mp (I.stkSub b z) with q | q
 ·have:=bM (bC e) I.ok.above
  rw [q] at this;exact cN _ this
 ·exact hb q
theorem B9:P6 (Q7 P w) (M0 (Q7 P w) P w K mg base N qual scope f cd A outer s₀ H₀ E) E:=by
 intro pins σ H s e s' I h;obtain ⟨ea,t,D,B,H',rfl,F,hE⟩:=h;have I':=F.inv I;refine wpAny_leaves_onW I.ok.frames rfl F.fly λ h' fl up=>?_;have st:∀ b o,B.get? b=some o->h'.get? b=some o:=fl.1;have bin:∀ b o,s'.heap.get? b=some o->(∃ o0,s₀.heap.get? b=some o0)->b ∉ frs outer->B.get? b=some o:=λ b o q ⟨o0,z⟩ hn=>by
  obtain ⟨o1,q1⟩:=I.base.there b o0 z (by show b ∉ ([]:List aA); simp);exact F.inb b o q (.inl ⟨⟨o1,q1⟩,a0k I z hn⟩)
 refine ⟨ea,t,D,B,H',rfl,⟨I'.os,F.bare,I'.base.slots (λ b o q z hn=>st b o (bin b o q z hn)) (λ b hb o q=>?_),F.hok.slots (λ b u o e q=>st b o (F.inb b o q (.inr (by rw [e]; simp)))),fl,λ b o q z=>?_⟩,hE⟩
 ·obtain ⟨_,o',ho',hd⟩:=F.fly.2.2.1.2.2.mem hb
  rw [q] at ho'; cases ho';exact up b o q hd
 ·have:∃ o1,s'.heap.get? b=some o1/\B.get? b=some o1:=by
   rcases z with ⟨⟨o0,z⟩,hn⟩ | z
   ·obtain ⟨o1,q1⟩:=I'.base.there b o0 z (by show b ∉ ([]:List aA); simp)
    exact ⟨o1,q1,bin b o1 q1 ⟨o0,z⟩ hn⟩
   ·cases e:H' b with
    | none=>exact absurd e z
    | some u =>
     obtain ⟨o1,q1⟩:=(F.hok b u e).got;exact ⟨o1,q1,F.inb b o1 q1 (.inr z)⟩
  obtain ⟨o1,_,b1⟩:=this;have:=st b o1 b1;rw [show h'.get? b=some o from q] at this
  cases this;exact b1
theorem b5m {pins:List (aA×Obj)} {σ:St} {H:Hp} {s:aD} {h1:aG} {ea D:aA} {vs:List aC} (I:Inv (M0 (Q7 P w) P w K mg base N qual scope f cd A outer s₀ H₀ E) pins σ H s) (hx:Heap.MadeExcOf s.heap h1 ea (.ref D) vs)
  (hE:E (.ref D) none H):(M0 (Q7 P w) P w K mg base N qual scope f cd A outer s₀ H₀ E).xe (.ref ea) { s with heap:=h1 }:=by
 have hin:∀ env∈(dE qual scope s₀.heap.objs.size f cd::outer),∀ b,env.frame=some b->b∈frs (dE qual scope s₀.heap.objs.size f cd::outer):=λ env he b hb=>iF.mpr ⟨env,he,hb⟩;refine wpAny_leaves_madeW (base:=eP s.heap (frs (dE qual scope s₀.heap.objs.size f cd::outer))) (h:=s.heap) I.ok.frames rfl (λ b o q=>oV _ q) (W.funFrames_hide I.stack hin) hx λ h' t fl _ _ up=>?_;have st:∀ b o,s.heap.get? b=some o->b ∉ frs (dE qual scope s₀.heap.objs.size f cd::outer)->h'.get? b=some o:=λ b o q hn=>fl.1 b o (mO _ q hn);have trn:∀ b u,H b=some u->b ∉ frs (dE qual scope s₀.heap.objs.size f cd::outer):=λ b u e z=>by
  have:=I.stkFree b z;rw [e] at this; cases this
 refine ⟨ea,t,D,_,H,rfl,⟨I.os,I.bare,I.base.slots (λ b o q ⟨o0,z⟩ hn=>st b o q (a0k I z hn)) (λ b hb o q=>?_),I.hok.slots (λ b u o e q=>st b o q (trn b u e)),fl,λ b o q z=>?_⟩,hE⟩
 ·obtain ⟨_,o',ho',hd⟩:=I.funs.mem hb
  rw [q] at ho'; cases ho';exact up b o (hx.keeps b o q) hd
 ·have:∃ o1,s.heap.get? b=some o1/\b ∉ frs (dE qual scope s₀.heap.objs.size f cd::outer):=by
   rcases z with ⟨⟨o0,z⟩,hn⟩ | z
   ·obtain ⟨o1,q1⟩:=I.base.there b o0 z (by show b ∉ ([]:List aA); simp)
    exact ⟨o1,q1,a0k I z hn⟩
   ·cases e:H b with
    | none=>exact absurd e z
    | some u =>
     obtain ⟨o1,q1⟩:=(I.hok b u e).got;exact ⟨o1,q1,trn b u e⟩
  obtain ⟨o1,q1,hn⟩:=this;have:=st b o1 q1 hn;rw [show h'.get? b=some o from q] at this
  cases this;exact mO _ q1 hn
end
section
variable {X:Cx} {e:aN} {te:TE} {a:Str} {j:Nat} {p1 p2 p3:Pos}
def tFs (te:TE):TE:=λ σ H Q=>te σ H λ v H1=>∃ i:Int,v=.int i/\i.natAbs.log2<1920/\∀ x,Q (.str x) H1
theorem b0L (he:PE X e te) (ha:a.length<=1000):PE X (.JoinedStr [.Constant (.str a) j p1,.FormattedValue e (-1) none p2] p3) (tFs te):=by
 intro pins s σ H Q I h;refine uB (nJ ?_);refine A7 (C5 pins s σ H (λ v H'=>v=.str a/\H'=H) I ⟨rfl,rfl⟩) λ u s1 ⟨v,H1,I1,r,hv,hH⟩=>?_;subst hv; subst hH;obtain ⟨tk,rfl⟩:=r;have e0:(jU++a).length=a.length:=by rw [nK]; show 0+a.length=a.length; omega
 refine ⟨by rw [e0]; exact cO ha (by decide),nJ (uC ?_)⟩;refine A7 (he pins s1 σ H1 _ I1 h) λ u s2 ⟨v,H2,I2,r,i,hv,hi,q⟩=>?_;subst hv;obtain ⟨tk2,rfl⟩:=r;refine uD hi ?_;have hl:(jU++a++gJ (toString i)).length<=sizeLine:=by
  rw [nK,e0];have h1:=uE (a:=i) (k:=1920) (by decide) hi;rw [uF,jS];omega
 refine ⟨hl,uG ?_ hl⟩;exact ⟨.str _,H2,(I2.tok _).tok _,⟨_,rfl⟩,q _⟩
end
section
variable {P:aL} {w:aI} {K:aE} {mg:Str->Option aC} {base:aG} {N:List Str} {qual:Str} {scope:bS} {f:aA} {cd:aC} {A:aY} {outer:List Env} {s₀:aD} {H₀:Hp} {E:XK}
 {x:Str} {D:aA} {e:aN} {t:TA} {np cpos pos:Pos}
def a9u (t:TA) (D:aA) (E:XK):TS:=λ _ σ H=>t σ H λ vs H1=>vs.length<=1000/\E (.ref D) none H1
theorem Y5 (k:S4 K D) (hg:Gl (M0 (Q7 P w) P w K mg base N qual scope f cd A outer s₀ H₀ E) x) (hm:mg x=some (.ref D)) (hh:A.handled=none)
  (ha:PA (M0 (Q7 P w) P w K mg base N qual scope f cd A outer s₀ H₀ E) [e] t)
  (he:starEach [e] (dE qual scope s₀.heap.objs.size f cd)=[(false,eval e (dE qual scope s₀.heap.objs.size f cd))]:=by rfl) (hdb:(x==("__debug__":Str))=false:=by decide) :
  PS (M0 (Q7 P w) P w K mg base N qual scope f cd A outer s₀ H₀ E) (.Raise (some (.Call (.Name x np) [e] [] cpos)) none pos) (a9u t D E):=by
 intro pins s σ H Dn I h;obtain ⟨nm,q,Na,bs,bm,hdct,sn,sub,ab,col,dd,k0,k1,k2,k3,k5,lk,ok,ni,tl⟩:=k.ob;have tb:∀ h:aG,K.In h->OwnTail h [.type "ValueError",.type "Exception",.type "BaseException",.type "object"] bm:=λ h X=>W.tail_of_in X tl;have nsf:∀ h:aG,K.In h->h.Ns Na (h.nsMap Na)/\h.nsMap Na "__init__"=none:=λ h X=>⟨.of_isNs (W.isNs_of_in X ok),W.nsMap_none_of_in X ok ni⟩;have hN0:=(nsf s.heap I.kIn).1;refine wpAny_Raise_call_subT (C:=D) (nm:=nm) (q:=q) (N:=Na) (bs:=bs) (bm:=bm) (hdct:=hdct) (sn:=sn) (sub:=sub) (ab:=ab) (col:=col) (dd:=dd) (k0:=k0) (k1:=k1) (k2:=k2) (k3:=k3) (k5:=k5) (newId:="ValueError.__new__")
  F.excBase_ValueError (mN:=base.nsMap Na) ((tb base I.mod.kin).hasType (by decide +kernel)) (by show (A.deeper _).handled=none; exact hh) (by rw [show starEach [e] (M0 (Q7 P w) P w K mg base N qual scope f cd A outer s₀ H₀ E).env=_ from he]; rfl)
  (nsf base I.mod.kin).2 (V1 I hg hm ⟨rfl,?_⟩ hdb)
 have h2:=ha cpos pins s σ H _ I h;rw [show starEach [e] (M0 (Q7 P w) P w K mg base N qual scope f cd A outer s₀ H₀ E).env=_ from he] at h2 ⊢;refine tE (cZ h2 (λ us s2 ⟨vs,H2,I2,r,hl,hE⟩=>⟨rfl,by rw [<- r.length]; exact fJ (p6 hl),I2.kIn _ _ lk,(nsf base I.mod.kin).1.keeps I2.bk,tb _ I2.kIn,λ h' ea hx=>b5m I2 hx hE⟩) λ _ _ z=>z)
end
def a4a (CX:CXT) (X:Cx) (EX:St->XK):Prop:=∀ (pins:List (aA×Obj)) (σ:St) (H:Hp) (s:aD) (e:aC) (s':aD),Inv X pins σ H s->CX X.stack H s (EX σ) e s'->X.xe e s'
def b3P (sp:Sp) (EX:St->XK) (t:TA):TE:=λ σ H Q=>t σ H λ vs H1=>sp vs H1 Q (EX σ)
section
variable {X:Cx} {CX:CXT} {k:Nat} {f:aA} {fd:aJ} {ps:List Str} {sp:Sp} {EX:St->XK} {x:Str} {p pos:Pos} {e:aN} {es:List aN} {t:TA}
theorem a8R (F:FnOk X.prog X.w X.K X.mg X.base CX k f fd ps sp) (hr:Room k X.A) (hg:Gl X x) (hm:X.mg x=some (.ref f)) (hk:dL X.K (.ref f)=true) (hb:Binds X.K fd ps []) (hx:a4a CX X EX)
  (ha:PA X (e::es) t) (hdb:(x==("__debug__":Str))=false:=by decide) (he:starEach (e::es) X.env=(false,eval e X.env)::starEach es X.env:=by rfl) (hpl:(backTo pos (starEach es X.env)).any (·.1)=false:=by rfl) :
  PE X (.Call (.Name x p) (e::es) [] pos) (b3P sp EX t):=by
 intro pins s σ H Q I h;refine jD (V1 I hg hm ?_ hdb);refine lI (h₀:=X.base) I.ok.mod.kin hk (A7 (ha pos pins s σ H _ I h) λ us s1 ⟨vs,H1,I1,r,q⟩=>⟨I1.kIn,?_⟩) he hpl;have hl:(us++[]).length=ps.length:=by rw [jC,<- r.length]; exact F.len _ _ _ _ q
 have hb':=hb s1 us I1.kIn hl;rw [jC] at hb';refine lH (jV (F.run X.A X.stack s1 H1 ⟨us,[]⟩ us vs Q (EX σ) hr I1.env0 hb' r q) λ rr s' hq=>?_)
 cases rr with
 | error e=>exact hx pins σ H1 s1 e s' I1 hq
 | ok fl =>
  cases fl with
  | ret u=>exact I1.after hq
  | next=>exact dD hq
  | brk=>exact dD hq
  | cont=>exact dD hq
end
abbrev Cx.held (X:Cx) (ea:aA):Cx:={ X with A:=X.A.mark (some (.ref ea)),calm:=false,xe:=λ _ _=>False }
abbrev Cx.tried (X:Cx) (pn:List (aA×Obj)) (E:aC->aD->Prop):Cx:={ X with pn:=pn,xe:=E }
section
variable {X:Cx} {pins:List (aA×Obj)} {σ:St} {H:Hp} {s:aD} {ea:aA}
theorem Cx.Ok.held (ok:X.Ok):(X.held ea).Ok :=
 ⟨ok.mod,ok.kind,ok.glob,ok.blt,ok.above,ok.inj,ok.has,ok.cab,(λ z=>uH z),ok.frames,ok.stk,ok.exf,ok.bs,ok.bsz,ok.noex,ok.exfs,ok.funs,ok.frf⟩
theorem Inv.held (I:Inv X pins σ H s) (ea:aA):Inv (X.held ea) pins σ H s:=⟨I.ok.held,I.os,I.bare,I.base,I.loc,I.cell,I.free,I.freeC,I.pin,I.hok,I.len⟩
theorem Inv.unheld (ok:X.Ok) (I:Inv (X.held ea) pins σ H s):Inv X pins σ H s:=⟨ok,I.os,I.bare,I.base,I.loc,I.cell,I.free,I.freeC,I.pin,I.hok,I.len⟩
theorem Cx.Ok.tried (ok:X.Ok) {pn:List (aA×Obj)} {E:aC->aD->Prop}:(X.tried pn E).Ok :=
 ⟨ok.mod,ok.kind,ok.glob,ok.blt,ok.above,ok.inj,ok.has,ok.cab,ok.hd,ok.frames,ok.stk,ok.exf,ok.bs,ok.bsz,ok.noex,ok.exfs,ok.funs,ok.frf⟩
theorem Inv.tried (I:Inv X pins σ H s) {E:aC->aD->Prop}:Inv (X.tried (X.pn++pins) E) [] σ H s:=⟨I.ok.tried,I.os,I.bare,I.base,I.loc,I.cell,I.free,I.freeC,by rw [jC]; exact I.pin,I.hok,I.len⟩
theorem Inv.untried (ok:X.Ok) {E:aC->aD->Prop} {pins':List (aA×Obj)} (I:Inv (X.tried (X.pn++pins) E) pins' σ H s):Inv X pins σ H s :=
 ⟨ok,I.os,I.bare,I.base,I.loc,I.cell,I.free,I.freeC,λ p hp=>I.pin p (iC _ hp),I.hok,I.len⟩
theorem Z5 {M:iW} {A:aY} {E:aC->aD->Prop} {i:Nat} {n:Str} {pos:Pos} {Q:Unit->aD->Prop} (I:Inv X pins σ H s) (hN:X.N.Nodup) (hi:X.N[i]?=some n) (hk:X.env.scope.names.lookup n=some .local)
  (h:∀ s',Inv X pins (σ.set i none) H s'->Q () s'):wpAny M A (do bindName X.env n .none; unbindBehindTheSuite X.env n pos) Q E s:=by
 obtain ⟨m,hn,hl⟩:=id I.loc;have hcls:(X.env.scope.kind==.class || (X.env.scope.kind==.module&&X.env.locals != X.env.globals))=false:=by rw [I.ok.kind]; rfl
 have hiσ:i<σ.length:=by rw [I.len]; exact (bP.mp hi).1
 have cne:=I.cne;refine wpAny_nameGoes_keeps hk hn hcls λ h' v hn' hs=>?_;obtain ⟨oL,_,_,hoL,_⟩:=id hn;have far:∀ b o,X.s₀.heap.get? b=some o->b≠X.env.locals:=λ b o e=>cF (bM (bC e) I.ok.above);refine h _ ⟨I.ok,I.os,I.bare,⟨λ b o e n hb hx=>?_,λ b o e n hb hx=>?_,I.base.free,λ b o e hx=>?_,I.base.tups,I.base.frzs,I.base.tbls⟩,⟨_,hn',λ j y v' e1 e2 e3=>?_⟩,λ y c e=>?_,I.free,I.freeC,λ p hp=>?_,λ b ob e=>?_,by simpa using I.len⟩
 ·exact (hs.2 b (far b o e)).trans (I.base.keep b o e n hb hx)
 ·obtain ⟨sl,e1⟩:=I.base.slot b o e n hb hx
  exact ⟨sl,(hs.2 b (far b o e)).trans e1⟩
 ·obtain ⟨o',e1⟩:=I.base.there b o e hx
  exact ⟨o',(hs.2 b (far b o e)).trans e1⟩
 ·by_cases hj:j=i
  ·subst hj
   rw [dI hiσ] at e2
   cases e2
  ·rw [bY (bI hj)] at e2
   obtain ⟨u',r',q⟩:=hl j y v' e1 e2 e3;refine ⟨u',r',?_⟩;rcases q with ⟨k,e⟩ | ⟨k,c,e,z⟩
   ·refine .inl ⟨k,?_⟩
    have:y≠n:=λ e=>hj (a2N hN e1 (e ▸ hi));simp [this,e]
   ·exact .inr ⟨k,c,e,z.sameBut hs (cne y c e)⟩
 ·obtain ⟨w',z⟩:=I.cell y c e
  exact ⟨w',z.sameBut hs (cne y c e)⟩
 ·obtain ⟨e,n,ne,nf,d⟩:=I.pin p hp
  exact ⟨(hs.2 p.1 ne).trans e,n,ne,nf,d⟩
 ·refine (I.hok b ob e).stay (λ c w' hc q=>(hs.2 c ?_).trans q) (λ _ q=>q) λ _ _ q=>q
  rintro rfl;rcases hc with z | hc
  ·rw [<- z,I.free] at e; cases e
  ·rw [I.free] at hc; cases hc
end
def Ends.less (D:Ends) (i:Nat):Ends:={ nx:=λ σ H=>D.nx (σ.set i none) H,rt:=D.rt,bk:=λ σ H=>D.bk (σ.set i none) H,ct:=λ σ H=>D.ct (σ.set i none) H }
def b5V (K:aE) (R:aA) (tb:(St->XK)->TS) (i:Nat) (ts:TS):TS:=λ D σ H=>∃ EX:St->XK,tb EX D σ H ∧
 ∀ σ' H' C ea d,EX σ' C d H'->H' ea=none->∀ Da,C=.ref Da->S4 K Da/\dM K Da (.ref R)=some true/\ts (D.less i) (σ'.set i (some (.ref ea))) (upd H' ea (a8c ea Da))
section
variable {X:Cx} {x n:Str} {R:aA} {i:Nat} {tb:(St->XK)->TS} {ts:TS} {body suite:List aO} {b₀:aO} {np hpos pos:Pos}
theorem b2W (kR:S4 X.K R) (hN:X.N.Nodup) (hi:X.N[i]?=some n) (hk:X.env.scope.names.lookup n=some .local) (hst:X.stack=X.env::X.outer) (hgl:Gl X x) (hm:X.mg x=some (.ref R))
  (hb:∀ (EX:St->XK) (pn:List (aA×Obj)) (E:aC->aD->Prop),a4a (Q7 X.prog X.w) (X.tried pn E) EX->PSs (X.tried pn E) body (tb EX))
  (hs:∀ ea,PSs (X.held ea) (b₀::suite) ts) (hdb:(x==("__debug__":Str))=false:=by decide) :
  PS X (.Try body [.ExceptHandler (some (.Name x np)) (some n) (b₀::suite) hpos] [] [] pos) (b5V X.K R tb i ts):=by
 intro pins s σ H D I ⟨EX,hq,hh⟩;refine wpAny_Try_except ?_;have pass:a4a (Q7 X.prog X.w) (X.tried (X.pn++pins) λ e s'=>∃ σ' H0 s0,Inv X pins σ' H0 s0/\Q7 X.prog X.w X.stack H0 s0 (EX σ') e s') EX:=λ pins' σ' H0 s0 e s' I0 q=>⟨σ',H0,s0,I0.untried I.ok,q⟩;refine cZ (hb EX _ _ pass [] s σ H D I.tried hq) (λ f s1 q=>?_) λ e s1 ⟨σ',H0,s0,I0,cx⟩=>?_
 ·cases f with
  | next=>obtain ⟨σ',H',J,q⟩:=q; exact lD ⟨σ',H',J.untried I.ok,q⟩
  | brk=>obtain ⟨σ',H',J,q⟩:=q; exact ⟨σ',H',J.untried I.ok,q⟩
  | cont=>obtain ⟨σ',H',J,q⟩:=q; exact ⟨σ',H',J.untried I.ok,q⟩
  | ret u=>obtain ⟨v,σ',H',J,r,q⟩:=q; exact ⟨v,σ',H',J.untried I.ok,r,q⟩
 ·obtain ⟨ea,t,Da,B,H',rfl,F,hE⟩:=cx
  have hfr:X.A.frames=some (X.env::X.outer):=by rw [I.ok.frames,hst]
  have hf:X.env.frame=some X.env.locals:=by
   rcases I.ok.stk with z | ⟨_,z⟩
   ·rw [hst] at z
    have:=congrArg jW z;simp at this
   ·exact z
  have Ffly:=F.fly;rw [hst] at Ffly;refine uI hfr hf Ffly λ h4 held4 up4=>wpAny_landsW held4 λ h5 fly5 up5=>?_;have F5:=F.slots (by rw [hst]; exact fly5) (up4.trans up5);refine wpAny_handleBy_cons (codeAny_handlers_test ?_) (by intro q; cases q);have I5:=(F5.inv I0).held ea;refine V1 I5 hgl hm ?_ hdb;obtain ⟨kD,hsub,hts⟩:=hh σ' H' _ ea none hE F.new.2 Da rfl;obtain ⟨oe,he,hc⟩:=F5.at;refine a8l I5.kIn he hc hsub kR ?_;refine codeAny_handlers_suite_as ?_;refine lands_againW fly5 λ h6 fly6 up6=>?_;have F6:=F5.slots (by rw [hst]; exact fly6) up6;have I6:=(F6.track I0).held ea;refine X6 (X:=X.held ea) (v:=.ref ea) I6 hN hi (aM hk) (rfl:RelV (.ref ea) (.ref ea)) (λ s7 I7=>?_) (.inr hk);refine cZ (hs ea pins s7 _ _ (D.less i) I7 hts) (λ f s8 q=>?_) λ _ _ z=>z.elim
  cases f with
  | next=>obtain ⟨σ2,H2,J,q⟩:=q; exact Z5 (J.unheld I.ok) hN hi hk λ s9 J9=>⟨_,_,J9,q⟩
  | brk=>obtain ⟨σ2,H2,J,q⟩:=q; exact Z5 (J.unheld I.ok) hN hi hk λ s9 J9=>⟨_,_,J9,q⟩
  | cont=>obtain ⟨σ2,H2,J,q⟩:=q; exact Z5 (J.unheld I.ok) hN hi hk λ s9 J9=>⟨_,_,J9,q⟩
  | ret u=>obtain ⟨v,σ2,H2,J,r,q⟩:=q; exact Z5 (J.unheld I.ok) hN hi hk λ s9 J9=>⟨v,_,_,J9,r,q⟩
end
structure a5j (k:Nat) (A:aY):Prop where
 dp:A.depth+3*k+5<recursionLimit
 un:A.units+16*k+200<cLine
theorem Room.u {k:Nat} {A:aY} (r:Room k A) (e:Option aC):a5j k (A.mark e):=⟨r.dp,r.un⟩
structure FnU (P:aL) (w:aI) (K:aE) (mg:Str->Option aC) (base:aG) (k:Nat) (f:aA) (fd:aJ) (ps:List Str) (sp:Sp):Prop where
 len:∀ vs H Q E,sp vs H Q E->vs.length=ps.length
 run:∀ (A:aY) (outer:List Env) (s:aD) (H:Hp) (args:Args) (us:List aC) (vs:List V) (Q:VK) (E:XK),a5j k A->Env0 P w K mg base A outer s H->iJ s fd args (ps.zip us)->Vals vs us->sp vs H Q E →
  codeAny (model P w) A (.call (.ref f) args) (CR E1 outer P w H s Q E) s
abbrev a4T (P:aL) (w:aI) (K:aE) (mg:Str->Option aC) (base:aG) (N:List Str) (qual:Str) (scope:bS) (f:aA) (cd:aC) (A:aY) (outer:List Env) (s:aD) (H:Hp):Cx :=
 { M0 E1 P w K mg base N qual scope f cd A outer s H E0 with calm:=false,xe:=λ _ _=>False }
theorem a5v {P:aL} {w:aI} {K:aE} {mg:Str->Option aC} {base:aG} {N ps:List Str} {qual:Str} {scope:bS} {f:aA} {cd:aC} {A:aY} {outer:List Env} {s s1:aD} {H:Hp} {us:List aC} {vs:List V}
  (S:m6 N ps scope) (e0:Env0 P w K mg base A outer s H) (hl:vs.length=ps.length) (r:Vals vs us)
  (x:InCallC s s.heap.objs.size (bindL (dE qual scope s.heap.objs.size f cd).kindOf (ps.zip us) λ _=>none) (cellsFrom (s.heap.objs.size+1) scope.names []) (bindC (dE qual scope s.heap.objs.size f cd).kindOf (ps.zip us) λ _=>none) s1) :
  Inv (a4T P w K mg base N qual scope f cd A outer s H) [] (P9 N vs) H s1:=by
 have e1:Env0 P w K mg base ({ A with handled:=none }) outer s H:=⟨e0.frames,e0.mod,e0.bs,e0.bsz,e0.funs,e0.frf,e0.hok,e0.bare⟩;have I:=a3p (CX:=E1) (E:=E0) (qual:=qual) (f:=f) (cd:=cd) S (A:={ A with handled:=none }) rfl e1 hl r x;have ok:=I.ok;exact ⟨⟨ok.mod,ok.kind,ok.glob,ok.blt,ok.above,ok.inj,ok.has,ok.cab,(λ z=>uH z),pG e0.frames,.inr ⟨rfl,rfl⟩,ok.exf,ok.bs,ok.bsz,ok.noex,ok.exfs,ok.funs,ok.frf⟩,I.os,I.bare,I.base,I.loc,I.cell,I.free,I.freeC,I.pin,I.hok,I.len⟩
theorem b2I {P:aL} {w:aI} {K:aE} {mg:Str->Option aC} {base:aG} {k:Nat} {f:aA} {name qual:Str} {params:jX} {body:List aO} {scope:bS} {dV kV doc pm cdv ct oc:aC} {an od:Option aA}
  {osl:Array (Option aC)} {N ps:List Str} {sp:Sp} (lk:K.lookup f=some ⟨oc,od,.func (gW name qual params body scope dV kV doc pm an cdv ct),osl⟩) (hcd:lK K cdv qual=true) (S:m6 N ps scope)
  (len:∀ vs H Q E,sp vs H Q E->vs.length=ps.length)
  (hbody:∀ (A:aY) (outer:List Env) (s:aD) (H:Hp) (vs:List V) (Q:VK) (E:XK),a5j k (A.deeper (dE qual scope s.heap.objs.size f cdv))->sp vs H Q E →
   ∃ t,PSs (a4T P w K mg base N qual scope f cdv A outer s H) body t/\t { nx:=λ _ H'=>Q .non H',rt:=Q } (P9 N vs) H) :
  FnU P w K mg base (k+1) f (gW name qual params body scope dV kV doc pm an cdv ct) ps sp:=by
 refine ⟨len,λ A outer s H args us vs Q E hr e0 hb r hsp=>?_⟩;have hl:=len _ _ _ _ hsp;have KX:K.In s.heap:=e0.mod.kin.keeps λ b o e=>(e0.bs b o e).1;have lim:s.heap.NoLimit:=e0.mod.nolimit.keeps λ b o e=>(e0.bs b o e).1;have hkind:∀ y∈ps.zip us,scope.names.lookup y.1=some .local\/(scope.names.lookup y.1=some .cell/\((cellsFrom (s.heap.objs.size+1) scope.names []).lookup y.1).isSome=true):=λ ⟨n,v⟩ hy=>by
  rcases S.par n (mZ hy).1 with q | q
  ·exact .inl q
  ·exact .inr ⟨q,pF _ _ _ (.inl q)⟩
 refine sL (by have:=hr.dp; omega) (KX _ _ lk) rfl S.co S.gen rfl (sM KX hcd) (hb _ _ _ _ ?_);refine sN S.kind hkind λ env he s1 x=>?_;subst he;refine ⟨lim.keeps x.toInCall.keep,sO ?_⟩;obtain ⟨t,ht,hq⟩:=hbody A outer s H vs Q E ⟨by have:=hr.dp; show A.depth+1+3*k+5<_; omega,by have:=hr.un; show A.units+3+16*k+200<_; omega⟩ hsp;have I:Inv (a4T P w K mg base N qual scope f cdv A outer s H) [] (P9 N vs) H s1:=a5v S e0 hl r x;refine cZ (ht [] s1 (P9 N vs) H _ I hq) (λ fl s' hs=>?_) λ e s' hs=>hs.elim;have fin:∀ {σ':St} {H':Hp} {v:V} {u:aC},Inv (a4T P w K mg base N qual scope f cdv A outer s H) [] σ' H' s'->RelV v u->Q v H'->CE outer P w H s Q u s' :=
  λ {σ' H' v u} J rv q=>⟨v,H',J.os,J.bare,J.base,J.hok,rv,q⟩
 cases fl with
 | ret u =>
  obtain ⟨v,σ',H',J,rv,q⟩:=hs;exact fin J rv q
 | next =>
  obtain ⟨σ',H',J,q⟩:=hs;exact fin (v:=V.non) (u:=gT) J rfl q
 | brk =>
  obtain ⟨_,_,_,q⟩:=hs;exact dD q
 | cont =>
  obtain ⟨_,_,_,q⟩:=hs;exact dD q
section
variable {P:aL} {w:aI} {K:aE} {mg:Str->Option aC} {base:aG}
theorem Fun.okU {x qual:Str} {st:aO} {f:aA} {fd:aJ} {N ps:List Str} {k:Nat} {sp:Sp} (F:Fun K x qual st f fd) (S:m6 N ps (j4 st)) (len:∀ vs H Q E,sp vs H Q E->vs.length=ps.length)
  (hbody:∀ (cdv:aC) (A:aY) (outer:List Env) (s:aD) (H:Hp) (vs:List V) (Q:VK) (E:XK),a5j k (A.deeper (dE qual (j4 st) s.heap.objs.size f cdv))->sp vs H Q E →
   ∃ t,PSs (a4T P w K mg base N qual (j4 st) f cdv A outer s H) (w4 st) t/\t { nx:=λ _ H'=>Q .non H',rt:=Q } (P9 N vs) H):FnU P w K mg base (k+1) f fd ps sp:=by
 obtain ⟨oc,od,kV,doc,pm,an,cdv,ct,osl,rfl,lk,hcd⟩:=F.ex;exact b2I lk hcd S len λ A outer s H vs Q E hr hsp=>hbody cdv A outer s H vs Q E hr hsp
theorem Fun.ok1 {x qual:Str} {st:aO} {f:aA} {fd:aJ} {N ps:List Str} {k:Nat} {sp:Sp} (F:Fun K x qual st f fd) (S:m6 N ps (j4 st)) (len:∀ vs H Q E,sp vs H Q E->vs.length=ps.length)
  (hbody:∀ (cdv:aC) (A:aY) (outer:List Env) (s:aD) (H:Hp) (vs:List V) (Q:VK) (E:XK),Room k (A.deeper (dE qual (j4 st) s.heap.objs.size f cdv))->sp vs H Q E →
   ∃ t,PSs (M0 (Q7 P w) P w K mg base N qual (j4 st) f cdv A outer s H E) (w4 st) t/\t { nx:=λ _ H'=>Q .non H',rt:=Q } (P9 N vs) H):FnOk P w K mg base (Q7 P w) (k+1) f fd ps sp:=by
 obtain ⟨oc,od,kV,doc,pm,an,cdv,ct,osl,rfl,lk,hcd⟩:=F.ex;exact b0x lk hcd S len λ A outer s H vs Q E hr hsp=>hbody cdv A outer s H vs Q E hr hsp
end
section
variable {X:Cx} {k:Nat} {f:aA} {fd:aJ} {ps:List Str} {sp:Sp} {x:Str} {p pos:Pos} {e:aN} {es:List aN} {t:TA}
theorem a9w (F:FnU X.prog X.w X.K X.mg X.base k f fd ps sp) (hr:a5j k X.A) (hg:Gl X x) (hm:X.mg x=some (.ref f)) (hk:dL X.K (.ref f)=true) (hb:Binds X.K fd ps [])
  (ha:PA X (e::es) t) (hdb:(x==("__debug__":Str))=false:=by decide) (he:starEach (e::es) X.env=(false,eval e X.env)::starEach es X.env:=by rfl) (hpl:(backTo pos (starEach es X.env)).any (·.1)=false:=by rfl) :
  PE X (.Call (.Name x p) (e::es) [] pos) (b2w sp [] E0 t):=by
 intro pins s σ H Q I h;refine jD (V1 I hg hm ?_ hdb);refine lI (h₀:=X.base) I.ok.mod.kin hk (A7 (ha pos pins s σ H _ I h) λ us s1 ⟨vs,H1,I1,r,q⟩=>⟨I1.kIn,?_⟩) he hpl
 replace q:sp (vs++[]) H1 Q E0:=q
 rw [jC] at q;have hl:(us++[]).length=ps.length:=by rw [jC,<- r.length]; exact F.len _ _ _ _ q
 have hb':=hb s1 us I1.kIn hl;rw [jC] at hb';refine lH (jV (F.run X.A X.stack s1 H1 ⟨us,[]⟩ us vs Q E0 hr I1.env0 hb' r q) λ rr s' hq=>?_)
 cases rr with
 | error e=>exact dD hq
 | ok fl =>
  cases fl with
  | ret u=>exact I1.after hq
  | next=>exact dD hq
  | brk=>exact dD hq
  | cont=>exact dD hq
end
section
variable {prog:aL} {w:aI} {A:aY} {E:aC->aD->Prop} {s:aD}
theorem b0B {j tp:aA} {i:Nat} {vs:Array aC} {x:aC} {Q:aC->aD->Prop} (q1:iO s.heap j tp i) (q2:fT s.heap tp vs) (q3:vs[i]?=some x)
  (q:∀ h',iO h' j tp (i+1)->iX j s.heap h'->Q x { s with heap:=h' }):wpAny (model prog w) A (cP (.ref j)) Q E s:=by
 obtain ⟨oj,g1,g2,g3⟩:=id q1;obtain ⟨ot,g4,_,nt,g5⟩:=q2;unfold cP;refine aF (iP (name:=gJ "__next__") q1.typeIs nL (iQ nL q1.typeIs uJ ?_ (uK _)))
 show wpAny _ _ (field (.ref j) 0 >>= _) _ _ s
 refine aF (cA g1 g3 (x:=.ref tp) rfl ?_)
 show wpAny _ _ (if (cY tp==gT)=true then _ else _) _ _ s
 rw [if_neg (λ z=>by cases z)]
 show wpAny _ _ (field (.ref j) 1 >>= _) _ _ s
 refine aF (cA g1 g3 (x:=.int i 0) rfl ?_)
 show wpAny _ _ (seqItems? (.ref tp) >>= _) _ _ s
 refine aF (eM g4 g5 ?_);simp only [bW,q3];refine aF (nN g1 g3 (by simp) (aT ⟨x,rfl,aT (q _ ?_ (lS ..))⟩));refine ⟨_,pJ _ g1 (uL (nQ g3 _)),(Obj.cls_mapFields ..).trans g2,?_⟩;rw [nQ g3];simp [rawInt]
theorem b3t {j tp:aA} {i:Nat} {vs:Array aC} {Q:aC->aD->Prop} (hh:A.handled=none) (q1:iO s.heap j tp i) (q2:fT s.heap tp vs) (q3:vs[i]?=none)
  (q:∀ h' e,lT j s.heap h'->(∃ o,h'.get? e=some o/\o.cls=.type "StopIteration")->E (.ref e) { s with heap:=h' }):wpAny (model prog w) A (cP (.ref j)) Q E s:=by
 obtain ⟨oj,g1,g2,g3⟩:=id q1;obtain ⟨ot,g4,_,nt,g5⟩:=q2;unfold cP;refine aF (iP (name:=gJ "__next__") q1.typeIs nL (iQ nL q1.typeIs uJ ?_ (uK _)))
 show wpAny _ _ (field (.ref j) 0 >>= _) _ _ s
 refine aF (cA g1 g3 (x:=.ref tp) rfl ?_)
 show wpAny _ _ (if (cY tp==gT)=true then _ else _) _ _ s
 rw [if_neg (λ z=>by cases z)]
 show wpAny _ _ (field (.ref j) 1 >>= _) _ _ s
 refine aF (cA g1 g3 (x:=.int i 0) rfl ?_)
 show wpAny _ _ (seqItems? (.ref tp) >>= _) _ _ s
 refine aF (eM g4 g5 ?_);simp only [bW,q3];refine aF (iD (aF (nN g1 g3 (by simp) ?_)))
 show wpAny _ _ (do let e <- newExc (.type "StopIteration") []; _) _ _ _
 simp only [newExc,newTuple];refine aF (aF (lE (aF (m:=firstArgMember _ _) (wpAny_of_eq (a:=gT) (by first | rfl | (simp only [firstArgMember]; rfl)) (lE ?_ (by size_fits)))) (by size_fits)));simp only [raiseNew];refine aF (wpAny_handled ?_);rw [show A.in1.handled=none from hh];exact aF (aT (wpAny_throw (q _ _ (((lS ..).extBut.push _).push _) ⟨_,cI _ rfl,rfl⟩)))
theorem iO.at' {h h':aG} {a t:aA} {i:Nat} (x:iO h a t i) (e:∀ o,h.get? a=some o->h'.get? a=some o):iO h' a t i:=let ⟨o,ho,r⟩:=x; ⟨o,e _ ho,r⟩
end
def IsB:Bool->aG->aA->Array aC->Prop
 | true,h,t,xs=>h.IsList t xs
 | false,h,t,xs=>fT h t xs
def ItB:Bool->aG->aA->aA->Nat->Prop
 | true,h,j,t,k=>h.IsListIter j t k
 | false,h,j,t,k=>iO h j t k
def SqB:Bool->aE->Hp->aA->List V->Prop
 | true,K,H,a,xs=>SqL K H a xs
 | false,K,H,a,xs=>SqT K H a xs
def itN:Bool->String
 | true=>"list_iterator"
 | false=>"tuple_iterator"
section
variable {b:Bool} {h h':aG} {j t c:aA} {k:Nat} {xs:Array aC}
theorem ItB.at' (x:ItB b h j t k) (e:∀ o,h.get? j=some o->h'.get? j=some o):ItB b h' j t k:=by
 cases b
 ·exact iO.at' x e
 ·exact Heap.IsListIter.at x e
theorem ItB.extBut (x:ItB b h j t k) (hs:lT c h h') (n:j≠c):ItB b h' j t k:=x.at' λ o e=>hs j o n e
theorem IsB.at' (x:IsB b h t xs) (e:∀ o,h.get? t=some o->h'.get? t=some o):IsB b h' t xs:=by
 cases b
 ·obtain ⟨o,ho,r⟩:=x; exact ⟨o,e o ho,r⟩
 ·obtain ⟨o,ho,r⟩:=x; exact ⟨o,e o ho,r⟩
theorem IsB.extBut (x:IsB b h t xs) (hs:lT c h h') (n:t≠c):IsB b h' t xs:=x.at' λ o e=>hs t o n e
theorem IsB.push (x:IsB b h t xs) (o:Obj):IsB b (h.push o) t xs:=x.at' λ _ e=>bE _ e
theorem IsB.lt (x:IsB b h t xs):t<h.objs.size:=by
 cases b
 ·obtain ⟨o,ho,_⟩:=x; exact bC ho
 ·obtain ⟨o,ho,_⟩:=x; exact bC ho
theorem ItB.mk (e:h.get? j=some { cls:=.type (itN b),data:=.fields #[.ref t,.int 0 0] }):ItB b h j t 0:=by
 cases b
 ·exact ⟨_,e,rfl,rfl⟩
 ·exact ⟨_,e,rfl,rfl⟩
theorem ItB.obj (x:ItB b h j t k):∃ o,h.get? j=some o/\∃ vs,o.data=.fields vs:=by
 cases b
 ·obtain ⟨o,ho,_,d⟩:=x; exact ⟨o,ho,_,d⟩
 ·obtain ⟨o,ho,_,d⟩:=x; exact ⟨o,ho,_,d⟩
theorem Same.sqB {K:aE} {H H':Hp} {a:aA} {ys:List V} (e:Same H H') (x:SqB b K H a ys):SqB b K H' a ys:=by
 cases b
 ·exact e.tseq x
 ·exact e.seq x
theorem Inv.sqB {X:Cx} {pins:List (aA×Obj)} {σ:St} {H:Hp} {s:aD} {a:aA} {ys:List V} (I:Inv X pins σ H s) (x:SqB b X.K H a ys):∃ its:List aC,Vals ys its/\IsB b s.heap a its.toArray/\ys.length<=sizeLine:=by
 cases b
 ·exact I.tuple x
 ·obtain ⟨i,r,p,z⟩:=I.list x
  exact ⟨i,r,p.isList,z⟩
theorem Inv.sqB_inj {X:Cx} {pins:List (aA×Obj)} {σ:St} {H:Hp} {s:aD} {a:aA} {ys zs:List V} (I:Inv X pins σ H s) (x:SqB b X.K H a ys) (y:SqB b X.K H a zs):ys=zs:=by
 cases b
 ·exact I.tuple_inj x y
 ·exact I.list_inj x y
end
section
variable {prog:aL} {w:aI} {A:aY} {E:aC->aD->Prop} {s:aD}
theorem J3 {b:Bool} {j tp:aA} {i:Nat} {vs:Array aC} {x:aC} {Q:aC->aD->Prop} (q1:ItB b s.heap j tp i) (q2:IsB b s.heap tp vs) (q3:vs[i]?=some x)
  (q:∀ h',ItB b h' j tp (i+1)->iX j s.heap h'->Q x { s with heap:=h' }):wpAny (model prog w) A (cP (.ref j)) Q E s:=by
 cases b
 ·exact b0B q1 q2 q3 q
 ·exact wpAny_nextOf_list_item q1 q2 q3 q
theorem S5 {b:Bool} {j tp:aA} {i:Nat} {vs:Array aC} {Q:aC->aD->Prop} (hh:A.handled=none) (q1:ItB b s.heap j tp i) (q2:IsB b s.heap tp vs) (q3:vs[i]?=none)
  (q:∀ h' e,lT j s.heap h'->(∃ o,h'.get? e=some o/\o.cls=.type "StopIteration")->E (.ref e) { s with heap:=h' }):wpAny (model prog w) A (cP (.ref j)) Q E s:=by
 cases b
 ·exact b3t hh q1 q2 q3 q
 ·exact wpAny_nextOf_list_end hh q1 q2 q3 q
theorem a4A {b:Bool} {t:aA} {xs:Array aC} {Q:aC->aD->Prop} (m:IsB b s.heap t xs) (h:Q (.ref s.heap.objs.size) { s with heap:=s.heap.push { cls:=.type (itN b),data:=.fields #[.ref t,.int 0 0] } }):wpAny (model prog w) A (pyIter (.ref t)) Q E s:=by
 cases b
 ·exact iter_tuple m h
 ·exact mS m h
theorem b1j {b1 b2:Bool} {z ti to j1 j2 t1 t2:aA} {k1 k2:Nat} {xs ys:Array aC} {x y a b:aC} {Q:aC->aD->Prop} (D:fD z ti to j1 j2 t1 t2)
  (q0:dN s.heap z ti to .none) (p1:bH s.heap ti (.ref j1) (.ref j2)) (p2:bH s.heap to a b)
  (i1:ItB b1 s.heap j1 t1 k1) (i2:ItB b2 s.heap j2 t2 k2) (l1:IsB b1 s.heap t1 xs) (l2:IsB b2 s.heap t2 ys) (ex:xs[k1]?=some x) (ey:ys[k2]?=some y)
  (q:∀ h',dN h' z ti to (rawInt s.heap.objs.size)->bH h' to x y->ItB b1 h' j1 t1 (k1+1)->ItB b2 h' j2 t2 (k2+1)->bH h' s.heap.objs.size x y →
   (∀ c o,c≠z->c≠to->c≠j1->c≠j2->s.heap.get? c=some o->h'.get? c=some o)->Q (.ref s.heap.objs.size) { s with heap:=h' }) :
  wpAny (model prog w) A (gH.«zip.__next__» ⟨[.ref z],[]⟩) (λ fin s'=>∃ v,fin=.done (.ret v)/\Q v s') E s:=by
 show wpAny _ _ (field (.ref z) 2 >>= _) _ _ _
 refine aF (cA q0 rfl (x:=.bool false) rfl (show wpAny _ _ (field (.ref z) 3 >>= _) _ _ _ from aF (cA q0 rfl (x:=.ref ti) rfl (aF (eM p1 rfl ?_)))))
 show wpAny _ _ (do let free <- gK (.ref z); _) _ _ _
 unfold gK;refine aF (aF (cA q0 rfl (x:=.none) rfl (aT ?_)));simp only [if_true];refine aF (iD (aF (cA q0 rfl (x:=.ref to) rfl (aF (dW q0 (by simp) λ u1 z1 s1=>?_)))));have z1':dN u1 z ti to .ellipsis:=z1;refine aF ?_;simp only [nR,nU,iM,jH];refine aF (aF (gM (show wpAny _ _ (cP (.ref j1) >>= _) _ _ _ from aF (J3 (i1.extBut s1.extBut D.i1z) (l1.extBut s1.extBut D.l1z) ex λ u2 j1' s2=>aT ?_))));have to2:bH u2 to a b:=s2.extBut _ _ D.TOi1 (s1.extBut _ _ D.TOz p2);refine aF (eM to2 rfl (aF (kA to2 λ u3 to3 s3=>aF (fW (aT ?_)))));have to3':bH u3 to x b:=to3;refine aF (aF (gM (show wpAny _ _ (cP (.ref j2) >>= _) _ _ _ from aF (J3 (((i2.extBut s1.extBut D.i2z).extBut s2.extBut D.i12.symm).extBut s3.extBut D.TOi2.symm)
  (((l2.extBut s1.extBut D.l2z).extBut s2.extBut D.l2i1).extBut s3.extBut D.l2TO) ey λ u4 j2' s4=>aT ?_))))
 have to4:bH u4 to x b:=s4.extBut _ _ D.TOi2 to3';refine aF (eM to4 rfl (aF (kA to4 λ u5 to5 s5=>aF (fW (aT (aT ?_))))));have to5':bH u5 to x y:=to5;refine aF (eM to5' rfl (aF (nV ?_)));have sz:u5.objs.size=s.heap.objs.size:=by rw [s5.1,s4.1,s3.1,s2.1,s1.1]
 have z5:dN u5 z ti to .ellipsis:=s5.extBut _ _ D.TOz.symm (s4.extBut _ _ D.i2z.symm (s3.extBut _ _ D.TOz.symm (s2.extBut _ _ D.i1z.symm z1')));have kp:∀ c o,c≠z->c≠to->c≠j1->c≠j2->s.heap.get? c=some o->u5.get? c=some o:=λ c o n1 n2 n3 n4 e=>s5.extBut _ _ n2 (s4.extBut _ _ n4 (s3.extBut _ _ n2 (s2.extBut _ _ n3 (s1.extBut _ _ n1 e))));have a1:ItB b1 u5 j1 t1 (k1+1):=((j1'.extBut s3.extBut D.TOi1.symm).extBut s4.extBut D.i12).extBut s5.extBut D.TOi1.symm;have a2:ItB b2 u5 j2 t2 (k2+1):=j2'.extBut s5.extBut D.TOi2.symm;have zl:z<u5.objs.size:=bC z5
 show wpAny _ _ (do let r <- kF (.ref z) (.ref u5.objs.size); _) _ _ _
 unfold kF;have z6:dN (u5.push { cls:=.type "tuple",data:=.seq #[x,y] }) z ti to .ellipsis:=bE _ z5;refine aF (aF (dW z6 (by simp) λ u7 z7 s7=>?_));have z7':dN u7 z ti to (rawInt u5.objs.size):=z7;refine dW z7' (by simp) λ u8 z8 s8=>?_;have z8':dN u8 z ti to (rawInt u5.objs.size):=z8;have up:∀ c o,c≠z->u5.get? c=some o->u8.get? c=some o:=λ c o n1 e=>s8.extBut _ _ n1 (s7.extBut _ _ n1 (bE _ e));have nt8:bH u8 u5.objs.size x y:=s8.extBut _ _ (eH zl) (s7.extBut _ _ (eH zl) (cI _ rfl));rw [sz] at z8' nt8;refine aT ⟨_,rfl,?_⟩
 show Q (.ref u5.objs.size) _
 rw [sz];exact q u8 z8' (up _ _ D.TOz to5') (ItB.at' a1 λ o e=>up _ o D.i1z e) (ItB.at' a2 λ o e=>up _ o D.i2z e) nt8 λ c o n1 n2 n3 n4 e=>up c o n1 (kp c o n1 n2 n3 n4 e)
theorem b3a {b1 b2:Bool} {z ti to j1 j2 t1 t2:aA} {k1 k2:Nat} {xs ys:Array aC} {a b:aC} {Q:lQ->aD->Prop} (hh:A.handled=none) (D:fD z ti to j1 j2 t1 t2)
  (q0:dN s.heap z ti to .none) (p1:bH s.heap ti (.ref j1) (.ref j2)) (p2:bH s.heap to a b)
  (i1:ItB b1 s.heap j1 t1 k1) (i2:ItB b2 s.heap j2 t2 k2) (l1:IsB b1 s.heap t1 xs) (l2:IsB b2 s.heap t2 ys) (en:xs[k1]?=none\/ys[k2]?=none)
  (q:∀ h' e,(∀ c o,c≠z->c≠to->c≠j1->c≠j2->s.heap.get? c=some o->h'.get? c=some o)->(∃ o,h'.get? e=some o/\o.cls=.type "StopIteration")->E (.ref e) { s with heap:=h' }) :
  wpAny (model prog w) A (gH.«zip.__next__» ⟨[.ref z],[]⟩) Q E s:=by
 show wpAny _ _ (field (.ref z) 2 >>= _) _ _ _
 refine aF (cA q0 rfl (x:=.bool false) rfl (show wpAny _ _ (field (.ref z) 3 >>= _) _ _ _ from aF (cA q0 rfl (x:=.ref ti) rfl (aF (eM p1 rfl ?_)))))
 show wpAny _ _ (do let free <- gK (.ref z); _) _ _ _
 unfold gK;refine aF (aF (cA q0 rfl (x:=.none) rfl (aT ?_)));simp only [if_true];refine aF (iD (aF (cA q0 rfl (x:=.ref to) rfl (aF (dW q0 (by simp) λ u1 z1 s1=>?_)))));have z1':dN u1 z ti to .ellipsis:=z1;refine aF ?_;simp only [nR,nU,iM,jH]
 cases ex:xs[k1]? with
 | none =>
  refine aF (aF (gM (show wpAny _ _ (cP (.ref j1) >>= _) _ _ _ from aF (S5 hh (i1.extBut s1.extBut D.i1z) (l1.extBut s1.extBut D.l1z) ex λ u2 e s2 ⟨oe,e1,e2⟩=>?_))));have z2:dN u2 z ti to .ellipsis:=s2 _ _ D.i1z.symm z1';have ne:e≠z:=λ c=>by subst c; rw [z2] at e1; cases e1; simp at e2
  exact dW z2 (by simp) λ u3 _ s3=>q u3 e (λ c o n1 _ n3 _ m=>s3.extBut _ _ n1 (s2 _ _ n3 (s1.extBut _ _ n1 m))) ⟨oe,s3.extBut _ _ ne e1,e2⟩
 | some x =>
  have ey:ys[k2]?=none:=by
   rcases en with m | m
   ·rw [ex] at m; cases m
   ·exact m
  refine aF (aF (gM (show wpAny _ _ (cP (.ref j1) >>= _) _ _ _ from aF (J3 (i1.extBut s1.extBut D.i1z) (l1.extBut s1.extBut D.l1z) ex λ u2 j1' s2=>aT ?_))));have to2:bH u2 to a b:=s2.extBut _ _ D.TOi1 (s1.extBut _ _ D.TOz p2);refine aF (eM to2 rfl (aF (kA to2 λ u3 to3 s3=>aF (fW (aT ?_)))));refine aF (aF (gM (show wpAny _ _ (cP (.ref j2) >>= _) _ _ _ from aF (S5 hh (((i2.extBut s1.extBut D.i2z).extBut s2.extBut D.i12.symm).extBut s3.extBut D.TOi2.symm)
   (((l2.extBut s1.extBut D.l2z).extBut s2.extBut D.l2i1).extBut s3.extBut D.l2TO) ey λ u4 e s4 ⟨oe,e1,e2⟩=>?_))))
  have z4:dN u4 z ti to .ellipsis:=s4 _ _ D.i2z.symm (s3.extBut _ _ D.TOz.symm (s2.extBut _ _ D.i1z.symm z1'));have ne:e≠z:=λ c=>by subst c; rw [z4] at e1; cases e1; simp at e2
  exact dW z4 (by simp) λ u5 _ s5=>q u5 e (λ c o n1 n2 n3 n4 m=>s5.extBut _ _ n1 (s4 _ _ n4 (s3.extBut _ _ n2 (s2.extBut _ _ n3 (s1.extBut _ _ n1 m))))) ⟨oe,s5.extBut _ _ ne e1,e2⟩
theorem b1K {b1 b2:Bool} {z ti to j1 j2 t1 t2:aA} {k1 k2:Nat} {xs ys:Array aC} {x y a b:aC} {Q:Option aC->aD->Prop} (D:fD z ti to j1 j2 t1 t2)
  (q0:dN s.heap z ti to .none) (p1:bH s.heap ti (.ref j1) (.ref j2)) (p2:bH s.heap to a b)
  (i1:ItB b1 s.heap j1 t1 k1) (i2:ItB b2 s.heap j2 t2 k2) (l1:IsB b1 s.heap t1 xs) (l2:IsB b2 s.heap t2 ys) (ex:xs[k1]?=some x) (ey:ys[k2]?=some y)
  (q:∀ h',dN h' z ti to (rawInt s.heap.objs.size)->bH h' to x y->ItB b1 h' j1 t1 (k1+1)->ItB b2 h' j2 t2 (k2+1)->bH h' s.heap.objs.size x y →
   (∀ c o,c≠z->c≠to->c≠j1->c≠j2->s.heap.get? c=some o->h'.get? c=some o)->Q (some (.ref s.heap.objs.size)) { s with heap:=h' }) :
  wpAny (model prog w) A (pyNext (.ref z)) Q E s:=by
 have ty:s.TypeIs (.ref z) "zip":=⟨_,q0,rfl⟩;unfold pyNext;exact aF (nX (iP (name:=gJ "__next__") ty iR (iQ iR ty nY
  (b1j D q0 p1 p2 i1 i2 l1 l2 ex ey λ h' b1 b2 b3 b4 b5 b6=>aT (q h' b1 b2 b3 b4 b5 b6)) (nZ _))))
theorem b1l {b1 b2:Bool} {z ti to j1 j2 t1 t2:aA} {k1 k2:Nat} {xs ys:Array aC} {a b:aC} {Q:Option aC->aD->Prop} (hh:A.handled=none) (D:fD z ti to j1 j2 t1 t2)
  (q0:dN s.heap z ti to .none) (p1:bH s.heap ti (.ref j1) (.ref j2)) (p2:bH s.heap to a b)
  (i1:ItB b1 s.heap j1 t1 k1) (i2:ItB b2 s.heap j2 t2 k2) (l1:IsB b1 s.heap t1 xs) (l2:IsB b2 s.heap t2 ys) (en:xs[k1]?=none\/ys[k2]?=none)
  (q:∀ h',(∀ c o,c≠z->c≠to->c≠j1->c≠j2->s.heap.get? c=some o->h'.get? c=some o)->Q none { s with heap:=h' }):wpAny (model prog w) A (pyNext (.ref z)) Q E s:=by
 have ty:s.TypeIs (.ref z) "zip":=⟨_,q0,rfl⟩;unfold pyNext;refine aF (nX (iP (name:=gJ "__next__") ty iR (iQ iR ty nY
  (b3a hh D q0 p1 p2 i1 i2 l1 l2 en λ h' e kp ⟨o,e1,e2⟩=>aF (uM (T:="StopIteration") (b:=true) ⟨o,e1,e2⟩ uN (aT (q _ kp)))) (nZ _))))
end
abbrev zg1 (b1:Bool) (h:aG) (t1:aA):aG:=h.push { cls:=.type (itN b1),data:=.fields #[.ref t1,.int 0 0] }
abbrev zg2 (b1 b2:Bool) (h:aG) (t1 t2:aA):aG:=(zg1 b1 h t1).push { cls:=.type (itN b2),data:=.fields #[.ref t2,.int 0 0] }
abbrev zg3 (b1 b2:Bool) (h:aG) (t1 t2:aA):aG:=(zg2 b1 b2 h t1 t2).push { cls:=.type "tuple",data:=.seq #[.ref h.objs.size,.ref (zg1 b1 h t1).objs.size] }
abbrev zg4 (b1 b2:Bool) (h:aG) (t1 t2:aA):aG:=(zg3 b1 b2 h t1 t2).push { cls:=.type "tuple",data:=.seq #[.none,.none] }
abbrev zg5 (b1 b2:Bool) (h:aG) (t1 t2:aA):aG:=(zg4 b1 b2 h t1 t2).push { cls:=.type "zip",data:=.fields #[.none,.bool false,.bool false,.ref (zg2 b1 b2 h t1 t2).objs.size,.ref (zg3 b1 b2 h t1 t2).objs.size] }
theorem b3e (b1 b2:Bool) (t1 t2:aA) (xs ys:Array aC) :
  Meets (gH.«zip.__new__» ⟨[.type "zip",.ref t1,.ref t2],[]⟩) (λ _ R s=>IsB b1 s.heap t1 xs/\IsB b2 s.heap t2 ys/\R (.ok (.ret (.ref (zg4 b1 b2 s.heap t1 t2).objs.size))) { s with heap:=zg5 b1 b2 s.heap t1 t2 }) :=
 .of_wp λ prog w A R s h=>by
  obtain ⟨hp,g,d,tk,os⟩:=s;obtain ⟨e1,e2,h⟩:=h;have hsub:=sub_zip;have m1:IsB b1 (oA ⟨hp,g,d,tk,os⟩) t1 xs:=e1;have m2:IsB b2 (oA ⟨hp.push { cls:=.type (itN b1),data:=.fields #[.ref t1,.int 0 0] },g,d,tk,os⟩) t2 ys:=IsB.push e2 _
  wp_walk using a4A m1,a4A m2
  exact ⟨_,rfl,h⟩
section
variable {prog:aL} {w:aI} {A:aY} {E:aC->aD->Prop} {s:aD}
theorem a7g {b1 b2:Bool} {t1 t2:aA} {xs ys:Array aC} {Q:aC->aD->Prop} (l1:IsB b1 s.heap t1 xs) (l2:IsB b2 s.heap t2 ys)
  (q:∀ h',dN h' (s.heap.objs.size+4) (s.heap.objs.size+2) (s.heap.objs.size+3) .none->bH h' (s.heap.objs.size+2) (.ref s.heap.objs.size) (.ref (s.heap.objs.size+1))->bH h' (s.heap.objs.size+3) .none .none →
   ItB b1 h' s.heap.objs.size t1 0->ItB b2 h' (s.heap.objs.size+1) t2 0->(∀ c o,s.heap.get? c=some o->h'.get? c=some o)->Q (.ref (s.heap.objs.size+4)) { s with heap:=h' }) :
  wpAny (model prog w) A (call (.type "zip") [.ref t1,.ref t2]) Q E s:=by
 refine qF F.called_zip (by decide) (F.typeCall_zip_2 _ _) (F.newCall_zip_2 _ _) (λ ob=>F.args_object_init_3 ob _ _) F.entry_zip_new (b3e b1 b2 t1 t2 xs ys) ⟨l1,l2,?_⟩;have n1:(zg1 b1 s.heap t1).objs.size=s.heap.objs.size+1:=eQ ..;have n2:(zg2 b1 b2 s.heap t1 t2).objs.size=s.heap.objs.size+2:=by rw [eQ,n1]
 have n3:(zg3 b1 b2 s.heap t1 t2).objs.size=s.heap.objs.size+3:=by rw [eQ,n2]
 have n4:(zg4 b1 b2 s.heap t1 t2).objs.size=s.heap.objs.size+4:=by rw [eQ,n3]
 have p5:(zg5 b1 b2 s.heap t1 t2).get? (zg4 b1 b2 s.heap t1 t2).objs.size=some _:=cI _ rfl;have p4:(zg5 b1 b2 s.heap t1 t2).get? (zg3 b1 b2 s.heap t1 t2).objs.size=some _:=bE _ (cI _ rfl);have p3:(zg5 b1 b2 s.heap t1 t2).get? (zg2 b1 b2 s.heap t1 t2).objs.size=some _:=bE _ (bE _ (cI _ rfl));have p2:(zg5 b1 b2 s.heap t1 t2).get? (zg1 b1 s.heap t1).objs.size=some _:=bE _ (bE _ (bE _ (cI _ rfl)));have p1:(zg5 b1 b2 s.heap t1 t2).get? s.heap.objs.size=some _:=bE _ (bE _ (bE _ (bE _ (cI _ rfl))));rw [n2,n3,n4] at p5;rw [n1,n2] at p3;rw [n3] at p4;rw [n1] at p2
 show _/\_
 rw [n4];refine ⟨⟨_,p5,rfl⟩,q _ p5 p3 p4 (ItB.mk p1) (ItB.mk p2) λ c o m=>?_⟩;exact bE _ (bE _ (bE _ (bE _ (bE _ m))))
end
def Itg (b1 b2:Bool) (K:aE) (l1 l2:aA):It :=
  ⟨λ i H=>∃ xs ys x y,SqB b1 K H l1 xs/\SqB b2 K H l2 ys/\xs[i]?=some x/\ys[i]?=some y,
   λ i H x H'=>∃ p a b,H p=none/\x=.ref p/\H'=upd H p (.tup [a,b])/\∀ xs ys,SqB b1 K H l1 xs->SqB b2 K H l2 ys->xs[i]?=some a/\ys[i]?=some b,
   λ i H=>∃ xs ys,SqB b1 K H l1 xs/\SqB b2 K H l2 ys/\(xs.length<=i\/ys.length<=i)⟩
theorem b0O {b1 b2:Bool} {P:aL} {w:aI} {K:aE} {elts:List aN} {x1:Nat} {pos:Pos} {z ti to j1 j2 l1 l2:aA} (D:fD z ti to j1 j2 l1 l2) :
  a4E P w K (.Tuple elts x1 pos) (Itg b1 b2 K l1 l2) [z,ti,to,j1,j2] z (λ i h=>dN h z ti to .none/\bH h ti (.ref j1) (.ref j2)/\(∃ a b,bH h to a b)/\ItB b1 h j1 l1 i/\ItB b2 h j2 l2 i) where
 mem:=by simp
 obj:=λ i h st b hb=>by
  obtain ⟨hz,hti,⟨a,c,hto⟩,h1,h2⟩:=st;obtain ⟨o1,e1,v1,d1⟩:=h1.obj;obtain ⟨o2,e2,v2,d2⟩:=h2.obj;simp only [bD,bX,or_false] at hb;rcases hb with rfl | rfl | rfl | rfl | rfl
  ·exact ⟨_,hz,λ v q=>by cases q⟩
  ·exact ⟨_,hti,λ v q=>by cases q⟩
  ·exact ⟨_,hto,λ v q=>by cases q⟩
  ·exact ⟨o1,e1,λ v q=>by rw [d1] at q; cases q⟩
  ·exact ⟨o2,e2,λ v q=>by rw [d2] at q; cases q⟩
 keep:=λ i h h' st k=>by
  obtain ⟨hz,hti,⟨a,c,hto⟩,h1,h2⟩:=st;exact ⟨k z (by simp) _ hz,k ti (by simp) _ hti,⟨a,c,k to (by simp) _ hto⟩,ItB.at' h1 λ o e=>k j1 (by simp) o e,ItB.at' h2 λ o e=>k j2 (by simp) o e⟩
 item:=by
  intro X hP hw hK hc i pins s σ H E I hf st hg;subst hP hw hK;obtain ⟨xs,ys,x,y,hq1,hq2,hx,hy⟩:=hg;obtain ⟨hz,hti,⟨a,c,hto⟩,h1,h2⟩:=st;obtain ⟨its1,rv1,p1,_⟩:=I.sqB hq1;obtain ⟨its2,rv2,p2,_⟩:=I.sqB hq2;obtain ⟨u1,hu1,ru1⟩:=rv1.get hx;obtain ⟨u2,hu2,ru2⟩:=rv2.get hy;refine b1K D hz hti hto h1 h2 p1 p2 (x:=u1) (y:=u2) (by simpa using hu1) (by simpa using hu2) λ h' a1 a2 a3 a4 a5 a7=>?_;refine ⟨_,rfl,wpAny_letOwnedTupleGo_zip (s:={ s with heap:=h' }) a1 λ h'' hz'' hs''=>?_⟩;have neT:∀ b∈[z,ti,to,j1,j2],b≠s.heap.objs.size:=λ b hb e=>by
   have:∃ o,s.heap.get? b=some o:=by
    obtain ⟨o1,e1,_⟩:=h1.obj;obtain ⟨o2,e2,_⟩:=h2.obj;simp only [bD,bX,or_false] at hb;rcases hb with rfl | rfl | rfl | rfl | rfl
    ·exact ⟨_,hz⟩
    ·exact ⟨_,hti⟩
    ·exact ⟨_,hto⟩
    ·exact ⟨_,e1⟩
    ·exact ⟨_,e2⟩
   obtain ⟨o,ho⟩:=this;exact absurd (bC ho) (by rw [e]; exact cN _)
  have kk:∀ b o,b ∉ [z,ti,to,j1,j2]->s.heap.get? b=some o->h''.get? b=some o:=λ b o hb e=>by
   simp only [bD,bX,or_false,not_or] at hb;exact hs''.extBut b o hb.1 (a7 b o hb.1 hb.2.2.1 hb.2.2.2.1 hb.2.2.2.2 e)
  have tti:h'.get? ti=_:=a7 ti _ D.TIz D.TITO D.TIi1 D.TIi2 hti;have st':dN h'' z ti to .none/\bH h'' ti (.ref j1) (.ref j2)/\(∃ a b,bH h'' to a b)/\ItB b1 h'' j1 l1 (i+1)/\ItB b2 h'' j2 l2 (i+1) :=
   ⟨hz'',hs''.extBut _ _ D.TIz tti,⟨_,_,hs''.extBut _ _ D.TOz a2⟩,a3.extBut hs''.extBut D.i1z,a4.extBut hs''.extBut D.i2z⟩
  have hoF:∀ b∈[z,ti,to,j1,j2],∃ o,h''.get? b=some o:=λ b hb=>by
   obtain ⟨q1,q2,⟨_,_,q3⟩,q4,q5⟩:=st';obtain ⟨o1,e1,_⟩:=q4.obj;obtain ⟨o2,e2,_⟩:=q5.obj;simp only [bD,bX,or_false] at hb;rcases hb with rfl | rfl | rfl | rfl | rfl
   ·exact ⟨_,q1⟩
   ·exact ⟨_,q2⟩
   ·exact ⟨_,q3⟩
   ·exact ⟨_,e1⟩
   ·exact ⟨_,e2⟩
  have zs:z≠s.heap.objs.size:=neT z (by simp);have tup:fT h'' s.heap.objs.size [u1,u2].toArray:=⟨_,hs''.extBut _ _ (bI zs) a5,rfl,0,rfl⟩;refine ⟨.ref s.heap.objs.size,upd H s.heap.objs.size (.tup [x,y]),I.turnedLaid (h':=h'') hf kk hoF (aU _) (by show 2<=sizeLine; decide) (.cons ru1 (.cons ru2 .nil)) tup,rfl,⟨_,x,y,I.fresh,rfl,rfl,λ xs' ys' q1 q2=>?_⟩,st',λ b hb=>?_⟩
  ·rw [I.sqB_inj q1 hq1,I.sqB_inj q2 hq2]; exact ⟨hx,hy⟩
  ·rw [i7 (neT b hb)]; exact (hf b hb).1
 done:=by
  intro X hP hw hK hc i pins s σ H E I hf st hg;subst hP hw hK;obtain ⟨xs,ys,hq1,hq2,hend⟩:=hg;obtain ⟨hz,hti,⟨a,c,hto⟩,h1,h2⟩:=st;obtain ⟨its1,rv1,p1,_⟩:=I.sqB hq1;obtain ⟨its2,rv2,p2,_⟩:=I.sqB hq2;have hl1:=rv1.length;have hl2:=rv2.length;refine b1l (I.ok.hd hc) D hz hti hto h1 h2 p1 p2 (by
   rcases hend with q | q
   ·exact .inl (by simp; omega)
   ·exact .inr (by simp; omega)) λ h' k=>⟨rfl,I.turnedAll hf λ b o hb e=>?_⟩
  simp only [bD,bX,or_false,not_or] at hb;exact k b o hb.1 hb.2.2.1 hb.2.2.2.1 hb.2.2.2.2 e
 self:=λ _ _ _ _ _ st h=>lU st.1 h
def iZg (b1 b2:Bool) (K:aE) (ta:TA):TI:=λ σ H R=>ta σ H λ vs H1=>∃ l1 l2,vs=[.ref l1,.ref l2]/\(∃ xs,SqB b1 K H1 l1 xs)/\(∃ ys,SqB b2 K H1 l2 ys)/\R (Itg b1 b2 K l1 l2) H1
theorem a7j (b1 b2:Bool) (K:aE) {X:Cx} {a b:aN} {ta:TA} {p pos pos':Pos} {elts:List aN} {x1:Nat} (hK:X.K=K) (hg:Gl X "zip") (hm:X.mg "zip"=none) (ha:PA X [a,b] ta) (hs:starEach [a,b] X.env=[(false,eval a X.env),(false,eval b X.env)]:=by rfl) (hs2:starEach [b] X.env=[(false,eval b X.env)]:=by rfl) :
  PI X (.Tuple elts x1 pos') (.Call (.Name "zip" p) [a,b] [] pos) (iZg b1 b2 K ta):=by
 subst hK;intro pins s σ H R I h;refine jQ (T9 I hg hm boot_zip (iZ (A7 (ha pos pins s σ H _ I h) λ us s1 ⟨vs,H1,I1,r1,q1⟩=>?_) (by rw [hs,hs2]) (by rw [hs2]; rfl)));obtain ⟨l1,l2,e,⟨xs,q1⟩,⟨ys,q2⟩,q⟩:=q1;subst e;obtain ⟨u1,u2,rfl,ru1,ru2⟩:=a2p r1
 cases ru1
 cases ru2;obtain ⟨its1,rv1,p1,_⟩:=I1.sqB q1;obtain ⟨its2,rv2,p2,_⟩:=I1.sqB q2;refine a7g p1 p2 λ h' z1 z2 z3 z4 z5 k=>?_;have I2:Inv X pins σ H1 { s1 with heap:=h' }:=I1.kept (t':=s1.toks) k;refine lU z1 ?_;have D:fD (s1.heap.objs.size+4) (s1.heap.objs.size+2) (s1.heap.objs.size+3) s1.heap.objs.size (s1.heap.objs.size+1) l1 l2:=a9r _ _ _ p1.lt p2.lt;refine ⟨s1.heap.objs.size+4,[s1.heap.objs.size+4,s1.heap.objs.size+2,s1.heap.objs.size+3,s1.heap.objs.size,s1.heap.objs.size+1],_,_,H1,rfl,I2,b0O D,⟨z1,z2,⟨_,_,z3⟩,z4,z5⟩,λ b hb=>?_,q⟩;have hb':s1.heap.objs.size<=b:=by
  simp only [bD,bX,or_false] at hb;rcases hb with rfl | rfl | rfl | rfl | rfl
  ·exact gN _ _
  ·exact gN _ _
  ·exact gN _ _
  ·exact aU _
  ·exact gN _ _
 exact I1.fpOk hb' (I1.hok.fresh hb')
section
variable {b1 b2:Bool} {xs ys:List V} {K:aE} {l1 l2:aA} {fr:List Nat} {te:TE} {σ:St} {H1:Hp} {p:aA} {D:Hp->Prop}
theorem a8X (h1:SqB b1 K H1 l1 xs) (h2:SqB b2 K H1 l2 ys) (hp:H1 p=none) (hz:xs.length<sizeLine) (R:Nat->V->Hp->Prop) (hR:∀ i y H H',R i y H->(∀ b o,b≠p->H b=some o->H' b=some o)->R i y H')
  (step:∀ (i:Nat) x y H zs (N:VK),xs[i]?=some x->ys[i]?=some y->Same H1 H->H p=some (.lst zs)->(∀ v H3,Same H H3->R i v H3->N v H3)->te (((blkσ 2 fr σ).set 0 (some x)).set 1 (some y)) H N)
  (hd:∀ zs H,Same H1 H->H p=some (.lst zs)->zs.length=min xs.length ys.length->(∀ i z,zs[i]?=some z->R i z H)->D H):lcW 2 fr (a4j K 2 (R6 (K9 0) (R6 (K9 1) a4J))) te σ (Itg b1 b2 K l1 l2) H1 p D:=by
 refine ⟨λ i m zs H=>m=min xs.length ys.length - i/\i<=min xs.length ys.length/\Same H1 H/\H p=some (.lst zs)/\zs.length=i/\∀ j y,zs[j]?=some y->R j y H,⟨_,rfl,dA _,Same.new hp _,upd_same,rfl,λ j y e=>by simp at e⟩,?_⟩;rintro i m zs H ⟨rfl,hi,e,hH,len,pr⟩
 by_cases hlt:i<min xs.length ys.length
 ·have hx:i<xs.length:=by omega
  have hy:i<ys.length:=by omega
  refine .inr ⟨⟨xs,ys,xs[i],ys[i],e.sqB h1,e.sqB h2,aV hx,aV hy⟩,λ u H' y=>?_⟩;obtain ⟨q,a,b,hq,rfl,rfl,hab⟩:=y;obtain ⟨ha,hb⟩:=hab xs ys (e.sqB h1) (e.sqB h2);have s1:=Same.new hq (.tup [a,b]);refine ⟨q,_,rfl,SqT.of upd_same,rfl,_,_,rfl,_,_,rfl,rfl,?_,?_⟩
  ·refine ⟨by simp,λ k w ek=>?_⟩
   have:¬ k<2:=λ hk=>by
    unfold blkσ at ek;rw [dB (by simpa using hk),fU] at ek
    split at ek <;> cases ek
   rw [bY (by omega),bY (by omega)]; exact ek
  ·refine step i a b _ zs _ ha hb (e.trans s1) (s1 _ _ hH) λ v H3 s3 r3=>⟨s3 _ _ (s1 _ _ hH),by omega,min xs.length ys.length - (i+1),by omega,rfl,hlt,λ b' o q'=>?_,upd_same,by rw [bF,len]; rfl,λ j y ey=>?_⟩
   ·rw [i7 (i9 q' hp)]; exact s3 _ _ (s1 _ _ (e _ _ q'))
   ·have up:∀ b o,b≠p->H3 b=some o->upd H3 p (.lst (zs++[v])) b=some o:=λ b o hb q=>by rw [i7 hb]; exact q
    by_cases hj:j<zs.length
    ·rw [dB hj] at ey
     exact hR j y _ _ (pr j y ey) λ b o hb q=>up b o hb (s3 _ _ (s1 _ _ q))
    ·rw [dP (by omega)] at ey
     have hj':j - zs.length=0:=by
      cases q:j - zs.length with
      | zero=>rfl
      | succ k=>rw [q] at ey; simp at ey
     rw [hj'] at ey;have:j=i:=by omega
     subst this;simp at ey;subst ey;exact hR j v _ _ r3 up
 ·have:i=min xs.length ys.length:=by omega
  subst this;exact .inl ⟨⟨xs,ys,e.sqB h1,e.sqB h2,by omega⟩,hd zs H e hH len pr⟩
theorem b1Z (h1:SqB b1 K H1 l1 xs) (h2:SqB b2 K H1 l2 ys) (hp:H1 p=none) (hz:xs.length<sizeLine) (F:V->V->V)
  (step:∀ (i:Nat) x y H (N:VK),xs[i]?=some x->ys[i]?=some y->Same H1 H->N (F x y) H->te (((blkσ 2 fr σ).set 0 (some x)).set 1 (some y)) H N)
  (hd:∀ H,Same H1 H->H p=some (.lst (dQ F xs ys))->D H):lcW 2 fr (a4j K 2 (R6 (K9 0) (R6 (K9 1) a4J))) te σ (Itg b1 b2 K l1 l2) H1 p D:=by
 refine a8X h1 h2 hp hz (λ i v _=>∀ x y,xs[i]?=some x->ys[i]?=some y->v=F x y) (λ _ _ _ _ r _=>r) (λ i x y H zs N hx hy e _ hN=>step i x y H N hx hy e (hN _ _ (Same.refl _) λ x' y' ex ey=>?_)) λ zs H e hH hl hr=>hd H e ?_
 ·rw [hx] at ex; rw [hy] at ey; cases ex; cases ey; rfl
 ·rw [hH]
  congr 2
  refine eD λ i=>?_
  by_cases hi:i<min xs.length ys.length
  ·have a1:i<zs.length:=by omega
   have a2:i<xs.length:=by omega
   have a3:i<ys.length:=by omega
   rw [aV a1,aV (by rw [kH]; exact hi),List.getElem_zipWith,hr i _ (aV a1) _ _ (aV a2) (aV a3)]
  ·rw [cK (by omega),cK (by rw [kH]; omega)]
theorem b3m {i1 i2:Nat} {tb:TS} {D:Ends} {H:Hp} (Pv:Nat->St->Hp->Prop) (h0:Pv 0 σ H) (hl:∀ i σ H,Pv i σ H->SqB b1 K H l1 xs/\SqB b2 K H l2 ys)
  (hs:∀ i x y σ H q,xs[i]?=some x->ys[i]?=some y->Pv i σ H->H q=none->tb { D with nx:=Pv (i+1),ct:=Pv (i+1),bk:=D.nx } ((σ.set i1 (some x)).set i2 (some y)) (upd H q (.tup [x,y]))) (hd:∀ σ H,Pv (min xs.length ys.length) σ H->D.nx σ H) :
  ∃ W:Nat->Nat->St->Hp->Prop,(∃ m,W 0 m σ H)/\∀ i m σ H,W i m σ H →
   ((Itg b1 b2 K l1 l2).stop i H/\D.nx σ H)\/((Itg b1 b2 K l1 l2).go i H/\∃ N:St->Hp->Prop,(∀ σ' H',N σ' H'->∃ m',m'<m/\W (i+1) m' σ' H')/\∀ x H',(Itg b1 b2 K l1 l2).yld i H x H'->a4j K 2 (R6 (K9 i1) (R6 (K9 i2) a4J)) x σ H' λ σ2 H2=>tb { D with nx:=N,ct:=N,bk:=D.nx } σ2 H2):=by
 refine ⟨λ i m σ H=>m=min xs.length ys.length - i/\i<=min xs.length ys.length/\Pv i σ H,⟨_,rfl,dA _,h0⟩,?_⟩;rintro i m σ H ⟨rfl,hi,p⟩;obtain ⟨q1,q2⟩:=hl i σ H p
 by_cases hlt:i<min xs.length ys.length
 ·have hx:i<xs.length:=by omega
  have hy:i<ys.length:=by omega
  refine .inr ⟨⟨xs,ys,xs[i],ys[i],q1,q2,aV hx,aV hy⟩,Pv (i+1),λ σ' H' p'=>⟨min xs.length ys.length - (i+1),by omega,rfl,hlt,p'⟩,λ u H' y=>?_⟩;obtain ⟨q,a,b,hq,rfl,rfl,hab⟩:=y;obtain ⟨ha,hb⟩:=hab xs ys q1 q2;exact ⟨q,_,rfl,SqT.of upd_same,rfl,_,_,rfl,_,_,rfl,rfl,hs i a b σ H q ha hb p hq⟩
 ·have:i=min xs.length ys.length:=by omega
  subst this;exact .inl ⟨⟨xs,ys,q1,q2,by omega⟩,hd σ H p⟩
end
def Ite (K:aE) (l:aA):It :=
  ⟨λ i H=>∃ xs x,SqL K H l xs/\xs[i]?=some x,
   λ i H x H'=>∃ p a,H p=none/\x=.ref p/\H'=upd H p (.tup [.int (i:Int),a])/\∀ xs,SqL K H l xs->xs[i]?=some a,
   λ i H=>∃ xs,SqL K H l xs/\xs.length<=i⟩
theorem a8k {P:aL} {w:aI} {K:aE} {elts:List aN} {x1:Nat} {pos:Pos} {e it l:aA} (hne:e≠it) (hle:l≠e) (hli:l≠it) :
  a4E P w K (.Tuple elts x1 pos) (Ite K l) [e,it] e (λ i h=>(∃ old,eX h e it (i:Int) old)/\h.IsListIter it l i) where
 mem:=by simp
 obj:=λ i h st b hb=>by
  obtain ⟨⟨old,he⟩,⟨o1,e1,c1,d1⟩⟩:=st;simp only [bD,bX,or_false] at hb;rcases hb with rfl | rfl
  ·exact ⟨_,he,λ v q=>by cases q⟩
  ·exact ⟨o1,e1,λ v q=>by rw [d1] at q; cases q⟩
 keep:=λ i h h' st k=>by
  obtain ⟨⟨old,he⟩,h1⟩:=st;exact ⟨⟨old,k e (by simp) _ he⟩,h1.at λ o q=>k it (by simp) o q⟩
 item:=by
  intro X hP hw hK hc i pins s σ H E I hf st hg;subst hP hw hK;obtain ⟨xs,x,hq,hx⟩:=hg;obtain ⟨⟨old,he⟩,h1⟩:=st;obtain ⟨its,rv,p,_⟩:=I.list hq;obtain ⟨u,hu,ru⟩:=rv.get hx;refine wpAny_pyNext_enum_item he h1 p.isList (x:=u) (by simpa using hu) hne λ h' a1 a2 a3 a4 a5=>?_;refine ⟨_,rfl,qG (s:={ s with heap:=h',toks:=s.toks+1 }) a1 λ h'' he'' hs''=>?_⟩;have ie:s.heap.get? e=_:=he;obtain ⟨o1,ei,_⟩:=id h1;have neT:∀ b∈[e,it],b≠s.heap.objs.size:=λ b hb q=>by
   have:∃ o,s.heap.get? b=some o:=by
    simp only [bD,bX,or_false] at hb;rcases hb with rfl | rfl
    ·exact ⟨_,ie⟩
    ·exact ⟨_,ei⟩
   obtain ⟨o,ho⟩:=this;exact absurd (bC ho) (by rw [q]; exact cN _)
  have kk:∀ b o,b ∉ [e,it]->s.heap.get? b=some o->h''.get? b=some o:=λ b o hb q=>by
   simp only [bD,bX,or_false,not_or] at hb;exact hs''.extBut b o hb.1 (a5 b o hb.1 hb.2 q)
  have it'':h''.IsListIter it l (i+1):=a2.extBut hs''.extBut (bI hne);have hoF:∀ b∈[e,it],∃ o,h''.get? b=some o:=λ b hb=>by
   obtain ⟨o2,e2,_⟩:=it'';simp only [bD,bX,or_false] at hb;rcases hb with rfl | rfl
   ·exact ⟨_,he''⟩
   ·exact ⟨_,e2⟩
  have es:e≠s.heap.objs.size:=neT e (by simp);have tup:fT h'' s.heap.objs.size [fR (i:Int) s.toks,u].toArray:=⟨_,hs''.extBut _ _ (bI es) a3,rfl,0,rfl⟩;refine ⟨.ref s.heap.objs.size,upd H s.heap.objs.size (.tup [.int (i:Int),x]),(I.turnedLaid (h':=h'') hf kk hoF (aU _) (by show 2<=sizeLine; decide) (show Vals [.int (i:Int),x] [fR (i:Int) s.toks,u] from .cons ⟨_,rfl⟩ (.cons ru .nil)) tup).tok _,rfl,⟨_,x,I.fresh,rfl,rfl,λ xs' q1=>?_⟩,⟨⟨_,he''⟩,it''⟩,λ b hb=>?_⟩
  ·rw [I.list_inj q1 hq]; exact hx
  ·rw [i7 (neT b hb)]; exact (hf b hb).1
 done:=by
  intro X hP hw hK hc i pins s σ H E I hf st hg;subst hP hw hK;obtain ⟨xs,hq,hend⟩:=hg;obtain ⟨⟨old,he⟩,h1⟩:=st;obtain ⟨its,rv,p,_⟩:=I.list hq;have hl:=rv.length;refine wpAny_pyNext_enum_end (I.ok.hd hc) he h1 p.isList (by simp; omega) λ h' k=>⟨rfl,I.turnedAll hf λ b o hb q=>?_⟩;simp only [bD,bX,or_false,not_or] at hb;exact k b o hb.2 q
 self:=λ _ _ _ _ _ st h=>by
  obtain ⟨⟨old,he⟩,_⟩:=st;exact kJ he h
def b4G (K:aE) (ta:TA):TI:=λ σ H R=>ta σ H λ vs H1=>∃ l,vs=[.ref l]/\(∃ xs,SqL K H1 l xs)/\R (Ite K l) H1
theorem a4b (K:aE) {X:Cx} {a:aN} {ta:TA} {p pos pos':Pos} {elts:List aN} {x1:Nat} (hK:X.K=K) (hg:Gl X "enumerate") (hm:X.mg "enumerate"=none) (ha:PA X [a] ta) (hs:starEach [a] X.env=[(false,eval a X.env)]:=by rfl) (hs2:starEach ([]:List aN) X.env=[]:=by rfl) :
  PI X (.Tuple elts x1 pos') (.Call (.Name "enumerate" p) [a] [] pos) (b4G K ta):=by
 subst hK;intro pins s σ H R I h;refine jQ (T9 I hg hm qH (iZ (A7 (ha pos pins s σ H _ I h) λ us s1 ⟨vs,H1,I1,r1,q1⟩=>?_) (by rw [hs,hs2]) (by rw [hs2]; rfl)));obtain ⟨l,e,⟨xs,q1⟩,q⟩:=q1;subst e;obtain ⟨u,rfl,ru⟩:=P7 r1
 cases ru;obtain ⟨its,rv,p,_⟩:=I1.list q1;have lt1:l<s1.heap.objs.size:=by obtain ⟨_,e,_⟩:=p.isList; exact bC e
 refine call_enumerate_list p.isList λ h' z1 z2 z3 k=>?_;have I2:Inv X pins σ H1 { s1 with heap:=h' }:=I1.kept (t':=s1.toks) k;refine kJ z1 ?_;refine ⟨s1.heap.objs.size+1,[s1.heap.objs.size+1,s1.heap.objs.size],_,_,H1,rfl,I2,a8k (l:=l) (e:=s1.heap.objs.size+1) (it:=s1.heap.objs.size) (uO _) (cF (jZ lt1)) (cF lt1),⟨⟨_,z1⟩,z2⟩,λ b hb=>?_,q⟩;have hb':s1.heap.objs.size<=b:=by
  simp only [bD,bX,or_false] at hb;rcases hb with rfl | rfl
  ·exact mX _
  ·exact aU _
 exact I1.fpOk hb' (I1.hok.fresh hb')
section
variable {xs ys:List V} {K:aE} {l1 l2:aA} {fr:List Nat} {te:TE} {σ:St} {H1:Hp} {p:aA} {D:Hp->Prop}
theorem a2o {i1 i2:Nat} {tb:TS} {D:Ends} {H:Hp} (Pv:Nat->St->Hp->Prop) (h0:Pv 0 σ H) (hl:∀ i σ H,Pv i σ H->SqL K H l1 xs)
  (hs:∀ i x σ H q,xs[i]?=some x->Pv i σ H->H q=none->tb { D with nx:=Pv (i+1),ct:=Pv (i+1),bk:=D.nx } ((σ.set i1 (some (.int (i:Int)))).set i2 (some x)) (upd H q (.tup [.int (i:Int),x]))) (hd:∀ σ H,Pv xs.length σ H->D.nx σ H) :
  ∃ W:Nat->Nat->St->Hp->Prop,(∃ m,W 0 m σ H)/\∀ i m σ H,W i m σ H →
   ((Ite K l1).stop i H/\D.nx σ H)\/((Ite K l1).go i H/\∃ N:St->Hp->Prop,(∀ σ' H',N σ' H'->∃ m',m'<m/\W (i+1) m' σ' H')/\∀ x H',(Ite K l1).yld i H x H'->a4j K 2 (R6 (K9 i1) (R6 (K9 i2) a4J)) x σ H' λ σ2 H2=>tb { D with nx:=N,ct:=N,bk:=D.nx } σ2 H2):=by
 refine ⟨λ i m σ H=>m=xs.length - i/\i<=xs.length/\Pv i σ H,⟨_,rfl,dA _,h0⟩,?_⟩;rintro i m σ H ⟨rfl,hi,p⟩;have q1:=hl i σ H p
 by_cases hlt:i<xs.length
 ·refine .inr ⟨⟨xs,xs[i],q1,aV hlt⟩,Pv (i+1),λ σ' H' p'=>⟨xs.length - (i+1),by omega,rfl,hlt,p'⟩,λ u H' y=>?_⟩
  obtain ⟨q,a,hq,rfl,rfl,hab⟩:=y;have ha:=hab xs q1;exact ⟨q,_,rfl,SqT.of upd_same,rfl,_,_,rfl,_,_,rfl,rfl,hs i a σ H q ha p hq⟩
 ·have:i=xs.length:=by omega
  subst this;exact .inl ⟨⟨xs,q1,by omega⟩,hd σ H p⟩
end
end L2
namespace Fr
abbrev Q2:=Int×Int
def gI (a b:Int):Int:=(qI a b:Int)
def low (t b:Int):Q2:=(t / gI t b,b / gI t b)
def a6C (f:Q2):Prop:=0<f.2/\qI f.1 f.2=1
theorem a0b (a b:Int):0<=gI a b:=Int.natCast_nonneg _
theorem P0 (a b:Int):gI a b∣a:=Int.gcd_dvd_left ..
theorem C9 (a b:Int):gI a b∣b:=Int.gcd_dvd_right ..
theorem a2I {a b:Int} (hb:0<b):0<gI a b:=by
 have h0:=a0b a b
 by_cases z:gI a b=0
 ·have:=C9 a b
  rw [z,Int.zero_dvd] at this;omega
 ·omega
theorem b4n {a b:Int} (hb:0<b):gI a b<=b:=uP hb (C9 a b)
theorem a6f {c a b:Int} (h1:c∣a) (h2:c∣b):c∣gI a b:=Int.dvd_coe_gcd h1 h2
theorem a1j {a b:Int} (ha:0<=a) (hb:0<=b) (h1:a∣b) (h2:b∣a):a=b:=Int.dvd_antisymm ha hb h1 h2
theorem b1N (a b:Int):gI b (a % b)=gI a b:=by
 refine a1j (a0b _ _) (a0b _ _) (a6f ?_ (P0 _ _)) (a6f (C9 _ _) ?_)
 ·have h1:=P0 b (a % b)
  have h2:=C9 b (a % b);have:=Int.dvd_add (uQ (c:=a / b) h1) h2;rw [Int.mul_ediv_add_emod] at this;exact this
 ·have h1:=P0 a b
  have h2:=C9 a b;have:=Int.dvd_sub h1 (uQ (c:=a / b) h2);rw [Int.emod_def];exact this
theorem b1s (a:Int):gI a 0=a.natAbs:=by unfold gI; rw [Int.gcd_zero_right]
theorem a3Y {t b:Int} (hb:0<b):0<(low t b).2:=by
 have h:=a2I (a:=t) hb;obtain ⟨k,hk⟩:=C9 t b
 show 0<b / gI t b
 have e:b / gI t b=k:=by
  have:b / gI t b=(gI t b*k) / gI t b:=by rw [<- hk]
  rw [this,uR _ (by omega)]
 rw [e]
 by_cases z:0<k
 ·exact z
 ·have:=eE (bR h) (show 0 <= -k by omega)
  rw [eY] at this;omega
theorem Q6 {t b:Int} (hb:0<b):t=gI t b*(low t b).1/\b=gI t b*(low t b).2 :=
 ⟨(uS (P0 t b)).symm,(uS (C9 t b)).symm⟩
theorem low_cross {t b:Int} (hb:0<b):(low t b).1*b=t*(low t b).2:=by
 obtain ⟨h1,h2⟩:=Q6 (t:=t) hb;generalize gI t b=g at h1 h2;generalize low t b=f at h1 h2;rw [h1,h2]
 ac_rfl
theorem a1f {t b:Int} (hb:0<b):a6C (low t b):=by
 refine ⟨a3Y hb,?_⟩;obtain ⟨h1,h2⟩:=Q6 (t:=t) hb;have hg:=a2I (a:=t) hb;have q:gI t b*gI (low t b).1 (low t b).2∣gI t b*1:=by
  rw [iE];refine a6f ?_ ?_
  ·have:=uT (gI t b) (P0 (low t b).1 (low t b).2)
   rw [<- h1] at this;exact this
  ·have:=uT (gI t b) (C9 (low t b).1 (low t b).2)
   rw [<- h2] at this;exact this
 have q2:gI (low t b).1 (low t b).2∣1:=Int.dvd_of_mul_dvd_mul_left (by omega) q;have q3:gI (low t b).1 (low t b).2=1:=a1j (a0b _ _) (by decide) q2 (Int.one_dvd _);unfold gI at q3;omega
theorem a1F {a b c:Int} (h:qI a b=1) (d:b∣a*c):b∣c:=by
 have h':Nat.Coprime b.natAbs a.natAbs:=by
  rw [Nat.coprime_comm]; exact h
 have d':b.natAbs∣a.natAbs*c.natAbs:=by rw [<- qJ]; exact uU.mpr d
 exact uU.mp (h'.dvd_of_dvd_mul_left d')
theorem a4h {f g:Q2} (hf:a6C f) (hg:a6C g) (h:f.1*g.2=g.1*f.2):f=g:=by
 have d1:f.2∣g.2:=a1F hf.2 ⟨g.1,by rw [h,bJ]⟩;have d2:g.2∣f.2:=a1F hg.2 ⟨f.1,by rw [<- h,bJ]⟩;have e2:f.2=g.2:=a1j (bR hf.1) (bR hg.1) d1 d2;have e1:f.1=g.1:=by
  rw [e2] at h;exact qK (by have:=hg.1; omega) h
 exact Prod.ext e1 e2
theorem b0m {t b t' b':Int} (hb:0<b) (hb':0<b') (h:t*b'=t'*b):low t b=low t' b':=by
 refine a4h (a1f hb) (a1f hb') ?_;have c1:=low_cross (t:=t) hb;have c2:=low_cross (t:=t') hb';generalize low t b=x at c1 ⊢;generalize low t' b'=y at c2 ⊢;refine qK (a:=b*b') (by have:=eF hb hb'; omega) ?_
 calc x.1*y.2*(b*b')=(x.1*b)*(y.2*b'):=by ac_rfl
  _=(t*b')*(x.2*y.2):=by rw [c1]; ac_rfl
  _=(t'*y.2)*(b*x.2):=by rw [h]; ac_rfl
  _=(y.1*b')*(b*x.2):=by rw [c2]
  _=y.1*x.2*(b*b'):=by ac_rfl
end Fr
namespace L2
open PySem PySem.Spec PyProof.Rows
abbrev a5K (X:Cx) (qual:Str) (scope:bS) (f:aA) (cd:aC) (C:aA):Env:=W.envX qual scope C f cd (clo X.env scope.names [])
def a6v (X:Cx) (col:Str) (fr:List Nat) (qual:Str) (scope:bS) (f:aA) (cd:aC) (A':aY) (s₀:aD) (H₀:Hp):Cx :=
  { X with N:=col::fr.map (λ j=>X.N.getD j ""),s₀:=s₀,H₀:=H₀,A:=A'.deeper (a5K X qual scope f cd s₀.heap.objs.size),env:=a5K X qual scope f cd s₀.heap.objs.size,outer:=X.stack,
           stack:=a5K X qual scope f cd s₀.heap.objs.size::X.stack,ex:=[],fn:=λ _=>false,pn:=[],xe:=λ _ _=>False }
section
variable {X:Cx} {pins:List (aA×Obj)} {σ:St} {H:Hp} {s:aD} {fr:List Nat} {scope:bS} {col:Str} {qual:Str} {f:aA} {cd:aC} {A':aY}
theorem Z1 {env:Env} {l:List (Str×NameKind)} {x:Str} {c:aA} (e:(clo env l []).lookup x=some c):env.cells.lookup x=some c:=a0I (cs:=[]) (λ _ _ z=>by simp at z) e
theorem Inv.lam {h₁:aG} {t':Nat} {v:V} {u:aC} (I:Inv X pins σ H s) (hA:A'.frames=some X.stack) (hh:A'.handled=X.A.handled) (hk:scope.kind=.function) (h:a0n X.env.scope scope X.N fr=true)
  (hcell:∀ x∈scope.names,x.2≠.cell) (hcol:scope.names.lookup col=some .local) (hns:h₁.Ns s.heap.objs.size λ x=>[(col,u)].reverse.lookup x) (hkeep:∀ b o,s.heap.get? b=some o->h₁.get? b=some o) (r:RelV v u) :
  Inv (a6v X col fr qual scope f cd A' s H) [] (some v::frv fr σ) H { s with heap:=h₁,toks:=t' } where
 ok:={
  mod:=I.ok.mod
  kind:=hk
  glob:=rfl
  blt:=rfl
  above:=aU _
  inj:=λ x y c e1 e2=>I.ok.inj x y c (Z1 e1) (Z1 e2)
  has:=λ x hx=>by
   have hx':scope.names.lookup x=some .cell\/scope.names.lookup x=some .free:=hx;rcases hx' with e | e
   ·exact absurd rfl (hcell _ (K4 e))
   ·exact Z4 (S7 I h x (K4 e)) (K4 e)
  cab:=λ x c hx=>by cases (show false=true from hx)
  hd:=λ z=>by
   show A'.handled=none
   rw [hh];exact I.ok.hd z
  frames:=pG hA
  stk:=.inr ⟨rfl,rfl⟩
  exf:=λ b hb=>by cases (show b∈([]:List aA) from hb)
  bs:=I.bs
  bsz:=cO I.ok.bsz I.sz
  noex:=λ b o _ hb=>by cases (show b∈([]:List aA) from hb)
  exfs:=λ b hb=>by cases (show b∈([]:List aA) from hb)
  funs:=I.stack
  frf:=I.stkFree }
 os:=rfl
 bare:=I.bare
 base:=Un.kept hkeep
 loc:=by
  refine ⟨_,hns,λ i x w e1 e2 _=>?_⟩
  cases i with
  | zero =>
   have hx:col=x:=bG e1;have hv:v=w:=bG (bG e2);subst hx;subst hv;exact ⟨u,r,.inl ⟨hcol,by simp [iI]⟩⟩
  | succ i =>
   have e1':(fr.map λ j=>X.N.getD j "")[i]?=some x:=e1;have e2':(fr.map λ j=>(σ[j]?).join)[i]?=some (some w):=e2;rw [aQ] at e1' e2'
   cases q:fr[i]? with
   | none=>rw [q] at e1'; cases e1'
   | some j =>
    rw [q] at e1' e2';have hj:j∈fr:=bN q;obtain ⟨hjl,hjc,hjf⟩:=b2m h j hj;have ex:X.N.getD j ""=x:=bG e1';have ev:(σ[j]?).join=some w:=bG e2';have hN:X.N[j]?=some x:=by
     rw [<- ex,aZ,aV hjl]; rfl
    have hσ:σ[j]?=some (some w):=by
     cases r:σ[j]? with
     | none=>rw [r] at ev; cases ev
     | some y=>rw [r] at ev; exact congrArg some ev
    rw [ex] at hjc hjf;obtain ⟨m,_,hl⟩:=I.loc;obtain ⟨u',r',lk⟩:=hl j x w hN hσ (.inr (.inl hjc));refine ⟨u',r',?_⟩;have kc:tL X.env x=some .cell:=hjc;rcases lk with ⟨k1,_⟩ | ⟨_,c,ec,o,ho',hd⟩
    ·rw [kc] at k1; cases k1
    ·obtain ⟨c',hc'⟩:=Z4 (env:=X.env) (cs:=[]) ⟨c,ec⟩ (K4 hjf)
     have e3:=Z1 hc';rw [ec] at e3
     cases e3;exact .inr ⟨.inr hjf,c,hc',o,hkeep _ _ ho',hd⟩
 cell:=λ x c e=>by
  obtain ⟨v,o,ho',hd⟩:=I.cell x c (Z1 e);exact ⟨v,o,hkeep _ _ ho',hd⟩
 free:=I.hok.fresh (aU _)
 freeC:=λ x c e=>I.freeC x c (Z1 e)
 pin:=λ p hp=>by cases (show p∈([]:List (aA×Obj)) from hp)
 hok:=I.hok.kept hkeep
 len:=by simp [frv,a6v]
def Quiet (X:Cx) (H:Hp) (s s':aD):Prop:=∀ b o,s.heap.get? b=some o->H b=none->b≠X.env.locals->b ∉ X.fs->s'.heap.get? b=some o
theorem b0l {params:jX} {body:aN} {pm ctv:aC} {c':aA} {v k:V} {u:aC} {t:TE} {Q:aC->aD->Prop} {E:aC->aD->Prop} (I:Inv X pins σ H s) (hA:A'.frames=some X.stack) (hh:A'.handled=X.A.handled)
  (hroom:A'.depth<recursionLimit) (hk:scope.kind=.function) (h:a0n X.env.scope scope X.N fr=true)
  (hcell:∀ x∈scope.names,x.2≠.cell) (hcol:scope.names.lookup col=some .local) (hco:scope.isCoroutine=false) (hgen:scope.isGenerator=false)
  (hf:s.heap.get? f=some (oB "<lambda>" qual params body scope (clo X.env scope.names []) pm c' ctv)) (hcd:s.heap.CodeRec (.ref c') qual)
  (hb:∀ u:aC,bindArgs (W.kla_fn "<lambda>" qual params body scope (clo X.env scope.names []) pm (.ref c') ctv) ⟨[u],[]⟩=pure [(col,u)])
  (hbody:PE (a6v X col fr qual scope f (.ref c') A' s H) body t) (r:RelV v u) (ht:t (some v::frv fr σ) H λ y H'=>y=k/\H'=H)
  (q:∀ y s',RelV k y->Inv X pins σ H s'->Quiet X H s s'->Q y s'):wpAny (model X.prog X.w) A' (call (.ref f) [u]) Q E s:=by
 refine lH (W.kla_callFunE hroom hf rfl hco hgen rfl hcd ?_);rw [hb u];refine aT (wpAny_newFunctionEnv hcell (λ y hy=>?_) (λ h₁ hns hsb=>?_) hk)
 ·rw [cX.mp hy]; exact hcol
 ·have hk₁:∀ b o,s.heap.get? b=some o->h₁.get? b=some o:=λ b o e=>hsb.extBut b o (cF (bC e)) (bE _ e)
  refine ⟨I.nolimit.keeps hk₁,W.kla_codeExpr ?_⟩;have J:=I.lam (qual:=qual) (f:=f) (cd:=.ref c') (t':=s.toks+[(col,u)].length) hA hh hk h hcell hcol hns hk₁ r;refine cZ (hbody [] _ _ _ _ J ht) (λ y s' hy=>?_) λ e s' z=>dD z;obtain ⟨w,H',J',rw',rfl,rfl⟩:=hy;have J2:Inv X pins σ H' s':=I.call' (ch:=[]) J'.os J'.base J'.hok J'.bare λ b hb=>by cases hb
  refine q y s' rw' J2 λ b o e n n1 n2=>?_;refine J'.base.keep b o e n (λ z=>?_) (by intro z; cases z);rcases bD.mp (I.stkSub b z) with w | w
  ·exact n1 w
  ·exact n2 w
end
def V9 (mg:Str->Option aC) (base:aG):Prop:=∃ bm ob,mg "__builtins__"=some (.ref bm)/\bm≠builtinsNs/\base.get? bm=some ob/\ob.cls=.type "module"/\ob.dict=some builtinsNs/\ob.data=.plain
abbrev a3a (c:aA) (qual:Str):HO:=.ext λ h=>h.CodeRec (.ref c) qual
def LamTab (P:aA) (pos:Pos) (qual:Str) (H:Hp):Prop :=
 H P=some (.tbl #[])\/∃ c',H P=some (.tbl #[rawInt pos.line,rawInt pos.col,.ref c'])/\H c'=some (a3a c' qual)
def Same1 (P:aA) (H H':Hp):Prop:=∀ b o,b≠P->H b=some o->H' b=some o
theorem LamTab.same {P:aA} {pos:Pos} {qual:Str} {H H':Hp} (T:LamTab P pos qual H) (h:∀ b o,H b=some o->H' b=some o):LamTab P pos qual H':=by
 rcases T with e | ⟨c,e1,e2⟩
 ·exact .inl (h _ _ e)
 ·exact .inr ⟨c,h _ _ e1,h _ _ e2⟩
section
variable {X:Cx} {pins:List (aA×Obj)} {σ:St} {H:Hp} {s:aD} {fr:List Nat} {scope:bS} {qual:Str} {c P:aA} {params:jX} {body:aN} {pos:Pos}
theorem a8F {K:aL} {w:aI} {H:Hp} {h:aG} {c:aA} {o:Obj} (e:h.get? c=some o) (r:h.CodeRec (.ref c) qual):ObjOk K w H h c (a3a c qual) :=
 ⟨r,⟨o,e⟩,λ h1 h2 ⟨c',o',vs,t,z,g,q⟩ k=>by
  have z':c=c':=qD z;subst z';exact ⟨c,o',vs,t,rfl,k _ g,q⟩⟩
theorem Inv.grown {h':aG} {t':Nat} {ps more:Array aC} {c':aA} (I:Inv X pins σ H s) (hP:H P=some (.tbl ps)) (hx:lT P s.heap h') (hge:s.heap.objs.size<=c') (hcr:h'.CodeRec (.ref c') qual)
  (htb:h'.get? P=some { cls:=.none,data:=.fields (ps++more) }):Inv X pins σ (upd (upd H P (.tbl (ps++more))) c' (a3a c' qual)) { s with heap:=h',toks:=t' }:=by
 have hPl:P<s.heap.objs.size:=I.hok.lt hP;have hPc:P≠c':=cF (bM hPl hge);have hcn:H c'=none:=I.hok.fresh hge;have atP:upd (upd H P (.tbl (ps++more))) c' (a3a c' qual) P=some (.tbl (ps++more)):=by rw [i7 hPc,upd_same]
 have nP:∀ b o,H b=some o->(∀ qs,o≠.tbl qs)->upd (upd H P (.tbl (ps++more))) c' (a3a c' qual) b=some o:=λ b o e n=>by
  rw [i7 (i9 e hcn),i7 (λ z=>by subst z; rw [e] at hP; exact n _ (bG hP))];exact e
 have neP:∀ b,H b=none->b≠P:=λ b n z=>by subst z; rw [hP] at n; cases n
 obtain ⟨cc,oc,vs,tt,z,gc,gr⟩:=id hcr;have z':c'=cc:=qD z;subst z';refine I.un ⟨λ b o e n _ _=>hx b o (neP b n) e,λ b o e n _ _=>⟨o.slots,hx b o (neP b n) e⟩,λ b o e n _=>?_,λ b o e _=>?_,λ b xs e=>nP b _ e (λ _=>nofun),λ b o u e=>nP b _ e (λ _=>nofun),λ b qs e=>?_⟩ λ b u e=>?_
 ·rw [i7 (cF (bM (bC e) hge)),i7 (neP b n)]; exact n
 ·by_cases hb:b=P
  ·subst hb; exact ⟨_,htb⟩
  ·exact ⟨o,hx b o hb e⟩
 ·by_cases hb:b=P
  ·subst hb
   rw [e] at hP
   cases hP;exact ⟨more,atP⟩
  ·refine ⟨#[],?_⟩
   rw [i7 (i9 e hcn),i7 hb,e]; simp
 ·by_cases hb:b=c'
  ·subst hb
   rw [upd_same] at e
   cases e;exact a8F gc hcr
  ·rw [i7 hb] at e
   by_cases hb2:b=P
   ·subst hb2
    rw [upd_same] at e
    cases e;exact htb
   ·rw [i7 hb2] at e
    refine (I.hok b u e).stay (λ d v hd g=>hx d v (λ z=>?_) g) (λ d g=>nP d _ g λ _=>nofun) λ d xs g=>nP d _ g λ _=>nofun;subst z;rcases hd with w | w
    ·exact hb2 w.symm
    ·rw [hP] at w; cases w
theorem b0q {Q:aC->aD->Prop} {E:aC->aD->Prop} (I:Inv X pins σ H s) (hcode:X.env.code=.ref c) (C:kK X.base c P) (B:V9 X.mg X.base) (T:LamTab P pos (X.env.qual++"<lambda>") H)
  (h:a0n X.env.scope scope X.N fr=true) (hdef:defaultsOf params X.env=([],[]))
  (q:∀ f c' ctv pm H' s',Inv X ((f,oB "<lambda>" (X.env.qual++"<lambda>") params body scope (clo X.env scope.names []) pm c' ctv)::pins) σ H' s'->LamTab P pos (X.env.qual++"<lambda>") H'->Same1 P H H' →
   H' c'=some (a3a c' (X.env.qual++"<lambda>"))->(∀ b,b<s.heap.objs.size->H b=none->H' b=none)->Q (.ref f) s') :
  wpAny (model X.prog X.w) X.A (eval (.Lambda params body scope pos) X.env) Q E s:=by
 have hcl:=D5 (S7 I h);have hg:s.heap.Ns mainGlobals X.mg:=I.mod.glob.keeps I.bk;obtain ⟨bm,ob,b1,b2,b3,b4,b5,b6⟩:=B;have Pg:∀ ps,s.heap.get? P=some (kL ps)->mainGlobals≠P:=λ ps e z=>by
  obtain ⟨o,es,ep,e1,hd,_⟩:=hg;rw [z,e] at e1; cases e1; cases hd
 have Pb:∀ ps,s.heap.get? P=some (kL ps)->bm≠P:=λ ps e z=>by
  have e1:=I.bk _ _ b3;rw [z,e] at e1; cases e1; cases b4
 have bg:bm≠mainGlobals:=λ z=>by
  obtain ⟨o,es,ep,e1,hd,_⟩:=I.mod.glob;rw [z,e1] at b3; cases b3; rw [hd] at b6; cases b6
 refine W.kla_eval hdef ?_;rcases T with T | ⟨c',T,Tc⟩
 ·have hP:s.heap.get? P=some (kL #[]):=I.hok P _ T
  refine W.kla_makeFunction (mg:=X.mg) hcl I.ok.glob hg hcode (C.keeps I.bk) hP trivial rfl (Pg _ hP) ⟨bm,ob,b1,b2,bg,Pb _ hP,I.bk _ _ b3,b4,b5,b6⟩ λ c' ctv h' tk hx hge hlt hrec htb=>?_;have J:=I.grown (t':=tk) (more:=#[rawInt pos.line,rawInt pos.col,.ref c']) T hx hge hrec htb;have hsz:s.heap.objs.size<=h'.objs.size:=cO hge (fJ hlt);have hPl:P<s.heap.objs.size:=I.hok.lt T;have J2:=J.kept (h':=h'.push (oB "<lambda>" (X.env.qual++"<lambda>") params body scope (clo X.env scope.names []) ((X.mg "__name__").getD .none) c' ctv)) (t':=tk) λ b u e=>bE _ e;have hPc:P≠c':=cF (bM hPl hge);refine q _ c' ctv ((X.mg "__name__").getD .none) _ _ (J2.pins_of λ p hp=>?_) (.inr ⟨c',?_,upd_same⟩) (λ b o hb e=>?_) upd_same λ b hb e=>?_
  ·rcases bD.mp hp with rfl | hp
   ·refine ⟨Heap.get?_push_size _ rfl,J.hok.fresh (aU _),eH (bM I.lt hsz),I.nofs hsz,λ v=>nofun⟩
   ·exact J2.pin p (dJ _ hp)
  ·rw [i7 hPc,upd_same]; rfl
  ·rw [i7 (i9 e (I.hok.fresh hge)),i7 hb]; exact e
  ·rw [i7 (cF (bM hb hge)),i7 (λ z=>by rw [z,T] at e; cases e)]; exact e
 ·have hP:s.heap.get? P=some (kL #[rawInt pos.line,rawInt pos.col,.ref c']):=I.hok P _ T
  have hf:codeAmong pos (#[rawInt pos.line,rawInt pos.col,cY c']).toList=some (.ref c'):=by
   show codeAmong pos ([]++[rawInt pos.line,rawInt pos.col,cY c'])=_
   exact codeAmong_snoc [] trivial rfl
  refine W.kla_makeFunctionHit (mg:=X.mg) hcl I.ok.glob hg hcode (C.keeps I.bk) hP trivial hf ⟨bm,ob,b1,b2,bg,Pb _ hP,I.bk _ _ b3,b4,b5,b6⟩ λ ctv h' tk hk hsz=>?_;have J:=I.kept (h':=h') (t':=tk) hk;have J2:=J.kept (h':=h'.push (oB "<lambda>" (X.env.qual++"<lambda>") params body scope (clo X.env scope.names []) ((X.mg "__name__").getD .none) c' ctv)) (t':=tk) λ b u e=>bE _ e;refine q _ c' ctv ((X.mg "__name__").getD .none) _ _ (J2.pins_of λ p hp=>?_) (.inr ⟨c',T,Tc⟩) (λ b o hb e=>e) Tc λ b hb e=>e;rcases bD.mp hp with rfl | hp
  ·exact ⟨Heap.get?_push_size _ rfl,J.hok.fresh (aU _),eH (bM I.lt hsz),I.nofs hsz,λ v=>nofun⟩
  ·exact J2.pin p (dJ _ hp)
end
section
variable {X:Cx} {pins:List (aA×Obj)} {σ:St} {H:Hp} {l It S fq:aA} {ns:List Int} {g:Int->Int} {R:iG->aD->Prop}
theorem Quiet.fp {s s':aD} {b:aA} {o:Obj} (k:Quiet X H s s') (f:T3 X pins H b) (e:s.heap.get? b=some o):s'.heap.get? b=some o:=k b o e f.1 f.2.1 f.2.2.1
theorem Inv.fpTurn {s:aD} {h':aG} {t':Nat} {b:aA} (I:Inv X pins σ H s) (f:T3 X pins H b) (k:∀ c o,c≠b->s.heap.get? c=some o->h'.get? c=some o):Inv X pins σ H { s with heap:=h',toks:=t' } :=
 I.turned k f.1 f.2.1 f.2.2.2.1 f.2.2.2.2.1 f.2.2.2.2.2
def b2J (ns:List Int) (g:Int->Int) (j:Nat) (cont:List aC):Prop :=
 (cont=[]/\j=0)\/∃ M vb kb,cont=[vb,kb]/\M∈ns/\RelV (.int M) vb/\RelV (.int (g M)) kb/\∀ a∈ns.take j,g M<=g a
abbrev a9Z (X:Cx) (pins:List (aA×Obj)) (σ:St) (H:Hp) (fq:aA) (ns:List Int) (g:Int->Int):Prop :=
 ∀ n∈ns,∀ (u:aC) (s:aD) (Q:aC->aD->Prop) (E:aC->aD->Prop),Inv X pins σ H s->RelV (.int n) u →
  (∀ y s',RelV (.int (g n)) y->Inv X pins σ H s'->Quiet X H s s'->Q y s')->wpAny (model X.prog X.w) X.A.in1 (call (.ref fq) [u]) Q E s
theorem b0E (hc:X.calm=true) (hl:SqL X.K H l (ns.map V.int)) (turn:a9Z X pins σ H fq ns g) (fI:T3 X pins H It) (fS:T3 X pins H S) (hIS:It≠S) (hIl:l≠It)
  (hN:ns=[]->∀ s',Inv X pins σ H s'->R (.ok (.ret .none)) s') (hR:∀ M∈ns,(∀ a∈ns,g M<=g a)->∀ y s',RelV (.int M) y->Inv X pins σ H s'->R (.ok (.ret y)) s') :
  ∀ (r j:Nat) (s:aD) (cont:List aC) (cn:Nat),ns.length - j=r->j<=ns.length->Inv X pins σ H s->s.heap.IsListIter It l j->s.heap.get? S=some (seqObj "list" cont.toArray cn)->b2J ns g j cont →
   codeAny (model X.prog X.w) X.A (.builtin "min.loop" ⟨[.ref It,.ref fq,.ref S],[("default",.none)]⟩) R s:=by
 have nm:(toString "min"++toString ".loop":String)="min.loop":=by decide
 have hh:∀ {s:aD},Inv X pins σ H s->X.A.in1.handled=none:=λ I=>I.ok.hd hc;intro r
 induction r with
 | zero =>
  intro j s cont cn hr hj I hit hS hb;have hjn:j=ns.length:=by omega
  obtain ⟨its,rv,pl,hz⟩:=I.list hl;have W:=pV (prog:=X.prog) (w:=X.w) (A:=X.A.in1) (hh I) It l hIl its.toArray;have hsz:its.toArray.size=ns.length:=by rw [cG,<- rv.length,aH]
  refine qB uV ?_; rw [uW kO _];refine aF (eM hS rfl ?_);rcases hb with ⟨rfl,rfl⟩ | ⟨M,vb,kb,rfl,hM,rM,rK,best⟩
  ·show wpAny _ X.A.in1 (tryCatch (pyNext (.ref It)) _ >>= _) _ _ _
   refine aF (kP (W.done _ _ _ ⟨by rw [hsz,<- hjn]; exact hit,pl.isList⟩ λ h' tk' hk'=>?_));have J:=I.fpTurn (h':=h') (t':=tk') fI λ c o n e=>hk' c o (by simpa using n) e
   show wpAny _ X.A.in1 (rule _ >>= _) _ _ _
   exact aF (iD (aT (hN (List.length_eq_zero_iff.mp hjn.symm) _ J)))
  ·show wpAny _ X.A.in1 (tryCatch (pyNext (.ref It)) _ >>= _) _ _ _
   refine aF (kP (W.done _ _ _ ⟨by rw [hsz,<- hjn]; exact hit,pl.isList⟩ λ h' tk' hk'=>?_));have J:=I.fpTurn (h':=h') (t':=tk') fI λ c o n e=>hk' c o (by simpa using n) e;have hS':=hk' S _ (by simpa using hIS.symm) hS;have s1:=lS h' S (gD λ _=>(#[]:Array aC))
   show wpAny _ X.A.in1 (updateSeq S (λ _=>#[]) >>= _) _ _ _
   refine aF (qL hS' rfl (aF (fW (aT ?_))));exact hR M hM (λ a ha=>best a (by rw [hjn,oE]; exact ha)) vb _ rM (J.fpTurn fS λ c o n e=>(s1.2 c n).trans e)
 | succ r ih =>
  intro j s cont cn hr hj I hit hS hb;have hlt:j<ns.length:=by omega
  obtain ⟨its,rv,pl,hz⟩:=I.list hl;have W:=pV (prog:=X.prog) (w:=X.w) (A:=X.A.in1) (hh I) It l hIl its.toArray;have hsz:its.toArray.size=ns.length:=by rw [cG,<- rv.length,aH]
  refine qB uV ?_; rw [uW kO _];refine aF (eM hS rfl ?_);have go:∀ (old:List aC) (kx:aC->Sem (Option aC)) (B:Option aC->Sem lQ) (Q:lQ->aD->Prop) (E:aC->aD->Prop),
    (∀ v h' tk',RelV (.int ns[j]) v->Inv X pins σ H { s with heap:=h',toks:=tk' }->h'.IsListIter It l (j+1)->h'.get? S=some (seqObj "list" cont.toArray cn)->wpAny (model X.prog X.w) X.A.in1 (B (some v)) Q E { s with heap:=h',toks:=tk' }) →
    wpAny (model X.prog X.w) X.A.in1 (tryCatch (pyNext (.ref It)) kx >>= B) Q E s:=by
   intro old kx B Q E hB;refine aF (kP (W.item j _ _ _ (by rw [hsz]; exact hlt) ⟨hit,pl.isList⟩ λ v h' tk' hP hst' hk'=>?_));have hv:(ns.map V.int)[j]?=some (V.int ns[j]):=by rw [aQ,aV hlt]; rfl
   obtain ⟨u,hu,ru⟩:=rv.get hv;have hP':its[j]?=some v:=by simpa using hP
   rw [hu] at hP'
   cases hP';exact hB _ h' tk' ru (I.fpTurn fI λ c o n e=>hk' c o (by simpa using n) e) hst'.1 (hk' S _ (by simpa using hIS.symm) hS)
  have hn:ns[j]∈ns:=fB hlt;have tk1:∀ a∈ns.take (j+1),a∈ns.take j\/a=ns[j]:=λ a ha=>by
   rw [tV hlt] at ha;rcases bU.mp ha with z | z
   ·exact .inl z
   ·exact .inr (cX.mp z)
  rcases hb with ⟨rfl,rfl⟩ | ⟨M,vb,kb,rfl,hM,rM,rK,best⟩
  ·show wpAny _ X.A.in1 (tryCatch (pyNext (.ref It)) _ >>= _) _ _ _
   refine go [] _ _ _ _ λ v h' tk' rv' J hit' hS'=>?_
   show wpAny _ X.A.in1 (tryCatch (holding [v] (call (.ref fq) [v])) _ >>= _) _ _ _
   refine aF (kP (fK (turn _ hn v _ _ _ J rv' λ y s2 ry J2 qu=>?_)));have hS2:=qu.fp fS hS';obtain ⟨oI,hoI,hoc,hod⟩:=hit';have hI2:=qu.fp fI hoI;have s1:=lS s2.heap S (gD λ _=>#[v,y]);obtain ⟨c2,hc2⟩:∃ c2,(s2.heap.update S (gD λ _=>#[v,y])).get? S=some (seqObj "list" #[v,y] c2):=⟨_,uX hS2 λ _=>#[v,y]⟩
   show wpAny _ X.A.in1 (updateSeq S (λ _=>#[v,y]) >>= _) _ _ _
   refine aF (qL hS2 rfl ?_);rw [nm];refine aT ⟨plainId_quiet kO _,ih (0+1) _ [v,y] c2 (by omega) hlt (J2.fpTurn fS λ c o n e=>(s1.2 c n).trans e) ⟨oI,(s1.2 It hIS).trans hI2,hoc,hod⟩ hc2 (.inr ⟨ns[0],v,y,rfl,hn,rv',ry,λ a ha=>?_⟩)⟩;rcases tk1 a ha with z | z
   ·simp at z
   ·rw [z]; exact dR _
  ·show wpAny _ X.A.in1 (tryCatch (pyNext (.ref It)) _ >>= _) _ _ _
   refine go [] _ _ _ _ λ v h' tk' rv' J hit' hS'=>?_
   show wpAny _ X.A.in1 (tryCatch (holding [v] (call (.ref fq) [v])) _ >>= _) _ _ _
   refine aF (kP (fK (turn _ hn v _ _ _ J rv' λ y s2 ry J2 qu=>?_)));have hS2:=qu.fp fS hS';obtain ⟨oI,hoI,hoc,hod⟩:=hit';have hI2:=qu.fp fI hoI;obtain ⟨t2,rfl⟩:=ry;obtain ⟨tb,rfl⟩:=rK
   show wpAny _ X.A.in1 (tryCatch (holding [v,.int (g ns[j]) t2] (richCompare .Lt (.int (g ns[j]) t2) (.int (g M) tb) >>= _)) _ >>= _) _ _ _
   refine aF (kP (fK (aF (tW (prog:=X.prog) (w:=X.w) (A:=X.A.in1) (P:=λ i v=>∃ t,v=.int ([g ns[j],g M].getD i 0) t) (λ i=>[g ns[j],g M].getD i 0) (λ i v h=>h) 0 1 _ _ _ _ _ ⟨t2,rfl⟩ ⟨tb,rfl⟩ ?_))));refine aF (fK (gB (aF (fW (aT ?_)))));have e01:(λ i j_1=>decide ([g ns[j],g M].getD i 0<[g ns[j],g M].getD j_1 0)) 0 1=decide (g ns[j]<g M):=rfl;rw [e01]
   by_cases hb':g ns[j]<g M
   ·have s1:=lS s2.heap S (gD λ _=>#[v,.int (g ns[j]) t2])
    obtain ⟨c2,hc2⟩:∃ c2,(s2.heap.update S (gD λ _=>#[v,.int (g ns[j]) t2])).get? S=some (seqObj "list" #[v,.int (g ns[j]) t2] c2):=⟨_,uX hS2 λ _=>#[v,.int (g ns[j]) t2]⟩;simp only [hb',decide_true,if_true];refine aF (qL hS2 rfl (aF (fW ?_)));rw [nm];refine aT ⟨plainId_quiet kO _,ih (j+1) _ [v,.int (g ns[j]) t2] c2 (by omega) hlt (J2.fpTurn fS λ c o n e=>(s1.2 c n).trans e) ⟨oI,(s1.2 It hIS).trans hI2,hoc,hod⟩ hc2 (.inr ⟨ns[j],v,_,rfl,hn,rv',⟨t2,rfl⟩,λ a ha=>?_⟩)⟩;rcases tk1 a ha with z | z
    ·have:=best a z; omega
    ·rw [z]; exact dR _
   ·simp only [hb',decide_false,nA,if_false]
    refine aF (fW ?_);rw [nm];refine aT ⟨plainId_quiet kO _,ih (j+1) _ [vb,.int (g M) tb] cn (by omega) hlt J2 ⟨oI,hI2,hoc,hod⟩ hS2 (.inr ⟨M,vb,_,rfl,hM,rM,⟨tb,rfl⟩,λ a ha=>?_⟩)⟩;rcases tk1 a ha with z | z
    ·exact best a z
    ·rw [z]; omega
theorem b1I {s:aD} {Q:aC->aD->Prop} {E:aC->aD->Prop} (hc:X.calm=true) (I:Inv X pins σ H s) (hl:SqL X.K H l (ns.map V.int)) (turn:a9Z X pins σ H fq ns g)
  (hN:ns=[]->∀ s',Inv X pins σ H s'->Q .none s') (hR:∀ M∈ns,(∀ a∈ns,g M<=g a)->∀ y s',RelV (.int M) y->Inv X pins σ H s'->Q y s') :
  wpAny (model X.prog X.w) X.A (call (.builtin "min") [.ref l] [("key",.ref fq),("default",.none)]) Q E s:=by
 have nm:(toString "min"++toString ".loop":String)="min.loop":=by decide
 have ha:argsOk "min" ⟨[.ref l],[("key",.ref fq),("default",.none)]⟩:=by unfold argsOk; rfl
 obtain ⟨its,rv,pl,hz⟩:=I.list hl;have hlt:l<s.heap.objs.size:=by obtain ⟨_,e,_⟩:=pl.isList; exact bC e
 refine kmk_tree F.kind_min F.plain_min F.entry_min ha ?_
 show wpAny _ X.A.in1 (uY "min" ["key","default"] 0 ⟨[],[("key",.ref fq),("default",.none)]⟩ >>= _) _ _ s
 refine aF (wpAny_of_eq (show uY "min" ["key","default"] 0 ⟨[],[("key",.ref fq),("default",.none)]⟩=pure [some (.ref fq),some .none] from rfl) (aF (aT ?_)));refine aF (mS pl.isList (aF (wpAny_newList ?_ (dA _))));rw [nm];have I1:=I.kept (h':=s.heap.push { cls:=.type "list_iterator",data:=.fields #[.ref l,.int 0 0] }) (t':=s.toks) λ b u e=>bE _ e;have I2:=I1.kept (h':=(s.heap.push { cls:=.type "list_iterator",data:=.fields #[.ref l,.int 0 0] }).push (seqObj "list" #[] 0)) (t':=s.toks) λ b u e=>bE _ e;have hS:(s.heap.push { cls:=.type "list_iterator",data:=.fields #[.ref l,.int 0 0] }).objs.size=s.heap.objs.size+1:=size_push' ..;have fI:T3 X pins H s.heap.objs.size:=I.fpOk (aU _) (I.hok.fresh (aU _));have fS:T3 X pins H (s.heap.push { cls:=.type "list_iterator",data:=.fields #[.ref l,.int 0 0] }).objs.size:=I.fpOk (by rw [hS]; omega) (I.hok.fresh (by rw [hS]; omega));refine aT ⟨plainId_quiet kO _,b0E hc hl turn fI fS (cF (by rw [hS]; exact jB _)) (cF hlt) hN hR _ 0 _ [] 0 rfl (dA _) I2 ⟨_,bE _ (cI _ rfl),rfl,rfl⟩ (cI _ rfl) (.inl ⟨rfl,rfl⟩)⟩
end
theorem SqL.same1 {K:aE} {P:aA} {pos:Pos} {qual:Str} {H H':Hp} {a:aA} {xs:List V} (T:LamTab P pos qual H) (e:Same1 P H H') (h:SqL K H a xs):SqL K H' a xs:=by
 have ne:∀ o,H a=some o->(∀ ps,o≠.tbl ps)->a≠P:=λ o q n z=>by
  subst z;rcases T with t | ⟨c,t,_⟩
  ·rw [q] at t; exact n _ (bG t)
  ·rw [q] at t; exact n _ (bG t)
 rcases h with (h | ⟨o,h⟩) | h
 ·exact .inl (.inl (e _ _ (ne _ h λ _=>nofun) h))
 ·exact .inl (.inr ⟨o,e _ _ (ne _ h λ _=>nofun) h⟩)
 ·exact .inr h
def b1y (K:aE) (P:aA) (lpos:Pos) (qual:Str) (fr:List Nat) (t:TA) (tb:TE):TE:=λ σ H Q=>t σ H λ vs H1=>∃ (l:aA) (ns:List Int) (g:Int->Int),vs=[.ref l]/\SqL K H1 l (ns.map V.int)/\LamTab P lpos qual H1 ∧
 ∀ H2,Same1 P H1 H2->LamTab P lpos qual H2->(∀ n∈ns,tb (some (.int n)::frv fr σ) H2 λ y H'=>y=.int (g n)/\H'=H2)/\(ns=[]->Q .non H2)/\∀ M∈ns,(∀ a∈ns,g M<=g a)->Q (.int M) H2
section
variable {X:Cx} {e body:aN} {es:List aN} {t:TA} {tb:TE} {fr:List Nat} {scope:bS} {col:Str} {c P:aA} {params:jX} {p pos lpos kp1 kp2 cp:Pos} {cj:Nat}
theorem a7Y (hc:X.calm=true) (hr:Room 2 X.A) (hg:Gl X "min") (hm:X.mg "min"=none) (hcode:X.env.code=.ref c) (C:kK X.base c P) (B:V9 X.mg X.base) (hlc:a0n X.env.scope scope X.N fr=true) (hk:scope.kind=.function)
  (hcell:∀ x∈scope.names,x.2≠.cell) (hcol:scope.names.lookup col=some .local) (hco:scope.isCoroutine=false) (hgen:scope.isGenerator=false)
  (hb:∀ (pm ctv:aC) (c':aA) (u:aC),bindArgs (W.kla_fn "<lambda>" (X.env.qual++"<lambda>") params body scope (clo X.env scope.names []) pm (.ref c') ctv) ⟨[u],[]⟩=pure [(col,u)])
  (ha:PA X [e] t) (hbody:∀ (f:aA) (cd:aC) (s:aD) (H:Hp),PE (a6v X col fr (X.env.qual++"<lambda>") scope f cd X.A.in1 s H) body tb) (hdef:defaultsOf params X.env=([],[]):=by rfl)
  (he:backTo pos (starEach [e] X.env)=(false,eval e X.env)::backTo pos (starEach [] X.env):=by rfl) (hpl:(backTo pos (starEach [e] X.env)).any (·.1)=false:=by rfl) :
  PE X (.Call (.Name "min" p) [e] [⟨some "key",.Lambda params body scope lpos,kp1⟩,⟨some "default",.Constant .none cj cp,kp2⟩] pos) (b1y X.K P lpos (X.env.qual++"<lambda>") fr t tb):=by
 intro pins s σ H Q I h;refine jD (T9 I hg hm (u:=.builtin "min") rfl ?_);refine yI (A7 (ha pos pins s σ H _ I h) λ us s1 ⟨vs,H1,I1,r,l,ns,g,ev,hl,T,q⟩=>?_) he hpl;subst ev;obtain ⟨u,rfl,ru⟩:=P7 r
 cases ru
 show wpAny _ _ (evalAll [(do let v <- eval (.Lambda params body scope lpos) X.env; standAt pos; pure v),(do let v <- eval (.Constant .none cj cp) X.env; standAt pos; pure v)]) _ _ s1
 refine uZ (aF (b0q I1 hcode C B T hlc hdef λ f c' ctv pm H2 s2 I2 T2 e2 Hc' _=>aF (gU (aT ?_))));refine uZ (aF (rH (aF (gU (aT (wpAny_evalAll_nil ?_))))));obtain ⟨q1,q2,q3⟩:=q H2 e2 T2;have hl2:=hl.same1 T e2;have drop:∀ {po:aA×Obj} {s'},Inv X (po::pins) σ H2 s'->Inv X pins σ H2 s':=λ J=>J.pins_of λ p hp=>J.pin p (dJ _ (cQ _ hp));have hd':X.A.in1.depth<recursionLimit:=by
  have z:X.A.in1.depth+3*1+5<recursionLimit:=hr.in1.dp;omega
 refine b1I (g:=g) hc I2 hl2 (λ n hn u s3 Q3 E3 I3 ru k3=>?_) (λ en s3 I3=>⟨.non,H2,drop I3,rfl,q2 en⟩) λ M hM hmin y s3 ry I3=>⟨.int M,H2,drop I3,ry,q3 M hM hmin⟩;obtain ⟨cr,_,_⟩:=I3.hok c' _ Hc';exact b0l (k:=.int (g n)) I3 I3.ok.frames rfl hd' hk hlc hcell hcol hco hgen (I3.pin _ (dJ _ dU)).1 cr (hb pm ctv c') (hbody f (.ref c') s3 H2) ru (q1 n hn) k3
end
section
variable {X:Cx} {os:List Str} {fr:List Nat} {scope:bS} {elt tg iter:aN} {pos:Pos} {wi:TI} {g:TG} {te:TE}
theorem b3M {c:aN} {tc:TT} {i:Nat} {x:Str} {pos' spos:Pos} (os:List Str) (fr:List Nat) (hN:X.N.Nodup) (hi':X.N[i]?=some x) (hx:X.env.scope.names.lookup x=some .local)
  (hc:X.calm=true) (hi:PI X tg iter wi) (hg:∀ C fp s₀ H₀,PG (W3 X os fr scope C fp s₀ H₀) tg g) (ht:∀ C fp s₀ H₀,PT (W3 X os fr scope C fp s₀ H₀) c tc) (he:∀ C fp s₀ H₀,PE (W3 X os fr scope C fp s₀ H₀) elt te)
  (hsw:swapsWith (.ListComp elt [⟨tg,iter,[c],0⟩] scope pos) (some (.Name x pos')) spos.line X.env=pure true:=by rfl)
  (hk:scope.kind=.function:=by rfl) (hok:a0n X.env.scope scope X.N fr=true:=by rfl) (hs:∀ x,foldedSetIterable iter X.env x=pure x:=by intro _; rfl) :
  PS X (.Assign [.Name x pos'] (.ListComp elt [⟨tg,iter,[c],0⟩] scope pos) spos) (a4D (b4h os.length fr wi g tc te) (K9 i)):=by
 intro pins s σ H D I h;unfold a4D at h;rw [pU _ _ _ _ hsw];refine aF (gU (aF ?_))
 show wpAny _ X.A (do let _ <- comprehension (.ListComp elt [⟨tg,iter,[c],0⟩] scope pos) scope X.env _ (newList []) false (eval iter X.env) (some (assign (.Name x pos') X.env))) _ _ s
 refine aF (cZ (lO (use:=some (assign (.Name x pos') X.env)) (Q:=λ _ s'=>SP X pins D .next s') rfl hs (D5 (S7 I hok)) hk (λ x hx hl=>by have:=(O8 hok x hx).1; rw [hl] at this; exact this)
  (A7 (hi pins s σ H _ I h) λ v s1 h1=>A7 h1 λ itv s2 h2=>?_)) (λ _ s' hq=>aT (aT hq)) λ _ _ e=>e)
 refine a0X (os:=os) (D:=λ p H'=>D.nx (σ.set i (some (.ref p))) H') (RR:=λ acc C=>compPost (model X.prog X.w) X.A X.xe (some (assign (.Name x pos') X.env)) (λ _ s'=>SP X pins D .next s') acc C) hc hg (λ _ _ _ _=>a5a (ht _ _ _ _)) he hk hok h2 ?_;intro p C s3 H3 s' H' I3 eC hn I' ⟨m,hm⟩ q
 show wpAny _ X.A (assign (.Name x pos') X.env (.ref p)) _ _ _
 refine mQ (a0c (v:=.ref p) I' hN hi' (.inl hx) rfl (λ s'' I'' ⟨a,hsa,ha⟩=>?_) (.inr hx));have hCa:C≠a:=by
  rcases ha with e | e
  ·rw [e]; exact eH (by rw [<- eC]; exact I3.lt)
  ·obtain ⟨v,z⟩:=I3.cell x a e
   exact eH (by rw [<- eC]; exact z.lt)
 exact ⟨m,hm.sameBut hsa hCa,λ h' hs'=>⟨_,H',I3.letgo I'' hn (by omega) hs',q⟩⟩
theorem a1V (K:aE) {e:aN} {f:Str} {ta:TE} (h:X.K=K) (he:PE X e ta) (hb:attributeBase e f X.env (eval e X.env)=eval e X.env):PE X (.Attribute e f pos) (b5q K ta f):=by subst h; exact t9 he hb
end
section
variable {fr:List Nat} {tc:TT} {σ:St} {J:It} {H1:Hp} {p:aA} {D:Hp->Prop} {xs:List V}
theorem b0Q (hJ:a7x J H1 xs) (hp:H1 p=none) (hz:xs.length<sizeLine) (F:V->Bool)
  (step:∀ (i:Nat) x H (N:Bool->Hp->Prop),xs[i]?=some x->Same H1 H->N (F x) H->tc ((blkσ 1 fr σ).set 0 (some x)) H N)
  (hd:D (upd H1 p (.lst (xs.filter F)))):lcI 1 fr (K9 0) tc (a5V 0) σ J H1 p D:=by
 refine ⟨λ i m ys H=>m=xs.length - i/\i<=xs.length/\ys=(xs.take i).filter F/\H=upd H1 p (.lst ys),⟨xs.length,by simp,dA _,by simp,rfl⟩,?_⟩;rintro i m ys H ⟨rfl,hi,rfl,rfl⟩;have e:=Same.new (o:=.lst ((xs.take i).filter F)) hp
 by_cases hlt:i<xs.length
 ·refine .inr ⟨hJ.go i _ e hlt,λ x H' y=>?_⟩
  obtain ⟨rfl,hx⟩:=hJ.yld i _ x H' e hlt y;have tk:(xs.take (i+1)).filter F=(xs.take i).filter F++[x].filter F:=by rw [lP,hx,qO]; rfl
  refine ⟨Wk.set (by decide),step i x _ _ hx e ?_⟩
  cases hq:F x with
  | false =>
   rw [if_neg cS];refine ⟨xs.length - (i+1),by omega,rfl,hlt,?_,rfl⟩;rw [tk]; simp [hq]
  | true =>
   rw [if_pos rfl];refine ⟨x,?_,upd_same,?_,xs.length - (i+1),by omega,rfl,hlt,?_,W2⟩
   ·show ((blkσ 1 fr σ).set 0 (some x))[0]?=some (some x)
    rw [dI (by simp [blkσ])]
   ·have h1:=qP F (xs.take i)
    rw [cU] at h1;omega
   ·rw [tk]; simp [hq]
 ·have:i=xs.length:=by omega
  subst this;refine .inl ⟨hJ.stop _ e,?_⟩;rw [gF (aU _)]; exact hd
end
section
variable {P:aL} {w:aI} {K:aE} {mg:Str->Option aC} {base:aG}
theorem Fun.okC {x qual:Str} {st:aO} {f c:aA} {fd:aJ} {N ps:List Str} {k:Nat} {sp:Sp} (F:Fun K x qual st f fd) (hc:fd.code=.ref c) (S:m6 N ps (j4 st)) (len:∀ vs H Q E,sp vs H Q E->vs.length=ps.length)
  (hbody:∀ (A:aY) (outer:List Env) (s:aD) (H:Hp) (vs:List V) (Q:VK) (E:XK),Room k (A.deeper (dE qual (j4 st) s.heap.objs.size f (.ref c)))->sp vs H Q E →
   ∃ t,PSs (M0 E1 P w K mg base N qual (j4 st) f (.ref c) A outer s H E).nox (w4 st) t/\t { nx:=λ _ H'=>Q .non H',rt:=Q } (P9 N vs) H):FnOk P w K mg base E1 (k+1) f fd ps sp:=by
 obtain ⟨oc,od,kV,doc,pm,an,cdv,ct,osl,rfl,lk,hcd⟩:=F.ex;have e:cdv=.ref c:=hc;subst e;refine b0x lk hcd S len λ A outer s H vs Q E hr hsp=>?_;obtain ⟨t,h,q⟩:=hbody A outer s H vs Q E hr hsp;exact ⟨t,h.nox,q⟩
end
end L2
namespace L2
open PySem
section
variable {xs ys:List V} {K:aE} {l1 l2:aA} {fr:List Nat} {te:TE} {σ:St} {H1:Hp} {p:aA} {D:Hp->Prop}
end
theorem E9 {G0:St->Hp->Prop} {σ:St} {H:Hp} (h:∀ G:St->Hp->Prop,G=G0->G σ H):G0 σ H:=h G0 rfl
section
variable {X:Cx} {st:aO} {rest:List aO} {t u:TS}
def b5Y (t u:TS):TS:=λ D σ H=>∃ M:St->Hp->Prop,t { D with nx:=M } σ H/\∀ σ' H',M σ' H'->u D σ' H'
theorem v6 (h1:PS X st t) (h2:PSs X rest u):PSs X (st::rest) (b5Y t u):=by
 intro pins s σ H D I ⟨M,h,hM⟩;refine oX (A7 (h1 pins s σ H { D with nx:=M } I h) λ f s1 q=>?_)
 cases f with
 | next =>
  obtain ⟨σ',H',I',q⟩:=q;exact h2 pins s1 σ' H' D I' (hM _ _ q)
 | ret v=>exact q
 | brk=>exact q
 | cont=>exact q
end
end L2
namespace Rim
open PySem L2
theorem a3F (xs:List V) (k:Nat) (h:k<=xs.length):M5 xs none (some (k:Int))=xs.take k:=by
 unfold M5;rw [HT.sIx_none,HT.sIx_nat,oF]
 congr 1
 omega
theorem a2k (xs:List V) (k:Nat) (h:k<=xs.length):M5 xs (some (k:Int)) none=xs.drop k:=by
 unfold M5;rw [HT.sIx_none,HT.sIx_nat,oG h];exact gF (by rw [eZ]; exact aU _)
end Rim
namespace L2
open PySem PySem.Spec PyProof.Rows
section
variable {X:Cx}
theorem a7w:J5 X (.type "range") (λ vs H Q=>∃ j:Int,vs=[.int j]/\∀ p,H p=none->Q (.ref p) (upd H p (.rng 0 j))):=by
 intro pins s σ H vs us Q I r h;obtain ⟨j,rfl,q⟩:=h;obtain ⟨u,rfl,t,rfl⟩:=P7 r;refine rV ⟨.ref s.heap.objs.size,_,I.laid (o:=.rng 0 j) (λ b u e=>bE _ e) (aU _) ⟨_,_,_,cI _ rfl⟩,rfl,q _ (I.hok.fresh (aU _))⟩
theorem a7C:J5 X (.type "range") (λ vs H Q=>∃ i j:Int,vs=[.int i,.int j]/\∀ p,H p=none->Q (.ref p) (upd H p (.rng i j))):=by
 intro pins s σ H vs us Q I r h;obtain ⟨i,j,rfl,q⟩:=h;obtain ⟨u,v,rfl,⟨t,rfl⟩,t',rfl⟩:=a2p r;refine call_range_2 ⟨.ref s.heap.objs.size,_,I.laid (o:=.rng i j) (λ b u e=>bE _ e) (aU _) ⟨_,_,_,cI _ rfl⟩,rfl,q _ (I.hok.fresh (aU _))⟩
theorem a2w:∀ (n:Nat) (acc:List aC) (F:Nat->Int),acc.length=n->(∀ j v,acc[j]?=some v->∃ t,v=fR (F j) t)->Vals ((aR n).map λ i=>V.int (F i)) acc
 | 0,[],_,_,_=>.nil
 | n+1,a::acc,F,hl,h=>by
  rw [vA,cJ,bO];refine .cons (h 0 a rfl) ?_;exact a2w n acc (λ i=>F (i+1)) (by simpa using hl) λ j v e=>h (j+1) v (by simpa using e)
theorem a0o (hc:X.calm=true):J5 X (.type "list") (λ vs H Q=>∃ (p:aA) (lo:Int) (n:Nat),vs=[.ref p]/\H p=some (.rng lo (lo+n))/\-(2 ^ 60)<=lo/\lo<2 ^ 60/\n<=1000/\∀ l,H l=none->Q (.ref l) (upd H l (.lst ((aR n).map λ (i:Nat)=>V.int (lo+(i:Int)))))):=by
 intro pins s σ H vs us Q I r h;obtain ⟨p,lo,n,rfl,hp,h1,h2,hn,q⟩:=h;obtain ⟨u,rfl,ru⟩:=P7 r
 cases ru;obtain ⟨t,u,v,e⟩:=I.hok p _ hp;have hsz:rS lo (lo+n) 1=n:=by rw [rT]; split <;> omega
 refine call_list_range (I.ok.hd hc) e (small_one (by omega) (by omega) (by omega) (by omega)) hsz (by omega) λ h' tk acc' c' hk hS hacc=>?_;have hv:Vals ((aR n).map λ (i:Nat)=>V.int (lo+(i:Int))) acc'.toList:=a2w n acc'.toList (λ i=>lo+(i:Int)) (by simpa using hacc.1) λ j v e=>by
  obtain ⟨t,et⟩:=hacc.2 j v (by simpa using e);exact ⟨t,by rw [et,iE]⟩
 have h9:n<=sizeLine:=cO hn (by decide);refine ⟨.ref s.heap.objs.size,_,I.laid (o:=.lst ((aR n).map λ (i:Nat)=>V.int (lo+(i:Int)))) (t':=tk) hk (aU _) ⟨by simpa using h9,acc'.toList,c',hv,by simpa using hS⟩,rfl,q _ (I.hok.fresh (aU _))⟩
end
end L2
namespace Lp
abbrev D4:=Nat->Int
def tl (v:D4):D4:=λ i=>v (i+1)
def V4 (a:Int) (u:D4) (b:Int) (v:D4):D4:=λ i=>a*u i+b*v i
def O9 (D:List D4->Int):List D4->List D4->Int
 | _,[]=>0
 | pre,c::rest=>c 0*D ((pre++rest).map tl) - O9 D (pre++[c]) rest
def C3:Nat->List D4->Int
 | 0,_=>1
 | n+1,cols=>O9 (C3 n) [] cols
def Lin (n:Nat) (D:List D4->Int):Prop:=∀ (a:Int) (u:D4) (b:Int) (v:D4) (xs ys:List D4),xs.length+ys.length+1=n->D (xs++V4 a u b v::ys)=a*D (xs++u::ys)+b*D (xs++v::ys)
theorem a6w (a:Int) (u:D4) (b:Int) (v:D4):tl (V4 a u b v)=V4 a (tl u) b (tl v):=rfl
theorem b4U (a b x y p q:Int) (c:Int):c*(a*x+b*y) - (a*p+b*q)=a*(c*x - p)+b*(c*y - q):=by
 rw [kQ,kS,kS];have e1:c*(a*x)=a*(c*x):=by rw [<- bK,bJ c a,bK]
 have e2:c*(b*y)=b*(c*y):=by rw [<- bK,bJ c b,bK]
 rw [e1,e2];lia
theorem a6y {n:Nat} {D:List D4->Int} (h:Lin n D) (a:Int) (u:D4) (b:Int) (v:D4):∀ (rest p1 p2:List D4),p1.length+p2.length+rest.length=n →
  O9 D (p1++V4 a u b v::p2) rest=a*O9 D (p1++u::p2) rest+b*O9 D (p1++v::p2) rest
 | [],p1,p2,_=>by simp [O9]
 | c::rest,p1,p2,hl=>by
  have hl':p1.length+p2.length+(rest.length+1)=n:=hl;have ih:=a6y h a u b v rest p1 (p2++[c]) (by rw [bF,fN]; lia);have h0:=h a (tl u) b (tl v) (p1.map tl) ((p2++rest).map tl) (by rw [aH,aH,bF]; lia);unfold O9;simp only [gX,eV,cV,cJ,a6w] at h0 ih ⊢;rw [h0,ih];exact b4U ..
theorem b6v (a b x y p q D:Int):(a*x+b*y)*D - (a*p+b*q)=a*(x*D - p)+b*(y*D - q):=by
 rw [fE,kS,kS,bK,bK];lia
theorem a4X {n:Nat} {D:List D4->Int} (h:Lin n D) (a:Int) (u:D4) (b:Int) (v:D4):∀ (r1 pre r2:List D4),pre.length+r1.length+r2.length=n →
  O9 D pre (r1++V4 a u b v::r2)=a*O9 D pre (r1++u::r2)+b*O9 D pre (r1++v::r2)
 | [],pre,r2,hl=>by
  have hp:=a6y h a u b v r2 pre [] (by simp only [iS] at hl ⊢; lia);simp only [jF];unfold O9;rw [hp];exact b6v ..
 | c::r1,pre,r2,hl=>by
  have hl':pre.length+(r1.length+1)+r2.length=n:=hl;have ih:=a4X h a u b v r1 (pre++[c]) r2 (by rw [bF,fN]; lia);have h0:=h a (tl u) b (tl v) ((pre++r1).map tl) (r2.map tl) (by rw [aH,aH,bF]; lia);simp only [eV];unfold O9;simp only [gX,eV,cV,cJ,a6w] at h0 ih ⊢;rw [h0,ih];exact b4U ..
theorem a4l:∀ n,Lin n (C3 n)
 | 0=>λ a u b v xs ys h=>by lia
 | n+1=>λ a u b v xs ys h=>a4X (a4l n) a u b v xs [] ys (by simp only [iS]; lia)
def Adj (n:Nat) (D:List D4->Int):Prop:=∀ (u:D4) (xs ys:List D4),xs.length+ys.length+2=n->D (xs++u::u::ys)=0
theorem a6M {n:Nat} {D:List D4->Int} (h:Adj n D) (u:D4):∀ (rest p1 p2:List D4),p1.length+p2.length+rest.length+1=n->O9 D (p1++u::u::p2) rest=0
 | [],_,_,_=>rfl
 | c::rest,p1,p2,hl=>by
  have hl':p1.length+p2.length+(rest.length+1)+1=n:=hl;have ih:=a6M h u rest p1 (p2++[c]) (by rw [bF,fN]; lia);have h0:=h (tl u) (p1.map tl) ((p2++rest).map tl) (by rw [aH,aH,bF]; lia);unfold O9;simp only [gX,eV,cV,cJ] at h0 ih ⊢;rw [h0,ih];lia
theorem a4M {n:Nat} {D:List D4->Int} (h:Adj n D) (u:D4):∀ (r1 pre r2:List D4),pre.length+r1.length+r2.length+1=n->O9 D pre (r1++u::u::r2)=0
 | [],pre,r2,hl=>by
  have hp:=a6M h u r2 pre [] (by simp only [iS] at hl ⊢; lia);simp only [jF];unfold O9;unfold O9;simp only [gX,eV,jF] at hp ⊢;rw [hp];lia
 | c::r1,pre,r2,hl=>by
  have hl':pre.length+(r1.length+1)+r2.length+1=n:=hl;have ih:=a4M h u r1 (pre++[c]) r2 (by rw [bF,fN]; lia);have h0:=h (tl u) ((pre++r1).map tl) (r2.map tl) (by rw [aH,aH,bF]; lia);simp only [eV];unfold O9;simp only [gX,eV,cV,cJ] at h0 ih ⊢;rw [h0,ih];lia
theorem a3Q:∀ n,Adj n (C3 n)
 | 0=>λ u xs ys h=>by lia
 | n+1=>λ u xs ys h=>a4M (a3Q n) u xs [] ys (by simp only [iS]; lia)
def T4 (k:Nat):D4:=λ i=>if i=k then 1 else 0
theorem a9Y {D:List D4->Int}:∀ (rest pre:List D4),(∀ c∈rest,c 0=0)->O9 D pre rest=0
 | [],_,_=>rfl
 | c::rest,pre,h=>by
  unfold O9;rw [h c dU,a9Y rest (pre++[c]) λ x hx=>h x (cQ _ hx)];lia
theorem a0L:∀ n,C3 n ((aR n).map T4)=1
 | 0=>rfl
 | n+1=>by
  show O9 (C3 n) [] ((aR (n+1)).map T4)=1
  rw [vA,cJ,bO];unfold O9;rw [a9Y _ _ (λ c hc=>by
   obtain ⟨k,_,rfl⟩:=bL.mp hc;rfl)]
  have e:([]++(aR n).map (T4 ∘ Nat.succ)).map tl=(aR n).map T4:=by
   rw [jF,bO];refine fX λ k _=>?_
   funext i
   show (if i+1=k+1 then (1:Int) else 0)=if i=k then 1 else 0
   by_cases c:i=k
   ·rw [if_pos (by lia),if_pos c]
   ·rw [if_neg (by lia),if_neg c]
  rw [e,a0L n];rfl
def bnd (M:Nat):Nat->Nat
 | 0=>1
 | n+1=>(n+1)*(M*bnd M n)
def Fits (M n:Nat) (v:D4):Prop:=∀ i,i<n->(v i).natAbs<=M
theorem a6u {D:List D4->Int} {M n B:Nat} (hD:∀ cols,cols.length=n->(∀ c∈cols,Fits M n c)->(D cols).natAbs<=B):∀ (rest pre:List D4),pre.length+rest.length=n+1->(∀ c∈pre,Fits M (n+1) c)->(∀ c∈rest,Fits M (n+1) c)->(O9 D pre rest).natAbs<=rest.length*(M*B)
 | [],_,_,_,_=>by simp [O9]
 | c::rest,pre,hl,hp,hr=>by
  have hl':pre.length+(rest.length+1)=n+1:=hl;have h1:=a6u hD rest (pre++[c]) (by rw [bF,fN]; lia) (λ x hx=>(bU.mp hx).elim (hp x) λ z=>by rw [cX.mp z]; exact hr c dU) λ x hx=>hr x (cQ _ hx);have h2:=hD ((pre++rest).map tl) (by rw [aH,bF]; lia) λ x hx=>by
   obtain ⟨y,hy,rfl⟩:=bL.mp hx;intro i hi;rcases bU.mp hy with z | z
   ·exact hp y z (i+1) (by lia)
   ·exact hr y (cQ _ z) (i+1) (by lia)
  have h3:=hr c dU 0 (by lia);unfold O9;rw [fL,pP];have h4:(c 0*D ((pre++rest).map tl)).natAbs<=M*B:=by rw [qJ]; exact Nat.mul_le_mul h3 h2
  have h5:=Int.natAbs_sub_le (c 0*D ((pre++rest).map tl)) (O9 D (pre++[c]) rest);lia
theorem a3M {M:Nat}:∀ (n:Nat) (cols:List D4),cols.length=n->(∀ c∈cols,Fits M n c)->(C3 n cols).natAbs<=bnd M n
 | 0,_,_,_=>aU 1
 | n+1,cols,hl,hf=>by
  have:=a6u (a3M (M:=M) n) cols [] (by simpa using hl) (λ c hc=>by cases hc) hf;rw [hl] at this;exact this
theorem a5g {α:Type} {C:List α} {i:Nat} {u:α} (h:C[i]?=some u):C=C.take i++u::C.drop (i+1):=by
 obtain ⟨hi,rfl⟩:=bP.mp h;rw [<- List.drop_eq_getElem_cons hi,List.take_append_drop]
theorem a9S (n:Nat) (u v:D4) (xs ys:List D4) (hl:xs.length+ys.length+2=n):C3 n (xs++u::v::ys) = - C3 n (xs++v::u::ys):=by
 have L:=a4l n;have A:=a3Q n;have h0:=A (V4 1 u 1 v) xs ys hl;have h1:=L 1 u 1 v xs (V4 1 u 1 v::ys) (by simp only [fL]; lia);have h2:=L 1 u 1 v (xs++[u]) ys (by simp only [bF,fN]; lia);have h3:=L 1 u 1 v (xs++[v]) ys (by simp only [bF,fN]; lia);have h4:=A u xs ys hl;have h5:=A v xs ys hl;simp only [gX,eV,jF] at h2 h3;lia
theorem a6Z (n:Nat) (u:D4):∀ (zs xs ys:List D4),xs.length+zs.length+ys.length+2=n->C3 n (xs++u::(zs++u::ys))=0
 | [],xs,ys,hl=>a3Q n u xs ys (by simp only [iS] at hl; lia)
 | z::zs,xs,ys,hl=>by
  have hl':xs.length+(zs.length+1)+ys.length+2=n:=hl;rw [eV,a9S n u z xs (zs++u::ys) (by simp only [bF,fL]; lia)];have:=a6Z n u zs (xs++[z]) ys (by rw [bF,fN]; lia);simp only [gX,eV,jF] at this;lia
theorem a7c {n:Nat} {C:List D4} {i k:Nat} {u:D4} (hl:C.length=n) (hik:i<k) (h1:C[i]?=some u) (h2:C[k]?=some u):C3 n C=0:=by
 have e1:=a5g h1;have hk:k<C.length:=(bP.mp h2).1;have h3:(C.drop (i+1))[k - (i+1)]?=some u:=by rw [vB,show i+1+(k - (i+1))=k by lia]; exact h2
 have e2:=a5g h3;rw [e1,e2];refine a6Z n u _ _ _ ?_;simp only [cU,eZ];lia
theorem Y0 {n:Nat} {C:List D4} {i k:Nat} {u:D4} (hl:C.length=n) (hik:i≠k) (h1:C[i]?=some u) (h2:C[k]?=some u):C3 n C=0:=by
 rcases Nat.lt_or_gt_of_ne hik with h | h
 ·exact a7c hl h h1 h2
 ·exact a7c hl h h2 h1
theorem a1l {α:Type} {C:List α} {k:Nat} (h:k<C.length) (u:α):C.set k u=C.take k++u::C.drop (k+1):=by
 rw [List.set_eq_take_append_cons_drop,if_pos h]
theorem W6 {n:Nat} {C:List D4} {k:Nat} (hl:C.length=n) (hk:k<n) (a:Int) (u:D4) (b:Int) (v:D4):C3 n (C.set k (V4 a u b v))=a*C3 n (C.set k u)+b*C3 n (C.set k v):=by
 have hk':k<C.length:=by lia
 rw [a1l hk',a1l hk',a1l hk'];refine a4l n a u b v _ _ ?_;simp only [cU,eZ];lia
theorem a3H {n:Nat} {C:List D4} {i k:Nat} (hl:C.length=n) (hi:i<n) (hk:k<n) (hik:i≠k) (u:D4):C3 n ((C.set i u).set k u)=0:=by
 refine Y0 (i:=i) (k:=k) (u:=u) (by rw [dG,dG]; exact hl) hik ?_ ?_
 ·rw [bY (bI hik),dI (by lia)]
 ·rw [dI (by rw [dG]; lia)]
theorem a5c {n:Nat} {C:List D4} {i k:Nat} (hl:C.length=n) (hi:i<n) (hk:k<n) (hik:i≠k) (u v:D4):C3 n ((C.set i u).set k v) = - C3 n ((C.set i v).set k u):=by
 have h0:=a3H hl hi hk hik (V4 1 u 1 v);have h1:=W6 (C:=C.set i (V4 1 u 1 v)) (by rw [dG]; exact hl) hk 1 u 1 v;have h2:=W6 (C:=C.set k u) (by rw [dG]; exact hl) hi 1 u 1 v;have h3:=W6 (C:=C.set k v) (by rw [dG]; exact hl) hi 1 u 1 v;have h4:=a3H hl hi hk hik u;have h5:=a3H hl hi hk hik v;rw [jP _ _ (bI hik),jP _ _ (bI hik),jP _ _ (bI hik)] at h2 h3;lia
def sumTo (g:Nat->Int):Nat->Int
 | 0=>0
 | n+1=>sumTo g n+g n
theorem sum_congr {g h:Nat->Int}:∀ {n:Nat},(∀ k,k<n->g k=h k)->sumTo g n=sumTo h n
 | 0,_=>rfl
 | n+1,e=>by
  show sumTo g n+g n=sumTo h n+h n
  rw [sum_congr λ k hk=>e k (by lia),e n (by lia)]
theorem sum_zero {g:Nat->Int} {n:Nat} (h:∀ k,k<n->g k=0):sumTo g n=0:=by
 induction n with
 | zero=>rfl
 | succ n ih =>
  show sumTo g n+g n=0
  rw [ih λ k hk=>h k (by lia),h n (by lia)];rfl
theorem sum_one {g:Nat->Int} {n r:Nat} (hr:r<n) (h:∀ k,k<n->k≠r->g k=0):sumTo g n=g r:=by
 induction n with
 | zero=>lia
 | succ n ih =>
  show sumTo g n+g n=g r
  by_cases c:r=n
  ·subst c
   rw [sum_zero λ k hk=>h k (by lia) (by lia)];lia
  ·rw [ih (by lia) λ k hk hn=>h k (by lia) hn,h n (by lia) (by lia)]
   lia
theorem S9 {g h:Nat->Int}:∀ n:Nat,sumTo (λ k=>g k+h k) n=sumTo g n+sumTo h n
 | 0=>rfl
 | n+1=>by
  show sumTo (λ k=>g k+h k) n+(g n+h n)=sumTo g n+g n+(sumTo h n+h n)
  rw [S9 n];lia
theorem C8 {g:Nat->Int} (a:Int):∀ n:Nat,sumTo (λ k=>a*g k) n=a*sumTo g n
 | 0=>(cC a).symm
 | n+1=>by
  show sumTo (λ k=>a*g k) n+a*g n=a*(sumTo g n+g n)
  rw [C8 a n,kQ]
theorem b1t {g:Nat->Int} {n r i:Nat} (hr:r<n) (hi:i<n) (hne:r≠i) (h:∀ k,k<n->k≠r->k≠i->g k=0):sumTo g n=g r+g i:=by
 have e:sumTo g n=sumTo (λ k=>(if k=r then g k else 0)+(if k=i then g k else 0)) n:=sum_congr λ k hk=>by
  by_cases c1:k=r
  ·rw [if_pos c1,if_neg (by lia)]; lia
  ·by_cases c2:k=i
   ·rw [if_neg c1,if_pos c2]; lia
   ·rw [if_neg c1,if_neg c2,h k hk c1 c2]; lia
 rw [e,S9,sum_one hr λ k _ hn=>if_neg hn,sum_one hi λ k _ hn=>if_neg hn,if_pos rfl,if_pos rfl]
theorem a1R {n:Nat} {C:List D4} {k:Nat} (hl:C.length=n) (hk:k<n) (t:Nat->Int) (W:Nat->D4):∀ m:Nat,C3 n (C.set k (λ x=>sumTo (λ j=>t j*W j x) m))=sumTo (λ j=>t j*C3 n (C.set k (W j))) m
 | 0=>by
  have h:=W6 hl hk 0 (λ _=>0) 0 (λ _=>0);have e:V4 0 (λ _=>0) 0 (λ _=>0)=(λ x:Nat=>sumTo (λ j=>t j*W j x) 0):=by funext x; simp [V4,sumTo]
  rw [e] at h;rw [h];simp [sumTo]
 | m+1=>by
  have h:=W6 hl hk 1 (λ x=>sumTo (λ j=>t j*W j x) m) (t m) (W m);have e:V4 1 (λ x=>sumTo (λ j=>t j*W j x) m) (t m) (W m)=(λ x:Nat=>sumTo (λ j=>t j*W j x) (m+1)):=by funext x; simp [V4,sumTo]
  rw [e,a1R hl hk t W m] at h;rw [h]
  show 1*sumTo _ m+_=sumTo _ m+_
  rw [jJ]
def zv:D4:=λ _=>0
def a4B (n:Nat) (B:List D4) (u:D4):Prop:=∀ x,C3 n B*u x=sumTo (λ k=>C3 n (B.set k u)*(B.getD k zv) x) n
theorem a3T {B:List D4} {k:Nat} (h:k<B.length):B[k]?=some (B.getD k zv):=by rw [aZ,aV h]; rfl
theorem Q9 {B:List D4} {k:Nat} (h:k<B.length):B.set k (B.getD k zv)=B:=by
 have e:B.getD k zv=B[k]:=by rw [aZ,aV h]; rfl
 rw [e,List.set_getElem_self]
theorem plu {n:Nat} {B:List D4} {r i:Nat} (hl:B.length=n) (hr:r<n) (hi:i<n) (hne:i≠r) {u:D4} (v:D4) (hc:a4B n B u) :
  C3 n B*C3 n ((B.set r u).set i v)=C3 n (B.set r u)*C3 n (B.set i v) - C3 n (B.set i u)*C3 n (B.set r v):=by
 have hl':(B.set i v).length=n:=by rw [dG]; exact hl
 have e1:C3 n ((B.set i v).set r (V4 (C3 n B) u 0 u))=C3 n B*C3 n ((B.set i v).set r u):=by
  rw [W6 hl' hr]; lia
 have e2:V4 (C3 n B) u 0 u=(λ x:Nat=>sumTo (λ k=>C3 n (B.set k u)*(B.getD k zv) x) n):=by
  funext x
  rw [<- hc x];unfold V4;lia
 rw [e2,a1R hl' hr (λ k=>C3 n (B.set k u)) (λ k=>B.getD k zv) n] at e1;rw [jP _ _ (bI hne),<- e1];rw [b1t hr hi (bI hne) λ k hk n1 n2=>?_]
 ·have a1:(B.set i v).set r (B.getD r zv)=B.set i v:=by rw [jP _ _ hne,Q9 (by lia)]
  have a2:C3 n ((B.set i v).set r (B.getD i zv)) = - C3 n (B.set r v):=by
   rw [a5c hl hi hr hne,Q9 (by lia)]
  show C3 n (B.set r u)*C3 n ((B.set i v).set r (B.getD r zv))+C3 n (B.set i u)*C3 n ((B.set i v).set r (B.getD i zv))=_
  rw [a1,a2,eY];lia
 ·have:C3 n ((B.set i v).set r (B.getD k zv))=0:=by
   refine Y0 (i:=k) (k:=r) (u:=B.getD k zv) (by rw [dG,dG]; exact hl) n1 ?_ ?_
   ·rw [bY (bI n1),bY (bI n2)]; exact a3T (by lia)
   ·rw [dI (by rw [dG]; lia)]
  show C3 n (B.set k u)*C3 n ((B.set i v).set r (B.getD k zv))=0
  rw [this,cC]
theorem b2O {d a b:Int} (hd:d≠0) (h:d*a=d*b):a=b:=Int.eq_of_mul_eq_mul_left hd h
theorem a3i {n:Nat} {B:List D4} {r:Nat} (hl:B.length=n) (hr:r<n) {u v:D4} (hd:C3 n B≠0) (hu:a4B n B u) (hv:a4B n B v):a4B n (B.set r u) v:=by
 intro x;refine b2O hd ?_;have e:∀ k,k<n->C3 n B*(C3 n ((B.set r u).set k v)*((B.set r u).getD k zv) x) =
   C3 n (B.set r u)*(C3 n (B.set k v)*(B.getD k zv) x)+(if k=r then C3 n B*(C3 n (B.set r v)*u x) else 0) - C3 n (B.set r v)*(C3 n (B.set k u)*(B.getD k zv) x):=λ k hk=>by
  by_cases c:k=r
  ·subst c
   rw [if_pos rfl,vC];have g:(B.set k u).getD k zv=u:=by rw [aZ,dI (by lia)]; rfl
   rw [g];have:C3 n (B.set k u)*(C3 n (B.set k v)*B.getD k zv x)=C3 n (B.set k v)*(C3 n (B.set k u)*B.getD k zv x):=by rw [<- bK,<- bK,bJ (C3 n (B.set k u))]
   lia
  ·rw [if_neg c]
   have g:(B.set r u).getD k zv=B.getD k zv:=by rw [aZ,bY (bI c),<- aZ]
   rw [g,<- bK,plu hl hr hk c v hu,Int.sub_mul,bK,bK];have:C3 n (B.set k u)*(C3 n (B.set r v)*B.getD k zv x)=C3 n (B.set r v)*(C3 n (B.set k u)*B.getD k zv x):=by rw [<- bK,<- bK,bJ (C3 n (B.set k u))]
   lia
 have s1:C3 n B*sumTo (λ k=>C3 n ((B.set r u).set k v)*((B.set r u).getD k zv) x) n =
   sumTo (λ k=>C3 n (B.set r u)*(C3 n (B.set k v)*(B.getD k zv) x)+(if k=r then C3 n B*(C3 n (B.set r v)*u x) else 0)+(- C3 n (B.set r v))*(C3 n (B.set k u)*(B.getD k zv) x)) n:=by
  rw [<- C8];refine sum_congr λ k hk=>?_;rw [e k hk,gZ];lia
 rw [s1,S9,S9,C8,C8,<- hv x,<- hu x,sum_one hr λ k _ hn=>if_neg hn,if_pos rfl,gZ];have a1:C3 n B*(C3 n (B.set r u)*v x)=C3 n (B.set r u)*(C3 n B*v x):=by rw [<- bK,<- bK,bJ (C3 n B)]
 have a2:C3 n B*(C3 n (B.set r v)*u x)=C3 n (B.set r v)*(C3 n B*u x):=by rw [<- bK,<- bK,bJ (C3 n B)]
 lia
theorem a7K {n:Nat} {B:List D4} {r:Nat} (hl:B.length=n) (hr:r<n):a4B n B (B.getD r zv):=by
 intro x;rw [sum_one hr λ k hk hn=>?_]
 ·rw [Q9 (by lia)]
 ·have:C3 n (B.set k (B.getD r zv))=0:=by
   refine Y0 (i:=r) (k:=k) (u:=B.getD r zv) (by rw [dG]; exact hl) (bI hn) ?_ ?_
   ·rw [bY hn]; exact a3T (by lia)
   ·rw [dI (by lia)]
  rw [this,hU]
theorem b4O {n:Nat} {B:List D4} (hl:B.length=n) (hd:C3 n B≠0) {t:Nat->Int} (h:∀ x,sumTo (λ k=>t k*(B.getD k zv) x) n=0) {i:Nat} (hi:i<n):t i=0:=by
 have h1:=a1R (C:=B) hl hi t (λ k=>B.getD k zv) n;have e:(λ x:Nat=>sumTo (λ k=>t k*(B.getD k zv) x) n)=zv:=by funext x; rw [h x]; rfl
 rw [e] at h1;have h0:C3 n (B.set i zv)=0:=by
  have:=W6 hl hi 0 zv 0 zv;have e:V4 0 zv 0 zv=zv:=by funext x; simp [V4,zv]
  rw [e] at this;lia
 rw [h0,sum_one hi λ k hk hn=>?_,Q9 (by lia)] at h1
 ·exact (oH.mp h1.symm).resolve_right hd
 ·have:C3 n (B.set i (B.getD k zv))=0:=by
   refine Y0 (i:=k) (k:=i) (u:=B.getD k zv) (by rw [dG]; exact hl) hn ?_ ?_
   ·rw [bY (bI hn)]; exact a3T (by lia)
   ·rw [dI (by lia)]
  rw [this,cC]
structure Bo where
 d:Int
 T:Nat->Nat->Int
 ins:Nat->Nat
 outs:Nat->Nat
def upN (g:Nat->Nat) (k v:Nat):Nat->Nat:=λ i=>if i=k then v else g i
theorem x9 {g:Nat->Nat} {k v:Nat}:upN g k v k=v:=if_pos rfl
theorem A3 {g:Nat->Nat} {k v i:Nat} (h:i≠k):upN g k v i=g i:=if_neg h
def piv (S:Bo) (r c:Nat):Bo where
 d:=S.T r c
 T:=λ i j=>if i=r then (if j=c then S.d else S.T r j) else (if j=c then - S.T i c else (S.T i j*S.T r c - S.T i c*S.T r j) / S.d)
 ins:=upN S.ins r (S.outs c)
 outs:=upN S.outs c (S.ins r)
def Bs (m:Nat) (V:Nat->D4) (ins:Nat->Nat):List D4:=(aR (m+1)).map λ i=>V (ins i)
theorem a1r (m:Nat) (V:Nat->D4) (ins:Nat->Nat):(Bs m V ins).length=m+1:=by unfold Bs; rw [aH,fF]
theorem a6s {m:Nat} {V:Nat->D4} {ins:Nat->Nat} {i:Nat} (h:i<m+1):(Bs m V ins).getD i zv=V (ins i):=by
 unfold Bs;rw [aZ,aQ,bZ h];rfl
theorem a8U {m:Nat} {V:Nat->D4} {ins:Nat->Nat} {r v:Nat} (h:r<m+1):Bs m V (upN ins r v)=(Bs m V ins).set r (V v):=by
 refine eD λ i=>?_;unfold Bs
 by_cases c:i=r
 ·subst c
  rw [dI (by rw [aH,fF]; exact h),aQ,bZ h]
  show some (V (upN ins i v i))=_
  rw [x9]
 ·rw [bY (bI c),aQ,aQ]
  by_cases hi:i<m+1
  ·rw [bZ hi]
   show some (V (upN ins r v i))=some (V (ins i))
   rw [A3 c]
  ·rw [cK (by rw [fF]; lia)]
   rfl
structure Wf (m q:Nat) (V:Nat->D4) (S:Bo):Prop where
 hd:S.d=C3 (m+1) (Bs m V S.ins)
 hT:∀ i j,i<m+1->j<q+1->S.T i j=C3 (m+1) ((Bs m V S.ins).set i (V (S.outs j)))
 cr:∀ j,j<q+1->a4B (m+1) (Bs m V S.ins) (V (S.outs j))
 pos:0<S.d
 feas:∀ i,i<m->0<=S.T i q
 im:S.ins m=q+m
 oq:S.outs q=q+m+1
 ib:∀ i,i<m->S.ins i<q+m
 ob:∀ j,j<q->S.outs j<q+m
 ii:∀ i k,i<m->k<m->S.ins i=S.ins k->i=k
 oo:∀ j k,j<q->k<q->S.outs j=S.outs k->j=k
 io:∀ i j,i<m->j<q->S.ins i≠S.outs j
 all:∀ v,v<q+m->(∃ i,i<m/\S.ins i=v)\/(∃ j,j<q/\S.outs j=v)
section
variable {m q:Nat} {V:Nat->D4} {S:Bo}
theorem Wf.exact (W:Wf m q V S) {r c i j:Nat} (hr:r<m) (hc:c<q) (hi:i<m+1) (hj:j<q+1) (hne:i≠r) :
  S.T i j*S.T r c - S.T i c*S.T r j=S.d*C3 (m+1) (((Bs m V S.ins).set r (V (S.outs c))).set i (V (S.outs j))):=by
 have h:=plu (a1r m V S.ins) (show r<m+1 by lia) hi hne (V (S.outs j)) (W.cr c (by lia));rw [W.hd,h,W.hT i j hi hj,W.hT r c (by lia) (by lia),W.hT i c hi (by lia),W.hT r j (by lia) hj];rw [bJ (C3 (m+1) ((Bs m V S.ins).set i (V (S.outs j))))]
theorem Wf.pivT (W:Wf m q V S) {r c i j:Nat} (hr:r<m) (hc:c<q) (hi:i<m+1) (hj:j<q+1):(piv S r c).T i j=C3 (m+1) ((Bs m V (piv S r c).ins).set i (V ((piv S r c).outs j))):=by
 have hl:=a1r m V S.ins
 show (if i=r then (if j=c then S.d else S.T r j) else (if j=c then - S.T i c else (S.T i j*S.T r c - S.T i c*S.T r j) / S.d))=C3 (m+1) ((Bs m V (upN S.ins r (S.outs c))).set i (V (upN S.outs c (S.ins r) j)))
 rw [a8U (by lia)]
 by_cases c1:i=r
 ·subst c1
  rw [if_pos rfl,vC]
  by_cases c2:j=c
  ·subst c2
   rw [if_pos rfl,x9,W.hd,<- a6s (V:=V) (ins:=S.ins) hi,Q9 (by lia)]
  ·rw [if_neg c2,A3 c2]
   exact W.hT i j hi hj
 ·rw [if_neg c1]
  by_cases c2:j=c
  ·subst c2
   rw [if_pos rfl,x9,a5c hl (by lia) hi (bI c1),<- a6s (V:=V) (ins:=S.ins) (show r<m+1 by lia),Q9 (by lia),W.hT i j hi hj]
  ·rw [if_neg c2,A3 c2,W.exact hr hc hi hj c1]
   exact uR _ (by have:=W.pos; lia)
theorem Wf.mulT (W:Wf m q V S) {r c i j:Nat} (hr:r<m) (hc:c<q) (hi:i<m+1) (hj:j<q+1) (hne:i≠r) (hjc:j≠c):S.d*(piv S r c).T i j=S.T i j*S.T r c - S.T i c*S.T r j:=by
 have e:=W.pivT hr hc hi hj;have h:=W.exact hr hc hi hj hne;have e2:Bs m V (piv S r c).ins=(Bs m V S.ins).set r (V (S.outs c)):=a8U (by lia);have e3:(piv S r c).outs j=S.outs j:=A3 hjc;rw [e2,e3] at e;rw [h,e]
theorem Wf.pivot (W:Wf m q V S) {r c:Nat} (hr:r<m) (hc:c<q) (hp:0<S.T r c) (hq:∀ i,i<m->0<S.T i c->S.T r q*S.T i c<=S.T i q*S.T r c):Wf m q V (piv S r c):=by
 have hl:=a1r m V S.ins;have hd0:C3 (m+1) (Bs m V S.ins)≠0:=by have:=W.pos; rw [W.hd] at this; lia
 have hB:Bs m V (piv S r c).ins=(Bs m V S.ins).set r (V (S.outs c)):=a8U (by lia);refine ⟨?_,λ i j hi hj=>W.pivT hr hc hi hj,λ j hj=>?_,hp,λ i hi=>?_,?_,?_,λ i hi=>?_,λ j hj=>?_,λ i k hi hk e=>?_,λ j k hj hk e=>?_,λ i j hi hj e=>?_,λ v hv=>?_⟩
 ·rw [hB]; exact W.hT r c (by lia) (by lia)
 ·rw [hB]
  by_cases c2:j=c
  ·subst c2
   show a4B _ _ (V (upN S.outs j (S.ins r) j))
   rw [x9];have h:=a7K hl (show r<m+1 by lia);rw [a6s (by lia)] at h;exact a3i hl (by lia) hd0 (W.cr j hj) h
  ·show a4B _ _ (V (upN S.outs c (S.ins r) j))
   rw [A3 c2];exact a3i hl (by lia) hd0 (W.cr c (by lia)) (W.cr j hj)
 ·by_cases c1:i=r
  ·subst c1
   show 0<=(if i=i then (if q=c then S.d else S.T i q) else _)
   rw [if_pos rfl,if_neg (by lia)];exact W.feas i hi
  ·have e:=W.mulT hr hc (show i<m+1 by lia) (show q<q+1 by lia) c1 (show q≠c by lia)
   have f1:=W.feas i hi;have f2:=W.feas r hr;have hpos:=W.pos;have nn:0<=S.T i q*S.T r c - S.T i c*S.T r q:=by
    have a1:0<=S.T i q*S.T r c:=eE f1 (bR hp)
    by_cases z:0<S.T i c
    ·have:=hq i hi z
     rw [bJ (S.T i c)];lia
    ·have a2:0 <= - (S.T i c)*S.T r q:=eE (by lia) f2
     rw [gZ] at a2;lia
   rw [<- e] at nn
   by_cases z:0<=(piv S r c).T i q
   ·exact z
   ·have:=eF hpos (show 0 < - (piv S r c).T i q by lia)
    rw [eY] at this;lia
 ·show upN S.ins r (S.outs c) m=q+m
  rw [A3 (by lia)]; exact W.im
 ·show upN S.outs c (S.ins r) q=q+m+1
  rw [A3 (by lia)]; exact W.oq
 ·show upN S.ins r (S.outs c) i<q+m
  by_cases c1:i=r
  ·rw [c1,x9]; exact W.ob c hc
  ·rw [A3 c1]; exact W.ib i hi
 ·show upN S.outs c (S.ins r) j<q+m
  by_cases c1:j=c
  ·rw [c1,x9]; exact W.ib r hr
  ·rw [A3 c1]; exact W.ob j hj
 ·replace e:upN S.ins r (S.outs c) i=upN S.ins r (S.outs c) k:=e
  by_cases c1:i=r
  ·by_cases c2:k=r
   ·lia
   ·rw [c1,x9,A3 c2] at e
    exact absurd e.symm (W.io k c hk hc)
  ·by_cases c2:k=r
   ·rw [c2,x9,A3 c1] at e
    exact absurd e (W.io i c hi hc)
   ·rw [A3 c1,A3 c2] at e
    exact W.ii i k hi hk e
 ·replace e:upN S.outs c (S.ins r) j=upN S.outs c (S.ins r) k:=e
  by_cases c1:j=c
  ·by_cases c2:k=c
   ·lia
   ·rw [c1,x9,A3 c2] at e
    exact absurd e (W.io r k hr hk)
  ·by_cases c2:k=c
   ·rw [c2,x9,A3 c1] at e
    exact absurd e.symm (W.io r j hr hj)
   ·rw [A3 c1,A3 c2] at e
    exact W.oo j k hj hk e
 ·replace e:upN S.ins r (S.outs c) i=upN S.outs c (S.ins r) j:=e
  by_cases c1:i=r
  ·by_cases c2:j=c
   ·rw [c1,c2,x9,x9] at e
    exact absurd e.symm (W.io r c hr hc)
   ·rw [c1,x9,A3 c2] at e
    exact c2 (W.oo c j hc hj e).symm
  ·by_cases c2:j=c
   ·rw [c2,x9,A3 c1] at e
    exact c1 (W.ii i r hi hr e)
   ·rw [A3 c1,A3 c2] at e
    exact W.io i j hi hj e
 ·show (∃ i,i<m/\upN S.ins r (S.outs c) i=v)\/(∃ j,j<q/\upN S.outs c (S.ins r) j=v)
  rcases W.all v hv with ⟨i,hi,e⟩ | ⟨j,hj,e⟩
  ·by_cases c1:i=r
   ·exact .inr ⟨c,hc,by rw [x9,<- c1]; exact e⟩
   ·exact .inl ⟨i,hi,by rw [A3 c1]; exact e⟩
  ·by_cases c1:j=c
   ·exact .inl ⟨r,hr,by rw [x9,<- c1]; exact e⟩
   ·exact .inr ⟨j,hj,by rw [A3 c1]; exact e⟩
def Ker (m q:Nat) (V:Nat->D4) (S:Bo) (z:Nat->Int):Prop:=∀ x,sumTo (λ k=>z (S.ins k)*V (S.ins k) x) (m+1)+sumTo (λ j=>z (S.outs j)*V (S.outs j) x) (q+1)=0
theorem a6r {g h:Nat->Int} {n r:Nat} (hr:r<n) (e:∀ k,k<n->k≠r->g k=h k):sumTo g n=sumTo h n+(g r - h r):=by
 have e1:sumTo g n=sumTo (λ k=>h k+(if k=r then g k - h k else 0)) n:=sum_congr λ k hk=>by
  by_cases c:k=r
  ·rw [if_pos c]; lia
  ·rw [if_neg c,e k hk c]; lia
 rw [e1,S9,sum_one hr λ k _ hn=>if_neg hn,if_pos rfl]
theorem Ker.piv {r c:Nat} (hr:r<m) (hc:c<q) {z:Nat->Int}:Ker m q V (piv S r c) z ↔ Ker m q V S z:=by
  have e:∀ x,sumTo (λ k=>z ((Lp.piv S r c).ins k)*V ((Lp.piv S r c).ins k) x) (m+1)+sumTo (λ j=>z ((Lp.piv S r c).outs j)*V ((Lp.piv S r c).outs j) x) (q+1)
     =sumTo (λ k=>z (S.ins k)*V (S.ins k) x) (m+1)+sumTo (λ j=>z (S.outs j)*V (S.outs j) x) (q+1):=λ x=>by
    have h1:=a6r (g:=λ k=>z ((Lp.piv S r c).ins k)*V ((Lp.piv S r c).ins k) x) (h:=λ k=>z (S.ins k)*V (S.ins k) x) (n:=m+1) (r:=r) (by lia) λ k hk hn=>by
      show z (upN S.ins r (S.outs c) k)*V (upN S.ins r (S.outs c) k) x=_
      rw [A3 hn]
    have h2:=a6r (g:=λ j=>z ((Lp.piv S r c).outs j)*V ((Lp.piv S r c).outs j) x) (h:=λ j=>z (S.outs j)*V (S.outs j) x) (n:=q+1) (r:=c) (by lia) λ k hk hn=>by
      show z (upN S.outs c (S.ins r) k)*V (upN S.outs c (S.ins r) k) x=_
      rw [A3 hn]
    rw [h1,h2]
    show _+(z (upN S.ins r (S.outs c) r)*V (upN S.ins r (S.outs c) r) x - _)+(_+(z (upN S.outs c (S.ins r) c)*V (upN S.outs c (S.ins r) c) x - _))=_
    rw [x9,x9];lia
  exact ⟨λ h x=>(e x).symm.trans (h x),λ h x=>(e x).trans (h x)⟩
def a2i (q:Nat) (S:Bo) (z:Nat->Int) (i:Nat):Int:=S.d*z (S.ins i)+sumTo (λ j=>S.T i j*z (S.outs j)) (q+1)
theorem a0N {g:Nat->Nat->Int} (n:Nat):∀ k:Nat,sumTo (λ i=>sumTo (λ j=>g i j) k) n=sumTo (λ j=>sumTo (λ i=>g i j) n) k
 | 0=>sum_zero λ _ _=>rfl
 | k+1=>by
  show sumTo (λ i=>sumTo (λ j=>g i j) k+g i k) n=sumTo (λ j=>sumTo (λ i=>g i j) n) k+sumTo (λ i=>g i k) n
  rw [S9,a0N n k]
theorem Wf.rows (W:Wf m q V S) (z:Nat->Int) (x:Nat):S.d*(sumTo (λ k=>z (S.ins k)*V (S.ins k) x) (m+1)+sumTo (λ j=>z (S.outs j)*V (S.outs j) x) (q+1))=sumTo (λ k=>a2i q S z k*((Bs m V S.ins).getD k zv) x) (m+1):=by
 have e1:S.d*sumTo (λ j=>z (S.outs j)*V (S.outs j) x) (q+1)=sumTo (λ k=>sumTo (λ j=>S.T k j*z (S.outs j)) (q+1)*((Bs m V S.ins).getD k zv) x) (m+1):=by
  rw [<- C8];have h1:∀ j,j<q+1->S.d*(z (S.outs j)*V (S.outs j) x)=sumTo (λ k=>S.T k j*z (S.outs j)*((Bs m V S.ins).getD k zv) x) (m+1):=λ j hj=>by
   have h:=W.cr j hj x;rw [<- W.hd] at h;rw [bJ (z (S.outs j)),<- bK,h,bJ,<- C8];refine sum_congr λ k hk=>?_;rw [W.hT k j hk hj,<- bK,bJ (z (S.outs j))]
  rw [sum_congr h1,<- a0N];refine sum_congr λ k hk=>?_;rw [bJ (sumTo _ _),<- C8];exact sum_congr λ j _=>bJ _ _
 rw [kQ,e1,<- C8,<- S9];refine sum_congr λ k hk=>?_
 show _=(S.d*z (S.ins k)+_)*_
 rw [fE,a6s hk,bK]
theorem Wf.row_of (W:Wf m q V S) {z:Nat->Int} (h:Ker m q V S z) {i:Nat} (hi:i<m+1):a2i q S z i=0:=by
 refine b4O (a1r m V S.ins) (by have:=W.pos; rw [W.hd] at this; lia) (λ x=>?_) hi;rw [<- W.rows z x,h x,cC]
theorem Wf.ker_of (W:Wf m q V S) {z:Nat->Int} (h:∀ i,i<m+1->a2i q S z i=0):Ker m q V S z:=λ x=>by
 have e:=W.rows z x;have e0:sumTo (λ k=>a2i q S z k*((Bs m V S.ins).getD k zv) x) (m+1)=0:=sum_zero λ k hk=>by rw [h k hk,hU]
 rw [e0] at e;exact (oH.mp e).resolve_left (by have:=W.pos; lia)
end
structure Choice (m q:Nat) (S:Bo) (r c:Nat):Prop where
 hc:c<q
 neg:S.T m c<0
 minc:∀ j,j<q->S.T m j<0->S.outs c<=S.outs j
 hr:r<m
 pos:0<S.T r c
 ratio:∀ i,i<m->0<S.T i c->S.T r q*S.T i c<=S.T i q*S.T r c
 tie:∀ i,i<m->0<S.T i c->S.T r q*S.T i c=S.T i q*S.T r c->S.ins r<=S.ins i
theorem a6P {g:Nat->Int}:∀ {n:Nat},sumTo g n<0->∃ k,k<n/\g k<0
 | 0,h=>absurd h (by show ¬ (0:Int)<0; lia)
 | n+1,h=>by
  have h':sumTo g n+g n<0:=h
  by_cases c:g n<0
  ·exact ⟨n,by lia,c⟩
  ·obtain ⟨k,hk,hg⟩:=a6P (g:=g) (n:=n) (by lia)
   exact ⟨k,by lia,hg⟩
section
variable {m q:Nat} {V:Nat->D4} {S S':Bo}
theorem Wf.inj (W:Wf m q V S) {i k:Nat} (hi:i<m+1) (hk:k<m+1) (e:S.ins i=S.ins k):i=k:=by
 by_cases c1:i=m
 ·by_cases c2:k=m
  ·lia
  ·have:=W.ib k (by lia)
   rw [c1,W.im] at e;lia
 ·by_cases c2:k=m
  ·have:=W.ib i (by lia)
   rw [c2,W.im] at e;lia
  ·exact W.ii i k (by lia) (by lia) e
theorem Wf.apart (W:Wf m q V S) {i j:Nat} (hi:i<m+1) (hj:j<q+1):S.ins i≠S.outs j:=by
 intro e;have hI:S.ins i<=q+m:=by
  by_cases c1:i=m
  ·rw [c1,W.im]; exact aU _
  ·have:=W.ib i (by lia); lia
 by_cases c2:j=q
 ·rw [c2,W.oq] at e; lia
 ·have:=W.ob j (by lia)
  by_cases c1:i=m
  ·rw [c1,W.im] at e; lia
  ·exact W.io i j (by lia) (by lia) e
theorem Wf.injo (W:Wf m q V S) {j k:Nat} (hj:j<q+1) (hk:k<q+1) (e:S.outs j=S.outs k):j=k:=by
 by_cases c1:j=q
 ·by_cases c2:k=q
  ·lia
  ·have:=W.ob k (by lia)
   rw [c1,W.oq] at e;lia
 ·by_cases c2:k=q
  ·have:=W.ob j (by lia)
   rw [c2,W.oq] at e;lia
  ·exact W.oo j k (by lia) (by lia) e
def ray (m:Nat) (S:Bo) (c:Nat) (v:Nat):Int:=if v=S.outs c then S.d else sumTo (λ i=>if S.ins i=v then - S.T i c else 0) (m+1)
theorem Wf.ray_in (W:Wf m q V S) {c k:Nat} (hc:c<q+1) (hk:k<m+1):ray m S c (S.ins k) = - S.T k c:=by
 unfold ray;rw [if_neg (W.apart hk hc),sum_one hk λ i hi hn=>if_neg λ e=>hn (W.inj hi hk e),if_pos rfl]
theorem Wf.ray_out (W:Wf m q V S) {c j:Nat} (hc:c<q+1) (hj:j<q+1) (hn:j≠c):ray m S c (S.outs j)=0:=by
 unfold ray;rw [if_neg λ e=>hn (W.injo hj hc e)];exact sum_zero λ i hi=>if_neg (W.apart hi hj)
theorem Wf.ray_c {c:Nat}:ray m S c (S.outs c)=S.d:=if_pos rfl
theorem Wf.ray_ker (W:Wf m q V S) {c:Nat} (hc:c<q+1):Ker m q V S (ray m S c):=W.ker_of λ i hi=>by
 unfold a2i;rw [W.ray_in hc hi,sum_one hc λ j hj hn=>by rw [W.ray_out hc hj hn,cC],Wf.ray_c,eY,bJ];lia
theorem b2a (W:Wf m q V S) (W':Wf m q V S') (hk:∀ z,Ker m q V S z->Ker m q V S' z) {r c r' c':Nat} (C:Choice m q S r c) (C':Choice m q S' r' c') (ht:S.ins r=S'.outs c') (hst:S.outs c<S.ins r)
  (stat:∀ v,S.ins r<v->(∃ i,i<m/\S.ins i=v)->∃ i,i<m/\S'.ins i=v) (zero:∀ k j,k<m->j<q->S.ins k=S'.outs j->S.T k q=0):False:=by
 have hc1:c<q+1:=by have:=C.hc; lia
 have R:=W'.row_of (hk _ (W.ray_ker hc1)) (show m<m+1 by lia);have zobj:ray m S c (S'.ins m) = - S.T m c:=by rw [W'.im,<- W.im]; exact W.ray_in hc1 (by lia)
 have zcon:ray m S c (S'.outs q)=0:=by rw [W'.oq,<- W.oq]; exact W.ray_out hc1 (by lia) (by have:=C.hc; lia)
 unfold a2i at R
 replace R:S'.d*ray m S c (S'.ins m)+(sumTo (λ j=>S'.T m j*ray m S c (S'.outs j)) q+S'.T m q*ray m S c (S'.outs q))=0:=R
 rw [zobj,zcon,cC,eY] at R;have hneg:0<S'.d*(- S.T m c):=eF W'.pos (by have:=C.neg; lia);rw [eY] at hneg;obtain ⟨j,hj,hg⟩:=a6P (g:=λ j=>S'.T m j*ray m S c (S'.outs j)) (n:=q) (by lia)
 replace hg:S'.T m j*ray m S c (S'.outs j)<0:=hg
 rcases W.all (S'.outs j) (W'.ob j hj) with ⟨k,hk1,e⟩ | ⟨j2,hj2,e⟩
 ·rw [<- e,W.ray_in hc1 (by lia)] at hg
  rcases Nat.lt_trichotomy (S'.outs j) (S.ins r) with h | h | h
  ·have h1:0<=S'.T m j:=by
    by_cases z:S'.T m j<0
    ·have:=C'.minc j hj z
     lia
    ·lia
   have h2:0<S.T k c:=by
    by_cases z:0<S.T k c
    ·exact z
    ·have:=eE h1 (show 0 <= - S.T k c by lia)
     lia
   have h3:=zero k j hk1 hj e;have h4:=C.ratio k hk1 h2;rw [h3,hU] at h4;have h5:0<=S.T r q*S.T k c:=eE (W.feas r C.hr) (bR h2);have h6:=C.tie k hk1 h2 (by rw [h3,hU]; omega);lia
  ·have e1:j=c':=W'.oo j c' hj C'.hc (by rw [h,ht])
   have e2:k=r:=W.ii k r hk1 C.hr (by rw [e,h]);rw [e1,e2] at hg;have:=eF (show 0 < - S'.T m c' by have:=C'.neg; lia) C.pos;rw [gZ] at this;rw [eY] at hg;lia
  ·obtain ⟨i,hi,e3⟩:=stat _ h ⟨k,hk1,e⟩
   exact W'.io i j hi hj e3
 ·by_cases c2:j2=c
  ·rw [<- e,c2,Wf.ray_c] at hg
   have h1:S'.T m j<0:=by
    by_cases z:S'.T m j<0
    ·exact z
    ·have:=eE (show 0<=S'.T m j by lia) (bR W.pos)
     lia
   have:=C'.minc j hj h1;rw [c2] at e;lia
  ·rw [<- e,W.ray_out hc1 (by lia) c2,cC] at hg
   lia
def Zr (m q:Nat) (S:Bo) (v:Nat):Prop:=∀ i,i<m->S.ins i=v->S.T i q=0
def Bas (m:Nat) (S:Bo) (v:Nat):Prop:=∃ i,i<m/\S.ins i=v
theorem Bas.piv (W:Wf m q V S) {r c v:Nat} (hr:r<m) (hc:c<q) (h1:v≠S.ins r) (h2:v≠S.outs c):Bas m (Lp.piv S r c) v ↔ Bas m S v:=by
 constructor
 ·rintro ⟨i,hi,e⟩
  replace e:upN S.ins r (S.outs c) i=v:=e
  by_cases z:i=r
  ·rw [z,x9] at e; exact absurd e.symm h2
  ·rw [A3 z] at e; exact ⟨i,hi,e⟩
 ·rintro ⟨i,hi,e⟩
  have z:i≠r:=λ z=>h1 (by rw [<- e,z]);exact ⟨i,hi,(A3 z).trans e⟩
theorem Zr.piv (W:Wf m q V S) {r c:Nat} (C:Choice m q S r c) (h0:S.T r q=0) (v:Nat):Zr m q (Lp.piv S r c) v ↔ Zr m q S v:=by
 have key:∀ i,i<m->i≠r->((Lp.piv S r c).T i q=0 ↔ S.T i q=0):=λ i hi hn=>by
  have e:=W.mulT C.hr C.hc (show i<m+1 by lia) (show q<q+1 by lia) hn (show q≠c by have:=C.hc; lia);rw [h0,cC,Int.sub_zero] at e;constructor
  ·intro z
   rw [z,cC] at e;exact (oH.mp e.symm).resolve_right (by have:=C.pos; lia)
  ·intro z
   rw [z,hU] at e;exact (oH.mp e).resolve_left (by have:=W.pos; lia)
 have kr:(Lp.piv S r c).T r q=0:=by
  show (if r=r then (if q=c then S.d else S.T r q) else _)=0
  rw [if_pos rfl,if_neg (by have:=C.hc; lia)]; exact h0
 constructor
 ·intro h i hi e
  by_cases z:i=r
  ·rw [z]; exact h0
  ·exact (key i hi z).mp (h i hi ((A3 z).trans e))
 ·intro h i hi e
  by_cases z:i=r
  ·rw [z]; exact kr
  ·exact (key i hi z).mpr (h i hi ((A3 z).symm.trans e))
end
structure Seq (m q:Nat) (V:Nat->D4) (S:Nat->Bo) (R C:Nat->Nat):Prop where
 w:Wf m q V (S 0)
 ch:∀ k,Choice m q (S k) (R k) (C k)
 st:∀ k,S (k+1)=piv (S k) (R k) (C k)
section
variable {m q:Nat} {V:Nat->D4} {S:Nat->Bo} {R C:Nat->Nat}
theorem Seq.wf (Q:Seq m q V S R C):∀ k,Wf m q V (S k)
 | 0=>Q.w
 | k+1=>by rw [Q.st k]; exact (Q.wf k).pivot (Q.ch k).hr (Q.ch k).hc (Q.ch k).pos (Q.ch k).ratio
theorem Seq.ker (Q:Seq m q V S R C) (z:Nat->Int) (a:Nat):∀ n,Ker m q V (S (a+n)) z ↔ Ker m q V (S a) z
 | 0=>oJ
 | n+1=>by
  show Ker m q V (S (a+n+1)) z ↔ _
  rw [Q.st,Ker.piv (Q.ch _).hr (Q.ch _).hc];exact Q.ker z a n
def Dg (q:Nat) (S:Nat->Bo) (R:Nat->Nat) (k:Nat):Prop:=(S k).T (R k) q=0
theorem Seq.zr (Q:Seq m q V S R C) (v a:Nat):∀ n,(∀ k,a<=k->k<a+n->Dg q S R k)->(Zr m q (S (a+n)) v ↔ Zr m q (S a) v)
 | 0,_=>oJ
 | n+1,h=>by
  show Zr m q (S (a+n+1)) v ↔ _
  rw [Q.st,Zr.piv (Q.wf _) (Q.ch _) (h (a+n) (by lia) (by lia))];exact Q.zr v a n λ k h1 h2=>h k h1 (by lia)
def a4t (S:Nat->Bo) (R C:Nat->Nat) (k v:Nat):Prop:=v=(S k).ins (R k)\/v=(S k).outs (C k)
theorem Seq.bas (Q:Seq m q V S R C) (v a:Nat):∀ n,(∀ k,a<=k->k<a+n->¬ a4t S R C k v)->(Bas m (S (a+n)) v ↔ Bas m (S a) v)
 | 0,_=>oJ
 | n+1,h=>by
  have hp:=h (a+n) (by lia) (by lia)
  show Bas m (S (a+n+1)) v ↔ _
  rw [Q.st,Bas.piv (Q.wf _) (Q.ch _).hr (Q.ch _).hc (λ z=>hp (.inl z)) λ z=>hp (.inr z)];exact Q.bas v a n λ k h1 h2=>h k h1 (by lia)
theorem Seq.once (Q:Seq m q V S R C) {a b t:Nat} (hd:∀ k,a<=k->k<b->Dg q S R k) (ht:∀ k,a<=k->k<b->∀ v,a4t S R C k v->v<=t):∀ (g k0 k1:Nat),k1=k0+1+g->a<=k0->k1<b->a4t S R C k0 t->a4t S R C k1 t->False:=by
 intro g
 induction g using Nat.strongRecOn with
 | _ g ih =>
  intro k0 k1 hk ha hb p0 p1
  by_cases hm:∃ k,k0<k/\k<k1/\a4t S R C k t
  ·obtain ⟨k,h1,h2,h3⟩:=hm
   exact ih (k - k0 - 1) (by lia) k0 k (by lia) ha (by lia) p0 h3
  have W0:=Q.wf k0;have W1:=Q.wf k1;have C0:=Q.ch k0;have C1:=Q.ch k1;have bmid:Bas m (S k1) t ↔ Bas m (S (k0+1)) t:=by
   have:=Q.bas t (k0+1) g λ k h1 h2=>λ z=>hm ⟨k,by lia,by lia,z⟩;rw [show k0+1+g=k1 by lia] at this;exact this
  have stat:∀ v,t<v->(Bas m (S k1) v ↔ Bas m (S k0) v):=λ v hv=>by
   have:=Q.bas v k0 (g+1) λ k h1 h2=>λ z=>by have:=ht k (by lia) (by lia) v z; lia
   rw [show k0+(g+1)=k1 by lia] at this;exact this
  have ker:∀ z,Ker m q V (S k1) z ↔ Ker m q V (S k0) z:=λ z=>by
   have:=Q.ker z k0 (g+1);rw [show k0+(g+1)=k1 by lia] at this;exact this
  have zrr:∀ v,Zr m q (S k1) v ↔ Zr m q (S k0) v:=λ v=>by
   have:=Q.zr v k0 (g+1) λ k h1 h2=>hd k (by lia) (by lia);rw [show k0+(g+1)=k1 by lia] at this;exact this
  rcases p0 with e0 | e0
  ·-- it goes out at k0,so it comes in at k1
   have nb:¬ Bas m (S (k0+1)) t:=by
    rintro ⟨i,hi,e⟩;rw [Q.st k0] at e
    replace e:upN (S k0).ins (R k0) ((S k0).outs (C k0)) i=t:=e
    by_cases z:i=R k0
    ·rw [z,x9,e0] at e
     exact W0.io _ _ C0.hr C0.hc e.symm
    ·rw [A3 z,e0] at e
     exact z (W0.ii i (R k0) hi C0.hr e)
   rcases p1 with e1 | e1
   ·exact nb (bmid.mp ⟨_,C1.hr,e1.symm⟩)
   ·have hst:(S k0).outs (C k0)<(S k0).ins (R k0):=by
     have h1:=ht k0 ha (by lia) _ (.inr rfl);rw [e0] at h1;have:=W0.io (R k0) (C k0) C0.hr C0.hc;lia
    refine b2a W0 W1 (λ z h=>(ker z).mpr h) C0 C1 (by rw [<- e0,<- e1]) hst (λ v hv hb'=>(stat v (by rw [e0]; exact hv)).mpr hb') λ k j hk1 hj e=>?_;refine ((zrr ((S k0).ins k)).mp λ i hi e2=>?_) k hk1 rfl;rw [e] at e2;exact absurd e2 (W1.io i j hi hj)
  ·-- it comes in at k0,so it goes out at k1
   have ba:Bas m (S (k0+1)) t:=⟨R k0,C0.hr,by rw [Q.st k0]; show upN (S k0).ins (R k0) ((S k0).outs (C k0)) (R k0)=t; rw [x9]; exact e0.symm⟩;rcases p1 with e1 | e1
   ·have hst:(S k1).outs (C k1)<(S k1).ins (R k1):=by
     have h1:=ht k1 (by lia) hb _ (.inr rfl);rw [e1] at h1;have:=W1.io (R k1) (C k1) C1.hr C1.hc;lia
    refine b2a W1 W0 (λ z h=>(ker z).mp h) C1 C0 (by rw [<- e0,<- e1]) hst (λ v hv hb'=>(stat v (by rw [e1]; exact hv)).mp hb') λ k j hk1 hj e=>?_;refine ((zrr ((S k1).ins k)).mpr λ i hi e2=>?_) k hk1 rfl;rw [e] at e2;exact absurd e2 (W0.io i j hi hj)
   ·obtain ⟨i,hi,e⟩:=bmid.mpr ba
    rw [e1] at e;exact W1.io i (C k1) hi C1.hc e
theorem Seq.short (Q:Seq m q V S R C):∀ (t a b:Nat),a<=b->(∀ k,a<=k->k<b->Dg q S R k)->(∀ k,a<=k->k<b->∀ v,a4t S R C k v->v<t)->b+1<=a+2 ^ t
 | 0,a,b,hab,hd,hp=>by
  by_cases c:a<b
  ·have:=hp a (aU _) c _ (.inl rfl)
   lia
  ·rw [Nat.pow_zero]; lia
 | t+1,a,b,hab,hd,hp=>by
  rw [Nat.pow_succ]
  by_cases h:∃ k,a<=k/\k<b/\a4t S R C k t
  ·obtain ⟨k,h1,h2,h3⟩:=h
   have once:=Q.once hd (t:=t) λ k h1 h2 v hv=>by have:=hp k h1 h2 v hv; lia
   have i1:=Q.short t a k h1 (λ j j1 j2=>hd j j1 (by lia)) λ j j1 j2 v hv=>by
    have:=hp j j1 (by lia) v hv
    by_cases z:v=t
    ·subst z
     exact (once (k - j - 1) j k (by lia) j1 h2 hv h3).elim
    ·lia
   have i2:=Q.short t (k+1) b (by lia) (λ j j1 j2=>hd j (by lia) j2) λ j j1 j2 v hv=>by
    have:=hp j (by lia) j2 v hv
    by_cases z:v=t
    ·subst z
     exact (once (j - k - 1) k j (by lia) h1 j2 h3 hv).elim
    ·lia
   lia
  ·have:=Q.short t a b hab hd λ j j1 j2 v hv=>by
    have h4:=hp j j1 j2 v hv
    by_cases z:v=t
    ·subst z; exact absurd ⟨j,j1,j2,hv⟩ h
    ·lia
   have:0<2 ^ t:=Nat.two_pow_pos t;lia
end
section
variable {m q:Nat} {V:Nat->D4} {S:Bo}
theorem Wf.bndB {M:Nat} (hM:∀ v,Fits M (m+1) (V v)):∀ c∈Bs m V S.ins,Fits M (m+1) c:=λ c hc=>by
 obtain ⟨i,_,rfl⟩:=bL.mp hc;exact hM _
theorem Wf.bndd (W:Wf m q V S) {M:Nat} (hM:∀ v,Fits M (m+1) (V v)):S.d.natAbs<=bnd M (m+1):=by
 rw [W.hd];exact a3M (m+1) _ (a1r m V S.ins) (Wf.bndB hM)
theorem Wf.bndT (W:Wf m q V S) {M:Nat} (hM:∀ v,Fits M (m+1) (V v)) {i j:Nat} (hi:i<m+1) (hj:j<q+1):(S.T i j).natAbs<=bnd M (m+1):=by
 rw [W.hT i j hi hj];refine a3M (m+1) _ (by rw [dG]; exact a1r m V S.ins) λ c hc=>?_;rcases oK hc with h | h
 ·exact Wf.bndB hM c h
 ·rw [h]; exact hM _
def phi (m q:Nat) (M:Int) (S:Bo):Int:=M*M*S.T m q / S.d
theorem Wf.gain (W:Wf m q V S) {r c:Nat} (C:Choice m q S r c) {M:Int} (h1:S.d<=M) (h2:S.T r c<=M):phi m q M S+(if S.T r q=0 then 0 else 1)<=phi m q M (piv S r c):=by
 have hcq:c<q:=C.hc;have hrm:r<m:=C.hr;have e:=W.mulT hrm hcq (show m<m+1 by lia) (show q<q+1 by lia) (show m≠r by lia) (show q≠c by lia);have hp:=C.pos;have hd:=W.pos;have hn:=C.neg;have hf:=W.feas r hrm;unfold phi
 show _<=M*M*(piv S r c).T m q / S.T r c
 generalize (piv S r c).T m q=N' at *;generalize S.T m q=N at *;generalize S.T r c=p at *;generalize S.d=d at *;generalize S.T m c=g at *;generalize S.T r q=b at *;rw [Int.le_ediv_iff_mul_le hp];have hfl:M*M*N / d*d<=M*M*N:=Int.ediv_mul_le _ (by lia);generalize M*M*N / d=f at *;have hM:0<M:=by lia
 have hMM:d*p<=M*M:=vD h1 h2 (bR hp) (bR hM);have key:(f+(if b=0 then 0 else 1))*p*d<=M*M*N'*d:=by
  have a1:M*M*N'*d=M*M*N*p+M*M*(-(g*b)):=by
   have:N'*d=N*p - g*b:=by rw [bJ N' d]; exact e
   rw [bK (M*M),this,kS,bK (M*M),eY];lia
  have a2:f*d*p<=M*M*N*p:=fP hfl (bR hp);have a3:f*p*d=f*d*p:=by rw [bK,bJ p d,<- bK]
  by_cases c0:b=0
  ·rw [if_pos c0,gP,a1,a3,c0]
   simp only [cC,Int.neg_zero,gP];exact a2
  ·rw [if_neg c0]
   have a4:1 <= -(g*b):=by
    have:=eF (show 0 < -g by lia) (show 0<b by lia);rw [gZ] at this;lia
   have a5:M*M*1<=M*M*(-(g*b)):=kU a4 (eE (bR hM) (bR hM));rw [fE,fE,jJ,a3,a1];rw [bJ d p] at hMM;lia
 exact qQ key hd
theorem Wf.phi_le (W:Wf m q V S) {M:Int} (h1:S.T m q<=M) (h0:0<M):phi m q M S<=M*M*M:=by
 unfold phi;refine Int.ediv_le_of_le_mul W.pos ?_;have a1:M*M*S.T m q<=M*M*M:=kU h1 (eE (bR h0) (bR h0));have a2:M*M*M*1<=M*M*M*S.d:=kU (by have:=W.pos; lia) (eE (eE (bR h0) (bR h0)) (bR h0));lia
end
section
variable {m q:Nat} {V:Nat->D4} {S:Nat->Bo} {R C:Nat->Nat}
theorem Seq.part_lt (Q:Seq m q V S R C) (k v:Nat) (h:a4t S R C k v):v<q+m:=by
 rcases h with h | h
 ·rw [h]; exact (Q.wf k).ib _ (Q.ch k).hr
 ·rw [h]; exact (Q.wf k).ob _ (Q.ch k).hc
theorem Seq.never (Q:Seq m q V S R C) {M:Nat} (hM:∀ v,Fits M (m+1) (V v)):False:=by
 obtain ⟨B,hB⟩:∃ B:Int,B=(bnd M (m+1):Int):=⟨_,rfl⟩;have bT:∀ k i j,i<m+1->j<q+1->(S k).T i j<=B:=λ k i j hi hj=>by
  have:=(Q.wf k).bndT hM hi hj;lia
 have bd:∀ k,(S k).d<=B:=λ k=>by
  have:=(Q.wf k).bndd hM;lia
 have B0:0<B:=by have:=bd 0; have:=(Q.wf 0).pos; lia
 have up:∀ k,phi m q B (S k)+(if (S k).T (R k) q=0 then 0 else 1)<=phi m q B (S (k+1)):=λ k=>by
  rw [Q.st k];exact (Q.wf k).gain (Q.ch k) (bd k) (bT k _ _ (by have:=(Q.ch k).hr; lia) (by have:=(Q.ch k).hc; lia))
 have mono:∀ n k,phi m q B (S k)<=phi m q B (S (k+n)):=λ n=>by
  induction n with
  | zero=>intro k; exact dR _
  | succ n ih =>
   intro k;have h1:=ih k;have h2:=up (k+n);have h3:phi m q B (S (k+n))<=phi m q B (S (k+n+1)):=by
    split at h2 <;> lia
   exact qR h1 h3
 have S3:∀ k,phi m q B (S k)<=B*B*B:=λ k=>(Q.wf k).phi_le (bT k m q (by lia) (by lia)) B0;have gap:∀ (g:Nat) (k:Nat),B*B*B - phi m q B (S k)<=(g:Int)->False:=by
  intro g
  induction g with
  | zero =>
   intro k hk;have:∃ j,k<=j/\j<k+2 ^ (q+m)/\¬ Dg q S R j:=by
    refine kW λ hn=>?_;have:=Q.short (q+m) k (k+2 ^ (q+m)) (gN _ _) (λ j h1 h2=>kW λ z=>hn ⟨j,h1,h2,z⟩) λ j _ _ v hv=>Q.part_lt j v hv;lia
   obtain ⟨j,h1,h2,h3⟩:=this;have u:=up j;rw [if_neg (show ¬ (S j).T (R j) q=0 from h3)] at u;have m1:=mono (j - k) k;rw [show k+(j - k)=j by lia] at m1;have:=S3 (j+1);lia
  | succ g ih =>
   intro k hk;have:∃ j,k<=j/\j<k+2 ^ (q+m)/\¬ Dg q S R j:=by
    refine kW λ hn=>?_;have:=Q.short (q+m) k (k+2 ^ (q+m)) (gN _ _) (λ j h1 h2=>kW λ z=>hn ⟨j,h1,h2,z⟩) λ j _ _ v hv=>Q.part_lt j v hv;lia
   obtain ⟨j,h1,h2,h3⟩:=this;have u:=up j;rw [if_neg (show ¬ (S j).T (R j) q=0 from h3)] at u;have m1:=mono (j - k) k;rw [show k+(j - k)=j by lia] at m1;exact ih (j+1) (by lia)
 exact gap (B*B*B - phi m q B (S 0)).toNat 0 (by lia)
end
inductive Ends (m q:Nat):Bo->Nat->Prop
 | stop {S:Bo}:(¬ ∃ r c,Choice m q S r c)->Ends m q S 0
 | go {S:Bo} {r c k:Nat}:Choice m q S r c->Ends m q (piv S r c) k->Ends m q S (k+1)
theorem Choice.uniq {m q:Nat} {V:Nat->D4} {S:Bo} (W:Wf m q V S) {r c r' c':Nat} (h:Choice m q S r c) (h':Choice m q S r' c'):r=r'/\c=c':=by
 have ec:c=c':=W.oo c c' h.hc h'.hc (vE (h.minc c' h'.hc h'.neg) (h'.minc c h.hc h.neg));subst ec;have e1:=h.ratio r' h'.hr h'.pos;have e2:=h'.ratio r h.hr h.pos;have e:S.T r q*S.T r' c=S.T r' q*S.T r c:=by lia
 exact ⟨W.ii r r' h.hr h'.hr (vE (h.tie r' h'.hr h'.pos e) (h'.tie r h.hr h.pos e.symm)),rfl⟩
theorem Ends.next {m q:Nat} {V:Nat->D4} {S:Bo} (W:Wf m q V S) {k r c:Nat} (h:Ends m q S k) (C:Choice m q S r c):∃ j,j<k/\Ends m q (piv S r c) j:=by
 cases h with
 | stop hn=>exact absurd ⟨r,c,C⟩ hn
 | go C' h' =>
  obtain ⟨rfl,rfl⟩:=C.uniq W C';exact ⟨_,jB _,h'⟩
theorem Wf.ends {m q:Nat} {V:Nat->D4} {M:Nat} (hM:∀ v,Fits M (m+1) (V v)) {S:Bo} (W:Wf m q V S):∃ k,Ends m q S k:=by
 refine kW λ hn=>?_;have ch:∀ S',Wf m q V S'->(¬ ∃ k,Ends m q S' k)->∃ p:Nat×Nat,Choice m q S' p.1 p.2:=λ S' _ h'=>by
  refine kW λ z=>h' ⟨0,.stop λ ⟨r,c,C⟩=>z ⟨(r,c),C⟩⟩
 let St:={ S':Bo // Wf m q V S'/\¬ ∃ k,Ends m q S' k }
 let pk:(X:St)->Nat×Nat:=λ X=>(ch X.1 X.2.1 X.2.2).choose
 have pc:∀ X:St,Choice m q X.1 (pk X).1 (pk X).2:=λ X=>(ch X.1 X.2.1 X.2.2).choose_spec
 let nx:St->St:=λ X=>⟨piv X.1 (pk X).1 (pk X).2,X.2.1.pivot (pc X).hr (pc X).hc (pc X).pos (pc X).ratio,λ ⟨k,e⟩=>X.2.2 ⟨k+1,.go (pc X) e⟩⟩
 let sq:Nat->St:=λ k=>Nat.rec ⟨S,W,hn⟩ (λ _ X=>nx X) k
 exact Seq.never (S:=λ k=>(sq k).1) (R:=λ k=>(pk (sq k)).1) (C:=λ k=>(pk (sq k)).2) ⟨W,λ k=>pc (sq k),λ k=>rfl⟩ hM
def Vv (m q:Nat) (A:Nat->Nat->Int) (b c:Nat->Int):Nat->D4:=λ v x =>
 if v<q then (if x<m then A x v else if x=m then - c v else 0) else if v<q+m+1 then (if x=v - q then 1 else 0) else (if x<m then b x else 0)
def S0 (m q:Nat) (A:Nat->Nat->Int) (b c:Nat->Int):Bo where
 d:=1
 T:=λ i j=>if j<q then (if i<m then A i j else - c j) else (if i<m then b i else 0)
 ins:=λ i=>q+i
 outs:=λ j=>if j<q then j else q+m+1
section
variable {m q:Nat} {A:Nat->Nat->Int} {b c:Nat->Int}
theorem b3y {v x:Nat} (h:v<q):Vv m q A b c v x=if x<m then A x v else if x=m then - c v else 0:=by unfold Vv; rw [if_pos h]
theorem b4g {i:Nat} (h:i<m+1):Vv m q A b c (q+i)=T4 i:=by
 funext x
 unfold Vv T4;rw [if_neg (by lia),if_pos (by lia),show q+i - q=i by lia]
theorem b4e {x:Nat}:Vv m q A b c (q+m+1) x=if x<m then b x else 0:=by unfold Vv; rw [if_neg (by lia),if_neg (by lia)]
theorem b2i {v x:Nat} (h:m<x):Vv m q A b c v x=0:=by
 unfold Vv
 by_cases h1:v<q
 ·rw [if_pos h1,if_neg (by lia),if_neg (by lia)]
 ·rw [if_neg h1]
  by_cases h2:v<q+m+1
  ·rw [if_pos h2,if_neg (by lia)]
  ·rw [if_neg h2,if_neg (by lia)]
theorem Bs0:Bs m (Vv m q A b c) (S0 m q A b c).ins=(aR (m+1)).map T4:=by
 unfold Bs;exact fX λ i hi=>b4g (dY.mp hi)
theorem a5k {n k:Nat} (h:k<n):((aR n).map T4).getD k zv=T4 k:=by rw [aZ,aQ,bZ h]; rfl
theorem a3h {n:Nat} {u:D4} (hu:∀ x,n<=x->u x=0) (x:Nat):sumTo (λ k=>u k*T4 k x) n=u x:=by
 by_cases h:x<n
 ·rw [sum_one h λ k _ hn=>by show u k*(if x=k then 1 else 0)=0; rw [if_neg (bI hn),cC]]
  show u x*(if x=x then 1 else 0)=u x
  rw [if_pos rfl,iE]
 ·rw [hu x (by lia)]
  refine sum_zero λ k hk=>?_
  show u k*(if x=k then 1 else 0)=0
  rw [if_neg (by lia),cC]
theorem a0Q {n i:Nat} (hi:i<n) {u:D4} (hu:∀ x,n<=x->u x=0):C3 n (((aR n).map T4).set i u)=u i:=by
 have hl:((aR n).map T4).length=n:=by rw [aH,fF]
 have h:=a1R hl hi u T4 n;have e:(λ x:Nat=>sumTo (λ k=>u k*T4 k x) n)=u:=by funext x; exact a3h hu x
 rw [e,sum_one hi λ k hk hn=>?_] at h
 ·rw [h,<- a5k hi,Q9 (by lia),a0L,iE]
 ·have:C3 n (((aR n).map T4).set i (T4 k))=0:=by
   refine Y0 (i:=k) (k:=i) (u:=T4 k) (by rw [dG]; exact hl) hn ?_ ?_
   ·rw [bY (bI hn),aQ,bZ hk]; rfl
   ·rw [dI (by lia)]
  rw [this,cC]
theorem wf0 (hb:∀ i,i<m->0<=b i):Wf m q (Vv m q A b c) (S0 m q A b c):=by
 have far:∀ v x,m+1<=x->Vv m q A b c v x=0:=λ v x h=>b2i (by lia);refine ⟨?_,λ i j hi hj=>?_,λ j hj x=>?_,Int.one_pos,λ i hi=>?_,rfl,?_,λ i hi=>?_,λ j hj=>?_,λ i k hi hk e=>?_,λ j k hj hk e=>?_,λ i j hi hj e=>?_,λ v hv=>?_⟩
 ·rw [Bs0,a0L]; rfl
 ·rw [Bs0,a0Q hi (far _)]
  show (if j<q then (if i<m then A i j else - c j) else (if i<m then b i else 0))=Vv m q A b c (if j<q then j else q+m+1) i
  by_cases h:j<q
  ·rw [if_pos h,if_pos h,b3y h]
   by_cases h2:i<m
   ·rw [if_pos h2,if_pos h2]
   ·rw [if_neg h2,if_neg h2,if_pos (by lia)]
  ·rw [if_neg h,if_neg h,b4e]
 ·rw [Bs0,a0L,jJ]
  have e:sumTo (λ k=>C3 (m+1) (((aR (m+1)).map T4).set k (Vv m q A b c ((S0 m q A b c).outs j)))*(((aR (m+1)).map T4).getD k zv) x) (m+1)=sumTo (λ k=>Vv m q A b c ((S0 m q A b c).outs j) k*T4 k x) (m+1) :=
   sum_congr λ k hk=>by rw [a0Q hk (far _),a5k hk]
  rw [e,a3h (far _)]
 ·show 0<=(if q<q then _ else (if i<m then b i else 0))
  rw [if_neg (cN _),if_pos hi]; exact hb i hi
 ·show (if q<q then q else q+m+1)=q+m+1
  rw [if_neg (cN _)]
 ·show q+i<q+m; lia
 ·show (if j<q then j else q+m+1)<q+m
  rw [if_pos hj]; lia
 ·replace e:q+i=q+k:=e
  lia
 ·replace e:(if j<q then j else q+m+1)=(if k<q then k else q+m+1):=e
  rw [if_pos hj,if_pos hk] at e;exact e
 ·replace e:q+i=(if j<q then j else q+m+1):=e
  rw [if_pos hj] at e;lia
 ·by_cases h:v<q
  ·exact .inr ⟨v,h,if_pos h⟩
  ·exact .inl ⟨v - q,by lia,by show q+(v - q)=v; lia⟩
theorem ker0 {z:Nat->Int}:Ker m q (Vv m q A b c) (S0 m q A b c) z ↔ (∀ i,i<m->z (q+i)+sumTo (λ j=>A i j*z j) q+b i*z (q+m+1)=0)/\z (q+m)=sumTo (λ j=>c j*z j) q:=by
  have e:∀ x,sumTo (λ k=>z ((S0 m q A b c).ins k)*Vv m q A b c ((S0 m q A b c).ins k) x) (m+1)+sumTo (λ j=>z ((S0 m q A b c).outs j)*Vv m q A b c ((S0 m q A b c).outs j) x) (q+1)
     =(if x<m+1 then z (q+x) else 0)+(sumTo (λ j=>z j*Vv m q A b c j x) q+z (q+m+1)*(if x<m then b x else 0)):=λ x=>by
    have e1:sumTo (λ k=>z ((S0 m q A b c).ins k)*Vv m q A b c ((S0 m q A b c).ins k) x) (m+1)=if x<m+1 then z (q+x) else 0:=by
      have:sumTo (λ k=>z ((S0 m q A b c).ins k)*Vv m q A b c ((S0 m q A b c).ins k) x) (m+1)=sumTo (λ k=>z (q+k)*T4 k x) (m+1):=sum_congr λ k hk=>by
        show z (q+k)*Vv m q A b c (q+k) x=_
        rw [b4g hk]
      rw [this]
      by_cases h:x<m+1
      . rw [if_pos h,sum_one h λ k _ hn=>by show z (q+k)*(if x=k then 1 else 0)=0; rw [if_neg (bI hn),cC]]
        show z (q+x)*(if x=x then 1 else 0)=_
        rw [if_pos rfl,iE]
      . rw [if_neg h]
        refine sum_zero λ k hk=>?_
        show z (q+k)*(if x=k then 1 else 0)=0
        rw [if_neg (by lia),cC]
    have e2:sumTo (λ j=>z ((S0 m q A b c).outs j)*Vv m q A b c ((S0 m q A b c).outs j) x) (q+1)=sumTo (λ j=>z j*Vv m q A b c j x) q+z (q+m+1)*(if x<m then b x else 0):=by
      show sumTo (λ j=>z (if j<q then j else q+m+1)*Vv m q A b c (if j<q then j else q+m+1) x) q+z (if q<q then q else q+m+1)*Vv m q A b c (if q<q then q else q+m+1) x=_
      rw [if_neg (cN _),b4e];have:sumTo (λ j=>z (if j<q then j else q+m+1)*Vv m q A b c (if j<q then j else q+m+1) x) q=sumTo (λ j=>z j*Vv m q A b c j x) q:=sum_congr λ j hj=>by rw [if_pos hj]
      rw [this]
    rw [e1,e2]
  have am:∀ i,i<m->sumTo (λ j=>z j*Vv m q A b c j i) q=sumTo (λ j=>A i j*z j) q:=λ i hi=>sum_congr λ j hj=>by rw [b3y hj,if_pos hi,bJ]
  have ob:sumTo (λ j=>z j*Vv m q A b c j m) q = - sumTo (λ j=>c j*z j) q:=by
    rw [show - sumTo (λ j=>c j*z j) q=(-1)*sumTo (λ j=>c j*z j) q by lia,<- C8];refine sum_congr λ j hj=>?_;rw [b3y hj,if_neg (cN _),if_pos rfl,eY,bJ];lia
  constructor
  . intro h
    refine ⟨λ i hi=>?_,?_⟩
    . have:=h i
      rw [e i,if_pos (by lia),if_pos hi,am i hi,bJ (z (q+m+1))] at this;lia
    . have:=h m
      rw [e m,if_pos (by lia),if_neg (cN _),ob,cC] at this;lia
  . rintro ⟨h1,h2⟩ x
    rw [e x]
    by_cases c1:x<m
    . have:=h1 x c1
      rw [if_pos (by lia),if_pos c1,am x c1,bJ (z (q+m+1))];lia
    . by_cases c2:x=m
      . subst c2
        rw [if_pos (by lia),if_neg (cN _),ob,cC];lia
      . rw [if_neg (by lia),if_neg c1,cC,sum_zero λ j hj=>by rw [b2i (by lia),cC]]
        rfl
end
def valIn (m:Nat) (S:Bo) (q v:Nat):Int:=sumTo (λ i=>if S.ins i=v then S.T i q else 0) m
def valOut (m q:Nat) (S:Bo) (v:Nat):Int:=sumTo (λ j=>if S.outs j=v then S.T m j else 0) q
theorem a5L {g:Nat->Int}:∀ {n:Nat},(∀ k,k<n->0<=g k)->0<=sumTo g n
 | 0,_=>dR 0
 | n+1,h=>by
  have h1:=a5L (g:=g) (n:=n) λ k hk=>h k (by lia);have h2:=h n (by lia)
  show 0<=sumTo g n+g n
  lia
section
variable {m q:Nat} {A:Nat->Nat->Int} {b c:Nat->Int} {S:Bo}
structure Of (m q:Nat) (A:Nat->Nat->Int) (b c:Nat->Int) (S:Bo):Prop where
 w:Wf m q (Vv m q A b c) S
 k:∀ z,Ker m q (Vv m q A b c) S z ↔ Ker m q (Vv m q A b c) (S0 m q A b c) z
theorem of0 (hb:∀ i,i<m->0<=b i):Of m q A b c (S0 m q A b c):=⟨wf0 hb,λ _=>oJ⟩
theorem Of.piv (O:Of m q A b c S) {r cc:Nat} (C:Choice m q S r cc):Of m q A b c (Lp.piv S r cc) :=
 ⟨O.w.pivot C.hr C.hc C.pos C.ratio,λ z=>(Ker.piv C.hr C.hc).trans (O.k z)⟩
theorem Of.valIn_nn (O:Of m q A b c S) (v:Nat):0<=valIn m S q v:=a5L λ i hi=>by
 split
 ·exact O.w.feas i hi
 ·exact dR 0
theorem Of.ray_val (O:Of m q A b c S) {v:Nat} (hv:v<q+m):ray m S q v = - valIn m S q v:=by
 unfold ray;rw [if_neg (by rw [O.w.oq]; lia)]
 show sumTo _ m+(if S.ins m=v then - S.T m q else 0)=_
 rw [if_neg (by rw [O.w.im]; lia),gP];unfold valIn;rw [show - sumTo (λ i=>if S.ins i=v then S.T i q else 0) m=(-1)*sumTo (λ i=>if S.ins i=v then S.T i q else 0) m by lia,<- C8];refine sum_congr λ i _=>?_
 split <;> lia
theorem Of.primal (O:Of m q A b c S):(∀ i,i<m->sumTo (λ j=>A i j*valIn m S q j) q+valIn m S q (q+i)=b i*S.d)/\sumTo (λ j=>c j*valIn m S q j) q=S.T m q:=by
 have K:=(ker0.mp ((O.k _).mp (O.w.ray_ker (show q<q+1 by lia))));have co:ray m S q (q+m+1)=S.d:=by rw [<- O.w.oq]; exact Wf.ray_c
 have oo:ray m S q (q+m) = - S.T m q:=by rw [<- O.w.im]; exact O.w.ray_in (by lia) (by lia)
 have am:∀ g:Nat->Int,sumTo (λ j=>g j*ray m S q j) q = - sumTo (λ j=>g j*valIn m S q j) q:=λ g=>by
  rw [show - sumTo (λ j=>g j*valIn m S q j) q=(-1)*sumTo (λ j=>g j*valIn m S q j) q by lia,<- C8];refine sum_congr λ j hj=>?_;rw [O.ray_val (by lia),eY];lia
 refine ⟨λ i hi=>?_,?_⟩
 ·have:=K.1 i hi
  rw [O.ray_val (by lia),am,co] at this;lia
 ·have:=K.2
  rw [oo,am] at this;lia
theorem Of.valOut_nn (h:∀ j,j<q->0<=S.T m j) (v:Nat):0<=valOut m q S v:=a5L λ j hj=>by
 split
 ·exact h j hj
 ·exact dR 0
theorem a8O (O:Of m q A b c S) (z:Nat->Int):sumTo (λ j=>S.T m j*z (S.outs j)) q=sumTo (λ v=>valOut m q S v*z v) (q+m):=by
 have e:∀ v,v<q+m->valOut m q S v*z v=sumTo (λ j=>(if S.outs j=v then S.T m j else 0)*z v) q:=λ v _=>by
  unfold valOut;rw [bJ,<- C8];exact sum_congr λ j _=>bJ _ _
 rw [sum_congr e,a0N];refine sum_congr λ j hj=>?_;rw [sum_one (O.w.ob j hj) λ v _ hn=>by rw [if_neg (bI hn),hU],if_pos rfl]
theorem Of.row_goal (O:Of m q A b c S) {z:Nat->Int} (h:Ker m q (Vv m q A b c) (S0 m q A b c) z):S.d*z (q+m)+sumTo (λ v=>valOut m q S v*z v) (q+m)+S.T m q*z (q+m+1)=0:=by
 have R:=O.w.row_of ((O.k z).mpr h) (show m<m+1 by lia);unfold a2i at R
 replace R:S.d*z (S.ins m)+(sumTo (λ j=>S.T m j*z (S.outs j)) q+S.T m q*z (S.outs q))=0:=R
 rw [O.w.im,O.w.oq,a8O O] at R;lia
theorem a1p {g:Nat->Int} (n:Nat):∀ k:Nat,sumTo g (n+k)=sumTo g n+sumTo (λ i=>g (n+i)) k
 | 0=>(gP _).symm
 | k+1=>by
  show sumTo g (n+k)+g (n+k)=sumTo g n+(sumTo (λ i=>g (n+i)) k+g (n+k))
  rw [a1p n k];lia
theorem Of.dual (O:Of m q A b c S):(∀ j,j<q->sumTo (λ i=>A i j*valOut m q S (q+i)) m=c j*S.d+valOut m q S j)/\sumTo (λ i=>b i*valOut m q S (q+i)) m=S.T m q:=by
 constructor
 ·intro j hj
  have hk:Ker m q (Vv m q A b c) (S0 m q A b c) (λ v=>if v<q then (if v=j then 1 else 0) else if v<q+m then - A (v - q) j else if v=q+m then c j else 0):=by
   refine ker0.mpr ⟨λ i hi=>?_,?_⟩
   ·rw [if_neg (by lia),if_pos (by lia),show q+i - q=i by lia,if_neg (by lia),if_neg (by lia),if_neg (by lia),cC,sum_one hj λ k hk hn=>by rw [if_pos hk,if_neg hn,cC],if_pos hj,if_pos rfl]
    lia
   ·rw [if_neg (by lia),if_neg (by lia),if_pos rfl,sum_one hj λ k hk hn=>by rw [if_pos hk,if_neg hn,cC],if_pos hj,if_pos rfl]
    lia
  have R:=O.row_goal hk;rw [if_neg (by lia),if_neg (by lia),if_pos rfl,if_neg (by lia),if_neg (by lia),if_neg (by lia),cC,a1p,sum_one hj λ k hk hn=>by rw [if_pos hk,if_neg hn,cC],if_pos hj,if_pos rfl] at R;have e:sumTo (λ i=>valOut m q S (q+i)*(if q+i<q then (if q+i=j then 1 else 0) else if q+i<q+m then - A (q+i - q) j else if q+i=q+m then c j else 0)) m = - sumTo (λ i=>A i j*valOut m q S (q+i)) m:=by
   rw [show - sumTo (λ i=>A i j*valOut m q S (q+i)) m=(-1)*sumTo (λ i=>A i j*valOut m q S (q+i)) m by lia,<- C8];refine sum_congr λ i hi=>?_;rw [if_neg (by lia),if_pos (by lia),show q+i - q=i by lia,eY,bJ];lia
  rw [e,bJ S.d] at R;lia
 ·have hk:Ker m q (Vv m q A b c) (S0 m q A b c) (λ v=>if v<q then 0 else if v<q+m then b (v - q) else if v=q+m then 0 else -1):=by
   refine ker0.mpr ⟨λ i hi=>?_,?_⟩
   ·rw [if_neg (by lia),if_pos (by lia),show q+i - q=i by lia,if_neg (by lia),if_neg (by lia),if_neg (by lia),sum_zero λ k hk=>by rw [if_pos hk,cC]]
    lia
   ·rw [if_neg (by lia),if_neg (by lia),if_pos rfl,sum_zero λ k hk=>by rw [if_pos hk,cC]]
  have R:=O.row_goal hk;rw [if_neg (by lia),if_neg (by lia),if_pos rfl,if_neg (by lia),if_neg (by lia),if_neg (by lia),cC,a1p,sum_zero λ k hk=>by rw [if_pos hk,cC]] at R;have e:sumTo (λ i=>valOut m q S (q+i)*(if q+i<q then 0 else if q+i<q+m then b (q+i - q) else if q+i=q+m then 0 else -1)) m=sumTo (λ i=>b i*valOut m q S (q+i)) m :=
   sum_congr λ i hi=>by rw [if_neg (by lia),if_pos (by lia),show q+i - q=i by lia,bJ]
  rw [e] at R;lia
end
end Lp
namespace Rim
open PySem L2
def S3 (i:Nat):aO:=PySem.Challenge.pw_rimhouse_k37_numbers_of_none_at_all_door.main.body.getD i (.Pass ⟨0,0,0,0⟩)
abbrev b3L:aO:=S3 11
abbrev b2R:aO:=S3 12
abbrev b3Q:aO:=S3 22
abbrev a5s:aO:=S3 34
abbrev N5:aO:=S3 36
abbrev R1:aO:=S3 39
abbrev Z6:aO:=S3 40
abbrev a9K:aO:=S3 46
abbrev a5S:aO:=S3 47
abbrev a2u:aO:=S3 31
abbrev a4m:aO:=S3 59
abbrev a9M:aO:=S3 56
abbrev a1w:aO:=S3 41
abbrev a3E:aO:=S3 48
abbrev b0t:aO:=S3 63
abbrev a5u:aO:=S3 64
abbrev a9m:aO:=S3 66
abbrev a1t:aO:=S3 67
abbrev a1O:aO:=S3 72
abbrev V6:aO:=S3 13
abbrev a1v:aO:=S3 14
abbrev a0A:aO:=S3 15
abbrev a0v:aO:=S3 19
abbrev T5:aO:=S3 20
abbrev a0w:aO:=S3 21
abbrev P4:aO:=S3 24
abbrev R3:aO:=S3 25
abbrev O4:aO:=S3 26
abbrev O3:aO:=S3 27
abbrev S1:aO:=S3 29
abbrev P2:aO:=S3 30
abbrev R4:aO:=S3 32
abbrev a1s:aO:=S3 50
abbrev a1m:aO:=S3 51
abbrev a0D:aO:=S3 53
abbrev U5:aO:=S3 54
abbrev a0i:aO:=S3 57
abbrev a3z:aO:=S3 61
abbrev V3:aO:=S3 68
abbrev R8:aO:=S3 69
abbrev E5:aO:=S3 70
abbrev W5:aO:=S3 71
abbrev P1:aO:=G4 a1m 0
abbrev D6:aO:=G4 a1m 1
abbrev X3:aO:=G4 a1m 2
abbrev a1d:aO:=G4 a1m 3
abbrev V2:aO:=G4 a1m 4
abbrev T7:aO:=G4 a1m 6
abbrev a0x:aO:=S3 35
abbrev a4Q:aO:=G4 a0x 0
abbrev a3I:aO:=G4 a0x 1
abbrev a5z:aO:=G4 a0x 2
abbrev a5X:aO:=G4 a0x 3
abbrev Q5:aO:=G4 a0x 4
abbrev b0d:aO:=G4 a0x 5
abbrev b3o:aO:=G4 a0x 6
abbrev a8M:Pos:=⟨120,32,120,64⟩
structure x8 (mg:Str->Option aC):Prop where
 len:mg "len"=none
 all:mg "all"=none
 any:mg "any"=none
 max:mg "max"=none
 min:mg "min"=none
 sum:mg "sum"=none
 tuple:mg "tuple"=none
 list:mg "list"=none
 int:mg "int"=none
 bool:mg "bool"=none
 range:mg "range"=none
 isi:mg "isinstance"=none
 abs:mg "abs"=none
 zip:mg "zip"=none
 enum:mg "enumerate"=none
 ve:mg "ValueError"=none
 so:mg "sorted"=none
theorem a5T (K:aE) {X:Cx} (h:X.K=K):IxR X (b5a K):=by subst h; exact j9
theorem Q8 (K:aE) {X:Cx} {es:List aN} {k:Nat} {t:TGs} {n:Nat} {pos:Pos} (h:X.K=K) (hc:X.calm=true) (hp:PGs X es t) (hn:(assignEach es X.env).length=n:=by rfl) (hst:(assignEach es X.env).findIdx? (·.1)=none:=by rfl):PG X (.Tuple es k pos) (a4j K n t):=by subst h; exact W9 hc hp hn hst
def b4x (K:aE):List V->Hp->VK->Prop:=λ xs H Q=>∃ p ys,xs=[.ref p]/\(SqL K H p ys\/SqT K H p ys)/\∀ l,H l=none->Q (.ref l) (upd H l (.lst ys))
theorem a7m (K:aE) {X:Cx} (h:X.K=K):J5 X (.type "list") (b4x K):=by subst h; exact A6
def vI:V->Int
 | .int i=>i
 | _=>0
theorem G3 {ns:List Int} {i:Nat} {x:V} (h:(ns.map V.int)[i]?=some x):∃ k,x=.int k:=by
 rw [aQ] at h
 cases hn:ns[i]? with
 | none=>rw [hn] at h; cases h
 | some k=>rw [hn] at h; cases h; exact ⟨k,rfl⟩
theorem a6o {N:VK} {b b':Bool} {H:Hp} (h:N (.bl b) H) (e:b'=b):N (.bl b') H:=by rw [e]; exact h
abbrev j3:=List Int×List Int
def HS (K:aE) (H:Hp) (v:V) (h:j3):Prop:=∃ a t g,v=.ref a/\SqT K H a [.ref t,.ref g]/\SqT K H t (h.1.map V.int)/\SqT K H g (h.2.map V.int)
abbrev Bk (K:aE) (H:Hp):List V->List j3->Prop:=cW (HS K H)
theorem HS.same {K:aE} {H H':Hp} {v:V} {h:j3} (e:Same H H') (x:HS K H v h):HS K H' v h:=by
 obtain ⟨a,t,g,h0,h1,h2,h3⟩:=x;exact ⟨a,t,g,h0,e.tseq h1,e.tseq h2,e.tseq h3⟩
theorem Bk.same {K:aE} {H H':Hp} {vs:List V} {hs:List j3} (e:Same H H') (x:Bk K H vs hs):Bk K H' vs hs:=aS.imp' (λ _ _ r=>HS.same e r) x
theorem aS.at {α β:Type} {F:α->β->Prop}:∀ {l₁:List α} {l₂:List β},cW F l₁ l₂->∀ {i:Nat} {x:α},l₁[i]?=some x->∃ y,l₂[i]?=some y/\F x y
 | _,_,.nil,_,_,e=>by simp at e
 | _,_,.cons r _,0,_,e=>by simp at e; subst e; exact ⟨_,rfl,r⟩
 | _,_,.cons _ t,i+1,x,e=>by
  obtain ⟨y,h1,h2⟩:=aS.at t (i:=i) (x:=x) (by simpa using e);exact ⟨y,by simpa using h1,h2⟩
def A5 (q:Nat) (S:Lp.Bo) (i:Nat):List Int:=(aR (q+1)).map (S.T i)
def M9 (q:Nat) (S:Lp.Bo):List Int:=(aR q).map λ j=>(S.outs j:Int)
def S2 (m:Nat) (S:Lp.Bo):List Int:=(aR m).map λ i=>(S.ins i:Int)
abbrev bdF (q:Nat) (d:Int) (ca oa ia:aA):List (Str×V):=[("many",.int q),("scale",.int d),("cells",.ref ca),("outs",.ref oa),("ins",.ref ia)]
structure Bd (C:aA) (H:Hp) (p dx ca oa ia:aA) (rs:List aA) (m q:Nat) (S:Lp.Bo):Prop where
 obj:H p=some (.ins C dx (bdF q S.d ca oa ia))
 cel:H ca=some (.lst (rs.map V.ref))
 len:rs.length=m+1
 row:∀ i r,rs[i]?=some r->H r=some (.lst ((A5 q S i).map V.int))
 out:H oa=some (.lst ((M9 q S).map V.int))
 inn:H ia=some (.lst ((S2 m S).map V.int))
 ne:oa≠ia
structure TB (K:aE) (C:aA):Prop where
 cl:Cls K C
 nM:NoAttr K C "many"
 nS:NoAttr K C "scale"
 nC:NoAttr K C "cells"
 nO:NoAttr K C "outs"
 nI:NoAttr K C "ins"
section
variable {C:aA} {H H':Hp} {p dx ca oa ia:aA} {rs:List aA} {m q:Nat} {S:Lp.Bo}
theorem Bd.rs_at (B:Bd C H p dx ca oa ia rs m q S) {i:Nat} (h:i<m+1):∃ r,rs[i]?=some r/\atI (rs.map V.ref) (i:Int)=some (.ref r):=by
 have h':i<rs.length:=by rw [B.len]; exact h
 refine ⟨rs[i],aV h',B6 ?_⟩;rw [aQ,aV h']; rfl
theorem Z7 {i j:Nat} (h:j<q+1):atI ((A5 q S i).map V.int) (j:Int)=some (.int (S.T i j)):=B6 (by
 unfold A5;rw [aQ,aQ,bZ h]; rfl)
theorem a7e {α:Type} {xs:List α} {n:Nat} {v:α} (hl:xs.length=n+1) (h:xs[n]?=some v):atI xs (-1)=some v:=by
 have e:ixN xs.length (-1)=some n:=by
  unfold ixN;rw [hl,if_neg (by decide),if_pos (by lia)]
  congr 1
  lia
 unfold atI; rw [e]; exact h
theorem Z3 {i:Nat}:atI ((A5 q S i).map V.int) (-1)=some (.int (S.T i q)):=a7e (n:=q) (by unfold A5; simp) (by
 unfold A5;rw [aQ,aQ,bZ (jB _)]; rfl)
theorem Bd.rs_last (B:Bd C H p dx ca oa ia rs m q S):∃ r,rs[m]?=some r/\atI (rs.map V.ref) (-1)=some (.ref r):=by
 have h':m<rs.length:=by rw [B.len]; exact jB _
 refine ⟨rs[m],aV h',a7e (n:=m) (by simpa using B.len) ?_⟩;rw [aQ,aV h']; rfl
theorem a1T {i:Nat} (h:i<m):atI ((S2 m S).map V.int) (i:Int)=some (.int (S.ins i)):=B6 (by
 unfold S2;rw [aQ,aQ,bZ h]; rfl)
theorem a2q {j:Nat} (h:j<q):atI ((M9 q S).map V.int) (j:Int)=some (.int (S.outs j)):=B6 (by
 unfold M9;rw [aQ,aQ,bZ h]; rfl)
theorem Bd.same1 {P:aA} (B:Bd C H p dx ca oa ia rs m q S) (e:∀ b o,H b=some o->(∀ ps,o≠.tbl ps)->H' b=some o):Bd C H' p dx ca oa ia rs m q S :=
 ⟨e _ _ B.obj λ _=>nofun,e _ _ B.cel λ _=>nofun,B.len,λ i r h=>e _ _ (B.row i r h) λ _=>nofun,e _ _ B.out λ _=>nofun,e _ _ B.inn λ _=>nofun,B.ne⟩
def Sz (n m q:Nat) (S:Lp.Bo):Prop:=(∀ i j,i<m+1->j<q+1->Big n (S.T i j))/\Big n S.d
end
section
variable {P:aL} {w:aI} {K:aE} {mg:Str->Option aC} {base:aG} {f:aA} {fd:aJ} {n:Nat} {C:aA}
theorem a8T {a b:Nat} {x:Int} (h:Big a x) (hab:a<=b):Big b x:=bM h (lV (by decide) hab)
def a1q (q:Nat) (S:Lp.Bo) (i o c:Nat):Bool:=if S.T i q*S.T o c=S.T o q*S.T i c then decide (S.ins i<S.ins o) else decide (S.T i q*S.T o c<S.T o q*S.T i c)
def a7i (C:aA):Sp:=λ vs H Q _=>∃ (p dx ca oa ia:aA) (rs:List aA) (m q:Nat) (S:Lp.Bo) (i o c:Nat),vs=[.ref p,.int i,.int o,.int c]/\Bd C H p dx ca oa ia rs m q S/\Sz 4000 m q S/\i<m/\o<m/\c<q+1/\Q (.bl (a1q q S i o c)) H
theorem scAhead:m6 ["self","row","other","column","left","right"] ["self","row","other","column"] (j4 a5X):=⟨rfl,rfl,rfl,by decide +kernel,rfl,by decide +kernel,by decide +kernel⟩
theorem a8B (F:Fun K "is_ahead" "Board.is_ahead" a5X f fd) (T:TB K C):FnOk P w K mg base E1 (n+1) f fd ["self","row","other","column"] (a7i C):=by
 refine F.ok scAhead (λ vs H Q E h=>?_) (λ cdv A outer s H vs Q E hr h=>?_)
 ·obtain ⟨p,dx,ca,oa,ia,rs,m,q,S,i,o,c,rfl,_⟩:=h
  rfl
 obtain ⟨p,dx,ca,oa,ia,rs,m,q,S,i,o,c,rfl,B,hz,hi,ho,hc,k⟩:=h;refine ⟨_,j0 (o7 (i:=4) scAhead.nd rfl (aM rfl) (j7 N9 (p7 j9 (p7 j9 (t9 (pv 0) rfl) (pv 1) (λ _ _=>rfl)) (R9 K3 i8) (λ _ _=>rfl)) (p7 j9 (p7 j9 (t9 (pv 0) rfl) (pv 2) (λ _ _=>rfl)) (pv 3) (λ _ _=>rfl))))
  (j0 (o7 (i:=5) scAhead.nd rfl (aM rfl) (j7 N9 (p7 j9 (p7 j9 (t9 (pv 0) rfl) (pv 2) (λ _ _=>rfl)) (R9 K3 i8) (λ _ _=>rfl)) (p7 j9 (p7 j9 (t9 (pv 0) rfl) (pv 1) (λ _ _=>rfl)) (pv 3) (λ _ _=>rfl))))
  (j0 (w8 (r6 K8 (pv 4) (pv 5) (r8 _)) (j5 (o8 (M7 a0q (p7 j9 (t9 (pv 0) rfl) (pv 1) (λ _ _=>rfl)) (p7 j9 (t9 (pv 0) rfl) (pv 2) (λ _ _=>rfl)) (r8 _)))) t7)
  (j5 (o8 (M7 a0q (pv 4) (pv 5) (r8 _)))))),?_⟩
 obtain ⟨ri,ei,ai⟩:=B.rs_at (i:=i) (by lia);obtain ⟨ro,eo,ao⟩:=B.rs_at (i:=o) (by lia);have bi:=SqL.of (K:=K) (B.row i ri ei);have bo:=SqL.of (K:=K) (B.row o ro eo);have z:∀ i j,i<m+1->j<q+1->Big 1000000 (S.T i j):=λ i j h1 h2=>a8T (hz.1 i j h1 h2) (by decide);refine ⟨_,rfl,p,C,dx,_,_,rfl,B.obj,T.cl,T.nC,rfl,_,rfl,ca,_,_,_,rfl,rfl,SqL.of B.cel,ai,_,rfl,ri,_,_,_,rfl,rfl,bi,Z3,?_⟩;refine ⟨_,rfl,p,C,dx,_,_,rfl,B.obj,T.cl,T.nC,rfl,_,rfl,ca,_,_,_,rfl,rfl,SqL.of B.cel,ao,_,rfl,ro,_,_,_,rfl,rfl,bo,Z7 hc,_,_,rfl,rfl,⟨z _ _ (by lia) (by lia),z _ _ (by lia) (by lia)⟩,?_⟩;refine ⟨_,rfl,p,C,dx,_,_,rfl,B.obj,T.cl,T.nC,rfl,_,rfl,ca,_,_,_,rfl,rfl,SqL.of B.cel,ao,_,rfl,ro,_,_,_,rfl,rfl,bo,Z3,?_⟩;refine ⟨_,rfl,p,C,dx,_,_,rfl,B.obj,T.cl,T.nC,rfl,_,rfl,ca,_,_,_,rfl,rfl,SqL.of B.cel,ai,_,rfl,ri,_,_,_,rfl,rfl,bi,Z7 hc,_,_,rfl,rfl,⟨z _ _ (by lia) (by lia),z _ _ (by lia) (by lia)⟩,?_⟩;refine ⟨_,rfl,_,rfl,rfl,_,rfl,?_⟩;unfold a1q at k;refine w6 (λ e=>?_) (λ e=>?_)
 ·have e':S.T i q*S.T o c=S.T o q*S.T i c:=by simpa using e
  rw [if_pos e'] at k;refine ⟨_,rfl,p,C,dx,_,_,rfl,B.obj,T.cl,T.nI,rfl,_,rfl,ia,_,_,_,rfl,rfl,SqL.of B.inn,a1T hi,_,rfl,p,C,dx,_,_,rfl,B.obj,T.cl,T.nI,rfl,_,rfl,ia,_,_,_,rfl,rfl,SqL.of B.inn,a1T ho,_,_,rfl,rfl,?_⟩;refine a6o k ?_;simp
 ·have e':¬ S.T i q*S.T o c=S.T o q*S.T i c:=by simpa using e
  rw [if_neg e'] at k;exact ⟨_,rfl,_,rfl,_,_,rfl,rfl,k⟩
end
structure a7y (P:aL) (w:aI) (K:aE) (mg:Str->Option aC) (base:aG) (n:Nat) (C:aA) (m:Str) (ps:List Str) (sp:Sp) (f:aA) (fd:aJ):Prop where
 ok:FnOk P w K mg base E1 n f fd ps sp
 bd:Binds K fd ps []
 me:a8p K C m f
def Bet (q:Nat) (S:Lp.Bo) (c r i:Nat):Prop:=S.T r q*S.T i c<=S.T i q*S.T r c/\(S.T r q*S.T i c=S.T i q*S.T r c->S.ins r<=S.ins i)
theorem a7J {ar cr ab cb ai ci:Int} (h1:ar*cb<=ab*cr) (h2:ab*ci<=ai*cb) (pr:0<cr) (pb:0<cb) (pi:0<ci):ar*ci<=ai*cr/\(ar*ci=ai*cr->ar*cb=ab*cr/\ab*ci=ai*cb):=by
 have e1:ar*cb*ci<=ab*cr*ci:=fP h1 (bR pi);have e2:ab*ci*cr<=ai*cb*cr:=fP h2 (bR pr);have x1:ar*cb*ci=ar*ci*cb:=by rw [bK,bJ cb ci,<- bK]
 have x2:ab*cr*ci=ab*ci*cr:=by rw [bK,bJ cr ci,<- bK]
 have x3:ai*cb*cr=ai*cr*cb:=by rw [bK,bJ cb cr,<- bK]
 rw [x1] at e1;rw [x3] at e2;refine ⟨Int.le_of_mul_le_mul_right (a:=cb) (by lia) pb,λ e=>?_⟩;rw [e] at e1;refine ⟨Int.eq_of_mul_eq_mul_right (a:=ci) (by omega) (by rw [x1,e]; omega),qK (a:=cr) (by omega) (by rw [x3]; omega)⟩
theorem Bet.trans {q:Nat} {S:Lp.Bo} {c r b i:Nat} (h1:Bet q S c r b) (h2:Bet q S c b i) (pr:0<S.T r c) (pb:0<S.T b c) (pi:0<S.T i c):Bet q S c r i:=by
 obtain ⟨a,t⟩:=a7J h1.1 h2.1 pr pb pi;exact ⟨a,λ e=>cO (h1.2 (t e).1) (h2.2 (t e).2)⟩
theorem a8a {q:Nat} {S:Lp.Bo} {c r b:Nat} (h:a1q q S r b c=true):Bet q S c r b:=by
 unfold a1q at h
 by_cases e:S.T r q*S.T b c=S.T b q*S.T r c
 ·rw [if_pos e] at h
  exact ⟨Int.le_of_eq e,λ _=>fJ (of_decide_eq_true h)⟩
 ·rw [if_neg e] at h
  have:=of_decide_eq_true h;exact ⟨Int.le_of_lt this,λ z=>absurd z e⟩
theorem b0V {q:Nat} {S:Lp.Bo} {c r b:Nat} (h:a1q q S r b c=false):Bet q S c b r:=by
 unfold a1q at h
 by_cases e:S.T r q*S.T b c=S.T b q*S.T r c
 ·rw [if_pos e] at h
  exact ⟨Int.le_of_eq e.symm,λ _=>pS (of_decide_eq_false h)⟩
 ·rw [if_neg e] at h
  have:=of_decide_eq_false h;exact ⟨by lia,λ z=>absurd z.symm e⟩
section
variable {P:aL} {w:aI} {K:aE} {mg:Str->Option aC} {base:aG} {f g:aA} {fd gd:aJ} {n:Nat} {C:aA}
def a6W (C:aA):Sp:=λ vs H Q _=>∃ (p dx ca oa ia:aA) (rs:List aA) (m q:Nat) (S:Lp.Bo) (c:Nat),vs=[.ref p,.int c]/\Bd C H p dx ca oa ia rs m q S/\Sz 4000 m q S/\m<1000/\c<q+1 ∧
 ((∀ i,i<m->¬ 0<S.T i c)->Q .non H)/\∀ r,r<m->0<S.T r c->(∀ i,i<m->0<S.T i c->Bet q S c r i)->Q (.int r) H
theorem scGoing:m6 ["self","column","best","row"] ["self","column"] (j4 a5z):=⟨rfl,rfl,rfl,by decide +kernel,rfl,by decide +kernel,by decide +kernel⟩
theorem a9P (F:Fun K "going" "Board.going" a5z f fd) (N:x8 mg) (T:TB K C) (A1:a7y P w K mg base n C "is_ahead" ["self","row","other","column"] (a7i C) g gd):FnOk P w K mg base E1 (n+1) f fd ["self","column"] (a6W C):=by
 refine F.ok scGoing (λ vs H Q E h=>?_) (λ cdv A outer s H vs Q E hr h=>?_)
 ·obtain ⟨p,dx,ca,oa,ia,rs,m,q,S,c,rfl,_⟩:=h
  rfl
 obtain ⟨p,dx,ca,oa,ia,rs,m,q,S,c,rfl,B,hz,hm,hc,kN,kI⟩:=h;refine ⟨_,j0 (o7 (i:=2) scGoing.nd rfl (aM rfl) M2)
  (j0 (T6 fQ rfl (N0 rfl N.range (d0 (j8 m8 rfl N.len cD (d0 (t9 (pv 0) rfl) h8)) h8)) (m9 (i:=3) scGoing.nd rfl (aM rfl))
   (j5 (w8 (PW.pt (a3J (r6 a0s (p7 j9 (p7 j9 (t9 (pv 0) rfl) (pv 3) (λ _ _=>rfl)) (pv 1) (λ _ _=>rfl)) i8 (r8 _))
     (a1X (PW.pt (a2l (r6 a0Z (pv 2) M2 (r8 _)) (a0t (X9 (Q4 (pv 0) T.cl A1.me A1.ok hr A1.bd .nil v5 (d0 (pv 3) (d0 (pv 2) (d0 (pv 1) h8)))))))))))
    (j5 (o7 (i:=2) scGoing.nd rfl (aM rfl) (pv 3))) t7)))
  (j5 (o8 (pv 2)))),?_⟩
 have lm:((S2 m S).map V.int).length=m:=by unfold S2; simp
 refine ⟨_,rfl,p,C,dx,_,_,rfl,B.obj,T.cl,T.nI,rfl,ia,_,rfl,.inl (SqL.of B.inn),_,rfl,(by rw [lm]; lia),(by rw [lm]; lia),?_⟩;rw [lm,bW];refine a0m (n:=m) (λ k σ H'=>∃ (b o3:Option V),σ=[some (.ref p),some (.int c),b,o3]/\H'=H/\((b=some .non/\∀ i,i<k->¬ 0<S.T i c)\/∃ r:Nat,b=some (.int r)/\r<k/\0<S.T r c/\∀ i,i<k->0<S.T i c->Bet q S c r i))
  ⟨_,_,rfl,rfl,.inl ⟨rfl,λ i hi=>absurd hi (qS _)⟩⟩ (λ k σ H' hk hP=>?_) λ σ H' hP=>?_
 ·obtain ⟨b,o3,rfl,rfl,hb⟩:=hP
  obtain ⟨rk,ek,ak⟩:=B.rs_at (i:=k) (by lia);have zk:(0:Int)+(k:Int)=(k:Int):=lW _;rw [zk];refine ⟨_,rfl,p,C,dx,_,_,rfl,B.obj,T.cl,T.nC,rfl,_,rfl,ca,_,_,_,rfl,rfl,SqL.of B.cel,ak,_,rfl,rk,_,_,_,rfl,rfl,SqL.of (B.row k rk ek),Z7 hc,_,_,rfl,rfl,_,rfl,?_⟩;have keep:¬ 0<S.T k c->((b=some .non/\∀ i,i<k+1->¬ 0<S.T i c)\/∃ r:Nat,b=some (.int r)/\r<k+1/\0<S.T r c/\∀ i,i<k+1->0<S.T i c->Bet q S c r i):=λ hn=>by
   rcases hb with ⟨e,hb⟩ | ⟨r,e,h1,h2,h3⟩
   ·refine .inl ⟨e,λ i hi=>?_⟩
    by_cases z:i=k
    ·subst z; exact hn
    ·exact hb i (by lia)
   ·refine .inr ⟨r,e,by lia,h2,λ i hi hp=>?_⟩
    by_cases z:i=k
    ·subst z; exact absurd hp hn
    ·exact h3 i (by lia) hp
  refine w6 (λ d=>?_) (λ d=>?_)
  ·have d':0<S.T k c:=of_decide_eq_true d
   rcases hb with ⟨rfl,hb⟩ | ⟨r,rfl,h1,h2,h3⟩
   ·refine ⟨_,rfl,rfl,_,rfl,?_⟩
    refine w6 (λ _=>?_) (λ z=>absurd (decide_eq_true rfl) z);refine a1N ?_;refine ⟨_,rfl,⟨_,_,rfl,rfl,.inr ⟨k,rfl,by lia,d',λ i hi hp=>?_⟩⟩⟩
    by_cases z:i=k
    ·subst z; exact ⟨Int.le_refl _,λ _=>aU _⟩
    ·exact absurd hp (hb i (by lia))
   ·refine ⟨_,rfl,rfl,_,rfl,?_⟩
    refine w6 (λ z=>absurd (of_decide_eq_true z) (by nofun)) (λ _=>?_);refine ⟨_,rfl,p,dx,_,rfl,B.obj,rfl,_,rfl,_,rfl,_,rfl,?_⟩;refine ⟨p,dx,ca,oa,ia,rs,m,q,S,k,r,c,rfl,B,hz,hk,by lia,hc,_,rfl,?_⟩;refine w6 (λ e=>?_) (λ e=>?_)
    ·have bt:=a8a e
     refine ⟨_,rfl,⟨_,_,rfl,rfl,.inr ⟨k,rfl,by lia,d',λ i hi hp=>?_⟩⟩⟩
     by_cases z:i=k
     ·subst z; exact ⟨Int.le_refl _,λ _=>aU _⟩
     ·exact bt.trans (h3 i (by lia) hp) d' h2 hp
    ·have bt:=b0V (eW.mpr e)
     refine ⟨_,_,rfl,rfl,.inr ⟨r,rfl,by lia,h2,λ i hi hp=>?_⟩⟩
     by_cases z:i=k
     ·subst z; exact bt
     ·exact h3 i (by lia) hp
  ·have d':¬ 0<S.T k c:=λ z=>d (decide_eq_true z)
   exact ⟨_,_,rfl,rfl,keep d'⟩
 ·obtain ⟨b,o3,rfl,rfl,hb⟩:=hP
  rcases hb with ⟨rfl,hb⟩ | ⟨r,rfl,h1,h2,h3⟩
  ·exact ⟨_,rfl,kN hb⟩
  ·exact ⟨_,rfl,kI r h1 h2 h3⟩
end
abbrev b4o:Str:=("Board.coming"++".<locals>.")++"<lambda>"
abbrev LT (Pt:aA) (H:Hp):Prop:=LamTab Pt a8M b4o H
section
variable {P:aL} {w:aI} {K:aE} {mg:Str->Option aC} {base:aG} {f g c Pt:aA} {fd gd:aJ} {n:Nat} {C:aA}
def a2v (C Pt:aA):Sp:=λ vs H Q _=>∃ (p dx ca oa ia:aA) (rs:List aA) (m q:Nat) (S:Lp.Bo),vs=[.ref p]/\Bd C H p dx ca oa ia rs m q S/\q<1000/\LT Pt H ∧
 ∀ H',Same1 Pt H H'->LT Pt H'->((∀ j,j<q->¬ S.T m j<0)->Q .non H')/\∀ j,j<q->S.T m j<0->(∀ i,i<q->S.T m i<0->S.outs j<=S.outs i)->Q (.int j) H'
theorem scComing:m6 ["self","columns"] ["self"] (j4 a3I):=⟨rfl,rfl,rfl,by decide +kernel,rfl,by decide +kernel,by decide +kernel⟩
theorem b4F:(["column","self"]:List Str).Nodup:=by decide +kernel
theorem LamTab.new {Pt a:aA} {pos:Pos} {qual:Str} {H:Hp} {o:HO} (T:LamTab Pt pos qual H) (h:H a=none):LamTab Pt pos qual (upd H a o):=T.same λ b u e=>by rw [i7 (i9 e h)]; exact e
def a8m (q:Nat) (S:Lp.Bo) (m:Nat):List Int:=((aR q).filter λ j=>decide (S.T m j<0)).map λ (j:Nat)=>(j:Int)
theorem a9b {q:Nat} {S:Lp.Bo} {m:Nat}:((aR q).map λ (i:Nat)=>V.int (0+(i:Int))).filter (λ v=>decide (S.T m (vI v).toNat<0))=(a8m q S m).map V.int:=by
 unfold a8m;rw [List.filter_map,bO];have e:((λ v=>decide (S.T m (vI v).toNat<0)) ∘ λ (i:Nat)=>V.int (0+(i:Int)))=λ j=>decide (S.T m j<0):=by
  funext j
  show decide (S.T m (vI (V.int (0+(j:Int)))).toNat<0)=_
  rw [show (vI (V.int (0+(j:Int)))).toNat=j from by simp [vI]]
 rw [e];refine fX λ j _=>?_;simp
theorem Bd.lam {H H':Hp} {p dx ca oa ia:aA} {rs:List aA} {m q:Nat} {S:Lp.Bo} (B:Bd C H p dx ca oa ia rs m q S) (T:LT Pt H) (e:Same1 Pt H H'):Bd C H' p dx ca oa ia rs m q S:=by
 refine B.same1 (P:=Pt) λ b o q n=>e b o (λ z=>?_) q;subst z;rcases T with t | ⟨c,t,_⟩
 ·rw [q] at t; exact n _ (bG t)
 ·rw [q] at t; exact n _ (bG t)
theorem a7T (F:Fun K "coming" "Board.coming" a3I f fd) (hcode:fd.code=.ref c) (CH:kK base c Pt) (BM:V9 mg base) (N:x8 mg) (T:TB K C):FnOk P w K mg base E1 (n+3) f fd ["self"] (a2v C Pt):=by
 refine F.okC hcode scComing (λ vs H Q E h=>?_) (λ A outer s H vs Q E hr h=>?_)
 ·obtain ⟨p,dx,ca,oa,ia,rs,m,q,S,rfl,_⟩:=h
  rfl
 obtain ⟨p,dx,ca,oa,ia,rs,m,q,S,rfl,B,hq,L,k⟩:=h;refine ⟨_,j0 (b3M (i:=1) ["column"] [0] scComing.nd rfl rfl rfl (N0 rfl N.range (d0 (t9 (pv 0) rfl) h8)) (λ _ _ _ _=>m9 (i:=0) b4F rfl (aM rfl))
   (λ _ _ _ _=>r6 a0q (p7 (a5T K rfl) (p7 (a5T K rfl) (a1V K rfl (pv 1) rfl) (R9 K3 i8) (λ _ _=>rfl)) (pv 0) (λ _ _=>rfl)) i8 (r8 _))
   (λ _ _ _ _=>pv 0))
  (j5 (o8 (a7Y (col:="column") (fr:=[0]) (c:=c) (P:=Pt) rfl (hr.mono (by lia)) rfl N.min rfl CH BM rfl rfl (by decide +kernel) rfl rfl rfl (λ _ _ _ _=>rfl) (d0 (pv 1) h8)
   (λ _ _ _ _=>p7 (a5T K rfl) (a1V K rfl (pv 1) rfl) (pv 0) (λ _ _=>rfl))))),?_⟩
 refine ⟨_,rfl,p,C,dx,_,_,rfl,B.obj,T.cl,T.nM,rfl,_,rfl,(by lia),(by lia),?_⟩;rw [bW];intro l hl;obtain ⟨rm,em,am⟩:=B.rs_last;refine b0Q a2D hl (by rw [aH,fF]; exact p6 (by lia)) (λ v=>decide (S.T m (vI v).toNat<0)) (λ i x H' N' hx e hN=>?_) ?_
 ·have hx':x=.int (i:Int)/\i<q:=by
   rw [aQ] at hx
   by_cases hi:i<q
   ·rw [bZ hi] at hx
    refine ⟨?_,hi⟩;have:=bG hx;rw [<- this]; simp
   ·rw [cK (by simp; lia)] at hx; cases hx
  obtain ⟨rfl,hi⟩:=hx';have e':∀ b o,H b=some o->H' b=some o:=λ b o z=>e b o z;refine ⟨_,rfl,p,C,dx,_,_,rfl,e' _ _ B.obj,T.cl,T.nC,rfl,_,rfl,ca,_,_,_,rfl,rfl,SqL.of (e' _ _ B.cel),am,_,rfl,rm,_,_,_,rfl,rfl,SqL.of (e' _ _ (B.row m rm em)),Z7 (by lia),_,_,rfl,rfl,_,rfl,?_⟩;have ev:decide (S.T m (vI (V.int (i:Int))).toNat<0)=decide (S.T m i<0):=by rw [show (vI (V.int (i:Int))).toNat=i from by simp [vI]]
  rw [ev] at hN;exact hN
 rw [a9b];have L2':LT Pt (upd H l (.lst ((a8m q S m).map V.int))):=LamTab.new L hl;have B2:Bd C (upd H l (.lst ((a8m q S m).map V.int))) p dx ca oa ia rs m q S:=B.same1 (P:=Pt) λ b o z _=>by rw [i7 (i9 z hl)]; exact z
 have mem:∀ x:Int,x∈a8m q S m ↔ ∃ j:Nat,x=(j:Int)/\j<q/\S.T m j<0:=λ x=>by
  unfold a8m;rw [bL];constructor
  ·rintro ⟨j,hj,rfl⟩
   rw [mP,dY] at hj;exact ⟨j,rfl,hj.1,of_decide_eq_true hj.2⟩
  ·rintro ⟨j,rfl,h1,h2⟩
   exact ⟨j,by rw [mP,dY]; exact ⟨h1,decide_eq_true h2⟩,rfl⟩
 refine ⟨_,rfl,l,_,λ x=>(S.outs x.toNat:Int),rfl,SqL.of upd_same,L2',λ H2 e2 L3=>?_⟩;have B3:=B2.lam L2' e2;have e3:Same1 Pt H H2:=λ b o hb z=>e2 b o hb (by rw [i7 (i9 z hl)]; exact z);obtain ⟨k1,k2⟩:=k H2 e3 L3;refine ⟨λ x hx=>?_,λ en=>k1 λ j hj hn=>?_,λ M hM hmin=>?_⟩
 ·obtain ⟨j,rfl,hj,hn⟩:=(mem x).mp hx
  exact ⟨_,rfl,p,C,dx,_,_,rfl,B3.obj,T.cl,T.nO,rfl,_,rfl,oa,_,_,_,rfl,rfl,SqL.of B3.out,a2q hj,by simp,rfl⟩
 ·have:=(mem (j:Int)).mpr ⟨j,rfl,hj,hn⟩
  rw [en] at this
  cases this
 ·obtain ⟨j,rfl,hj,hn⟩:=(mem M).mp hM
  refine k2 j hj hn λ i hi hni=>?_;have:=hmin (i:Int) ((mem _).mpr ⟨i,rfl,hi,hni⟩)
  simpa using this
end
def a0C (xs ys:List Int) (c:Nat) (d:Int):List Int:=(dQ (λ x y=>(x*ys.getD c 0 - xs.getD c 0*y) / d) xs ys).set c (-(xs.getD c 0))
theorem a5n {ns:List Int} {i:Nat} (h:i<ns.length):atI (ns.map V.int) (i:Int)=some (.int (ns.getD i 0)):=B6 (by
 rw [aQ,aV h,aZ,aV h]; rfl)
theorem a0J {ns:List Int} {i:Nat} {x:V} (h:(ns.map V.int)[i]?=some x):∃ k,x=.int k/\k∈ns:=by
 rw [aQ] at h
 cases hn:ns[i]? with
 | none=>rw [hn] at h; cases h
 | some k=>rw [hn] at h; cases h; exact ⟨k,rfl,bN hn⟩
theorem a7h (F:V->V->V) (G:Int->Int->Int) (h:∀ a b,F (.int a) (.int b)=.int (G a b)):∀ xs ys:List Int,dQ F (xs.map V.int) (ys.map V.int)=(dQ G xs ys).map V.int
 | [],_=>by simp
 | _::_,[]=>by simp
 | x::xs,y::ys=>by simp [h,a7h F G h xs ys]
theorem a3b {ns:List Int} {i:Nat} (h:i<ns.length):ns.getD i 0∈ns:=by
 rw [aZ,aV h]; exact fB h
section
variable {P:aL} {w:aI} {K:aE} {mg:Str->Option aC} {base:aG} {f g c Pt:aA} {fd gd:aJ} {n:Nat} {C:aA}
def a3K (K:aE):Sp:=λ vs H Q _=>∃ (a b:aA) (c:Nat) (d:Int) (xs ys:List Int),vs=[.ref a,.ref b,.int c,.int d]/\SqL K H a (xs.map V.int)/\SqL K H b (ys.map V.int)/\xs.length=ys.length/\xs.length<=1000/\c<xs.length ∧
 0<d/\Big 4000 d/\(∀ x∈xs,Big 4000 x)/\(∀ y∈ys,Big 4000 y)/\∀ (r:aA) (H':Hp),Same H H'->H r=none->H' r=some (.lst ((a0C xs ys c d).map V.int))->Q (.ref r) H'
theorem scSwept:m6 ["cells","lead","column","scale","factor","pivot","fresh"] ["cells","lead","column","scale"] (j4 a5s):=⟨rfl,rfl,rfl,by decide +kernel,rfl,by decide +kernel,by decide +kernel⟩
theorem b4z:(["cell","other","scale","factor","pivot"]:List Str).Nodup:=by decide +kernel
theorem a9k (F:Fun K "swept" "swept" a5s f fd) (N:x8 mg):FnOk P w K mg base E1 (n+1) f fd ["cells","lead","column","scale"] (a3K K):=by
 refine F.ok scSwept (λ vs H Q E h=>?_) (λ cdv A outer s H vs Q E hr h=>?_)
 ·obtain ⟨a,b,c,d,xs,ys,rfl,_⟩:=h
  rfl
 obtain ⟨a,b,c,d,xs,ys,rfl,ha,hb,hl,hz,hc,hd,hD,hx,hy,k⟩:=h;refine ⟨_,j0 (o7 (i:=4) scSwept.nd rfl (fO rfl) (p7 j9 (pv 0) (pv 2) (λ _ _=>rfl)))
  (j0 (o7 (i:=5) scSwept.nd rfl (fO rfl) (p7 j9 (pv 1) (pv 2) (λ _ _=>rfl)))
  (j0 (a4P (i:=6) ["cell","other"] [3,4,5] scSwept.nd rfl rfl rfl (a7j true true K rfl rfl N.zip (d0 (pv 0) (d0 (pv 1) h8)))
   (λ _ _ _ _=>Q8 K (n:=2) rfl rfl (r9 (m9 (i:=0) b4z rfl (aM rfl)) (r9 (m9 (i:=1) b4z rfl (aM rfl)) C2)))
   (λ _ _ _ _=>j7 a2P (j7 a6c (j7 N9 (pv 0) (pv 4)) (j7 N9 (pv 3) (pv 1))) (pv 2)))
  (j0 (K5 (R9 K3 (pv 4)) (T1 (pv 6) (pv 2) J6))
  (j5 (o8 (pv 6)))))),?_⟩
 have hc2:c<ys.length:=by lia
 refine ⟨_,rfl,_,rfl,a,_,_,_,rfl,rfl,ha,a5n hc,?_⟩;refine ⟨_,rfl,_,rfl,b,_,_,_,rfl,rfl,hb,a5n hc2,?_⟩;refine ⟨_,rfl,_,rfl,a,b,rfl,⟨_,ha⟩,⟨_,hb⟩,λ l hl'=>?_⟩;have up:∀ {x},Big 4000 x->Big 1000000 x:=λ h=>a8T h (by decide);refine b1Z ha hb hl' (by rw [aH]; exact p6 hz) (λ u v=>.int ((vI u*ys.getD c 0 - xs.getD c 0*vI v) / d)) (λ i u v H' N' hu hv e hN=>?_) (λ H' e hH=>?_)
 ·obtain ⟨x,rfl,hxm⟩:=a0J hu
  obtain ⟨y,rfl,hym⟩:=a0J hv;have dl:d<2 ^ 8000:=by
   have h1:d.natAbs<2 ^ 4000:=hD;have h2:(2:Nat) ^ 4000<=2 ^ 8000:=lV (by decide) (by decide);have h3:d=(d.natAbs:Int):=by lia
   rw [h3]
   exact_mod_cast bM h1 h2
  refine ⟨_,rfl,_,rfl,_,_,rfl,rfl,⟨up (hx _ hxm),up (hy _ (a3b hc2))⟩,_,rfl,_,rfl,_,_,rfl,rfl,⟨up (hx _ (a3b hc)),up (hy _ hym)⟩,_,_,rfl,rfl,_,rfl,_,_,rfl,rfl,⟨hd,dl⟩,hN⟩
 ·rw [a7h _ (λ x y=>(x*ys.getD c 0 - xs.getD c 0*y) / d) (λ _ _=>rfl)] at hH
  refine ⟨_,rfl,_,rfl,?_⟩;refine ⟨_,rfl,_,rfl,l,_,_,c,rfl,rfl,hH,?_,?_⟩
  ·unfold ixN
   rw [aH,kH,if_pos (by lia),if_pos (by lia),bW]
  ·refine ⟨_,rfl,k l _ ?_ hl' ?_⟩
   ·exact λ b' o q=>by rw [i7 (i9 q hl')]; exact e b' o q
   ·rw [upd_same]
    unfold a0C;rw [<- qT]
end
structure P3 (P:aL) (w:aI) (K:aE) (mg:Str->Option aC) (base:aG) (n:Nat) (x:Str) (ps:List Str) (sp:Sp) (fa:aA) (d:aJ):Prop where
 ok:FnOk P w K mg base E1 n fa d ps sp
 b:Binds K d ps []
 k:dL K (.ref fa)=true
 m:mg x=some (.ref fa)
theorem E2 {q:Nat} {S:Lp.Bo} {i:Nat}:(A5 q S i).length=q+1:=by unfold A5; simp
theorem a3d {q:Nat} {S:Lp.Bo} {i j:Nat} (h:j<q+1):(A5 q S i).getD j 0=S.T i j:=by
 unfold A5;rw [aZ,aQ,bZ h]; rfl
theorem a8o {q:Nat} {S:Lp.Bo} {i r c:Nat} (hi:i≠r) (hc:c<q):a0C (A5 q S i) (A5 q S r) c S.d=A5 q (Lp.piv S r c) i:=by
 refine eD λ j=>?_;unfold a0C
 by_cases hj:j<q+1
 ·rw [a3d (by lia),a3d (by lia)]
  have e:(A5 q (Lp.piv S r c) i)[j]?=some ((Lp.piv S r c).T i j):=by unfold A5; rw [aQ,bZ hj]; rfl
  have hT:(Lp.piv S r c).T i j=if j=c then - S.T i c else (S.T i j*S.T r c - S.T i c*S.T r j) / S.d:=by
   show (if i=r then _ else _)=_
   rw [if_neg hi]
  rw [e,hT]
  by_cases hjc:j=c
  ·subst hjc
   rw [dI (by rw [kH,E2,E2]; lia),if_pos rfl]
  ·rw [bY (bI hjc),vF,if_neg hjc]
   unfold A5;rw [aQ,aQ,bZ hj]; rfl
 ·rw [cK (by rw [dG,kH,E2,E2]; lia),cK (by rw [E2]; lia)]
theorem a8Z {q:Nat} {S:Lp.Bo} {r c:Nat} (hc:c<q):(((A5 q S r).map V.int).take c++[V.int S.d])++((A5 q S r).map V.int).drop (c+1)=(A5 q (Lp.piv S r c) r).map V.int:=by
 have hT:∀ j,(Lp.piv S r c).T r j=if j=c then S.d else S.T r j:=λ j=>by
  show (if r=r then _ else _)=_
  rw [if_pos rfl]
 have hl:((A5 q S r).map V.int).length=q+1:=by rw [aH,E2]
 refine eD λ j=>?_
 by_cases hj:j<q+1
 ·have e:((A5 q (Lp.piv S r c) r).map V.int)[j]?=some (.int (if j=c then S.d else S.T r j)):=by
   rw [aQ]; unfold A5; rw [aQ,bZ hj,<- hT]; rfl
  have e0:((A5 q S r).map V.int)[j]?=some (.int (S.T r j)):=by
   rw [aQ]; unfold A5; rw [aQ,bZ hj]; rfl
  rw [e];have lt:(((A5 q S r).map V.int).take c).length=c:=by rw [cU,hl]; lia
  by_cases h1:j<c
  ·rw [dB (by rw [bF,lt]; lia),dB (by lia),sK h1,e0,if_neg (by lia)]
  ·by_cases h2:j=c
   ·subst h2
    rw [dB (by rw [bF,lt]; simp),dP (by lia),lt,hV,if_pos rfl]; rfl
   ·rw [dP (by rw [bF,lt]; simp; lia),bF,lt,vB,if_neg h2]
    have:c+1+(j - (c+[V.int S.d].length))=j:=by simp; lia
    rw [this,e0]
 ·rw [cK (by rw [bF,bF,cU,eZ,hl]; simp; lia),cK (by rw [aH,E2]; lia)]
theorem b1V {m:Nat} {S:Lp.Bo} {r c:Nat} (hr:r<m):((S2 m S).map V.int).set r (.int (S.outs c))=(S2 m (Lp.piv S r c)).map V.int:=by
 refine eD λ j=>?_;have hT:(Lp.piv S r c).ins j=if j=r then S.outs c else S.ins j:=rfl
 by_cases hj:j<m
 ·have e:((S2 m (Lp.piv S r c)).map V.int)[j]?=some (.int ((if j=r then S.outs c else S.ins j:Nat))):=by
   rw [aQ]; unfold S2; rw [aQ,bZ hj,<- hT]; rfl
  rw [e]
  by_cases h:j=r
  ·subst h
   rw [dI (by unfold S2; simp; lia),if_pos rfl]
  ·rw [bY (bI h),if_neg h,aQ]
   unfold S2; rw [aQ,bZ hj]; rfl
 ·rw [cK (by unfold S2; simp; lia),cK (by unfold S2; simp; lia)]
theorem a8L {q:Nat} {S:Lp.Bo} {r c:Nat} (hc:c<q):((M9 q S).map V.int).set c (.int (S.ins r))=(M9 q (Lp.piv S r c)).map V.int:=by
 refine eD λ j=>?_;have hT:(Lp.piv S r c).outs j=if j=c then S.ins r else S.outs j:=rfl
 by_cases hj:j<q
 ·have e:((M9 q (Lp.piv S r c)).map V.int)[j]?=some (.int ((if j=c then S.ins r else S.outs j:Nat))):=by
   rw [aQ]; unfold M9; rw [aQ,bZ hj,<- hT]; rfl
  rw [e]
  by_cases h:j=c
  ·subst h
   rw [dI (by unfold M9; simp; lia),if_pos rfl]
  ·rw [bY (bI h),if_neg h,aQ]
   unfold M9; rw [aQ,bZ hj]; rfl
 ·rw [cK (by unfold M9; simp; lia),cK (by unfold M9; simp; lia)]
theorem a2n {n i:Nat} (h:i<n):ixN n (i:Int)=some i:=by
 unfold ixN;rw [if_pos (by lia),if_pos (by lia),bW]
section
variable {P:aL} {w:aI} {K:aE} {mg:Str->Option aC} {base:aG} {f g c Pt:aA} {fd gd:aJ} {n:Nat} {C:aA}
def a2x (C:aA):Sp:=λ vs H Q _=>∃ (p dx ca oa ia:aA) (rs:List aA) (m q:Nat) (S:Lp.Bo) (r c:Nat),vs=[.ref p,.int r,.int c]/\Bd C H p dx ca oa ia rs m q S/\Sz 4000 m q S/\r<m/\c<q/\m<900/\q<900/\0<S.d ∧
 ∀ (H':Hp) (ca':aA) (rs':List aA),Bd C H' p dx ca' oa ia rs' m q (Lp.piv S r c)->(∀ b o,b≠p->b≠oa->b≠ia->H b=some o->H' b=some o)->Q .non H'
theorem scEx:m6 ["self","row","column","lead","pivot"] ["self","row","column"] (j4 Q5):=⟨rfl,rfl,rfl,by decide +kernel,rfl,by decide +kernel,by decide +kernel⟩
theorem b5I:(["cells","self","column","lead"]:List Str).Nodup:=by decide +kernel
noncomputable def exT {cdv:aC} {A:aY} {outer:List Env} {s:aD} {H:Hp} {E:XK} {fb:aA} {db:aJ} (Cs:P3 P w K mg base n "swept" ["cells","lead","column","scale"] (a3K K) fb db)
  (hr:Room n (A.deeper (fY "Board.exchange" (j4 Q5) s.heap.objs.size f cdv))) :
  { t:TS // PSs (M0 E1 P w K mg base ["self","row","column","lead","pivot"] "Board.exchange" (j4 Q5) f cdv A outer s H E).nox (w4 Q5) t } :=
 ⟨_,j0 (o7 (i:=3) scEx.nd rfl (fO rfl) (p7 j9 (t9 (pv 0) rfl) (pv 1) (λ _ _=>rfl)))
  (j0 (o7 (i:=4) scEx.nd rfl (aM rfl) (p7 j9 (pv 3) (pv 2) (λ _ _=>rfl)))
  (v6 (K2 (pv 0) (R5 ["cells"] [0,2,3] rfl (J7 (t9 (pv 0) rfl)) (λ _ _ _ _=>m9 (i:=0) b5I rfl (aM rfl))
   (λ _ _ _ _=>j6 Cs.ok hr rfl Cs.m Cs.k Cs.b .nil v5 (d0 (pv 0) (d0 (pv 3) (d0 (pv 2) (d0 (a1V K rfl (pv 1) rfl) h8)))))) rfl)
  (j0 (K5 (j7 B8 (j7 B8 (G1 M3 (pv 3) N8 (K1 (pv 2))) (v7 (d0 (t9 (pv 0) rfl) h8))) (G1 M3 (pv 3) (K1 (j7 D0 (pv 2) i8)) N8)) (T1 (t9 (pv 0) rfl) (pv 1) J6))
  (j0 (K2 (pv 0) (pv 4) rfl)
  (j5 (K5 (D3 (d0 (p7 j9 (t9 (pv 0) rfl) (pv 2) (λ _ _=>rfl)) (d0 (p7 j9 (t9 (pv 0) rfl) (pv 1) (λ _ _=>rfl)) h8)))
   (W9 rfl (r9 (T1 (t9 (pv 0) rfl) (pv 1) J6) (r9 (T1 (t9 (pv 0) rfl) (pv 2) J6) C2)))))))))⟩
end
def a7z:V->aA
 | .ref a=>a
 | _=>0
section
variable {P:aL} {w:aI} {K:aE} {mg:Str->Option aC} {base:aG} {f g c Pt:aA} {fd gd:aJ} {n:Nat} {C:aA}
theorem a4R {m q i:Nat} {S:Lp.Bo} (h:Sz 4000 m q S) (hi:i<m+1):∀ x∈A5 q S i,Big 4000 x:=λ x hx=>by
 unfold A5 at hx;obtain ⟨j,hj,rfl⟩:=bL.mp hx;exact h.1 i j hi (dY.mp hj)
theorem a4x {fb:aA} {db:aJ} (F:Fun K "exchange" "Board.exchange" Q5 f fd) (T:TB K C) (Cs:P3 P w K mg base n "swept" ["cells","lead","column","scale"] (a3K K) fb db) :
  FnOk P w K mg base E1 (n+1) f fd ["self","row","column"] (a2x C):=by
 refine F.ok scEx (λ vs H Q E h=>?_) (λ cdv A outer s H vs Q E hr h=>?_)
 ·obtain ⟨p,dx,ca,oa,ia,rs,m,q,S,r,c,rfl,_⟩:=h
  rfl
 obtain ⟨p,dx,ca,oa,ia,rs,m,q,S,r,c,rfl,B,hz,hrm,hc,hm,hq,hd,k⟩:=h;refine ⟨_,(exT Cs hr).2,?_⟩;obtain ⟨rl,er,ar⟩:=B.rs_at (i:=r) (by lia);have hrl:=B.row r rl er;have nrl:rl≠p:=G9 hrl B.obj (by intro z; cases z);have noa:oa≠p:=G9 B.out B.obj (by intro z; cases z);have nia:ia≠p:=G9 B.inn B.obj (by intro z; cases z);refine ⟨_,rfl,p,C,dx,_,_,rfl,B.obj,T.cl,T.nC,rfl,_,rfl,ca,_,_,_,rfl,rfl,SqL.of B.cel,ar,?_⟩;refine ⟨_,rfl,_,rfl,rl,_,_,_,rfl,rfl,SqL.of hrl,Z7 (by lia),?_⟩;refine ⟨λ σ' H3=>∃ (l:aA) (rs':List aA),σ'=[some (.ref p),some (.int r),some (.int c),some (.ref rl),some (.int (S.T r c))]/\H3 p=some (.ins C dx (bdF q S.d l oa ia))/\H3 l=some (.lst (rs'.map V.ref))/\rs'.length=m+1/\H l=none ∧
  (∀ i a,rs'[i]?=some a->H a=none/\a≠l/\H3 a=some (.lst ((a0C (A5 q S i) (A5 q S r) c S.d).map V.int)))/\∀ b o,b≠p->H b=some o->H3 b=some o,?_,?_⟩
 ·refine ⟨_,rfl,p,C,dx,_,_,rfl,B.obj,T.cl,T.nC,rfl,ca,rfl,⟨_,SqL.of B.cel⟩,λ l hl=>?_⟩
  refine V7 (D8 (SqL.of B.cel)) hl (by rw [aH,B.len]; exact p6 (by lia)) (λ i y H2=>∃ a,y=.ref a/\H a=none/\a≠l/\H2 a=some (.lst ((a0C (A5 q S i) (A5 q S r) c S.d).map V.int)))
   (λ i y H2 H3 ⟨a,h1,h2,h3,h4⟩ e=>⟨a,h1,h2,h3,e a _ h3 h4⟩) (λ i x H2 ys N hx e hl2 hN=>?_) (λ ys H2 e hl2 len pr=>?_)
  ·rw [aQ] at hx
   cases hri:rs[i]? with
   | none=>rw [hri] at hx; cases hx
   | some a =>
    rw [hri] at hx;have hx':V.ref a=x:=bG hx;subst hx';have hi:i<m+1:=by rw [<- B.len]; exact (bP.mp hri).1
    refine ⟨Wk.set (by decide),?_⟩;refine ⟨_,rfl,_,rfl,_,rfl,_,rfl,p,C,dx,_,_,rfl,e _ _ B.obj,T.cl,T.nS,rfl,?_⟩;refine ⟨a,rl,c,S.d,A5 q S i,A5 q S r,rfl,SqL.of (e _ _ (B.row i a hri)),SqL.of (e _ _ hrl),by rw [E2,E2],by rw [E2]; lia,by rw [E2]; lia,hd,hz.2,a4R hz hi,a4R hz (by lia),λ r' H3 s3 hn hr'=>?_⟩;refine hN _ _ s3 ⟨r',rfl,?_,λ z=>?_,hr'⟩
    ·cases q1:H r' with
     | none=>rfl
     | some o=>rw [e _ _ q1] at hn; cases hn
    ·rw [z,hl2] at hn; cases hn
  ·have hp2:=e _ _ B.obj
   have nlp:p≠l:=i9 B.obj hl;refine ⟨_,rfl,p,C,dx,_,rfl,hp2,T.cl,T.nC,(by show 5<1000; decide),?_⟩;have hys:ys=(ys.map a7z).map V.ref:=by
    rw [bO];refine eD λ i=>?_;rw [aQ]
    cases qi:ys[i]? with
    | none=>rfl
    | some y =>
     obtain ⟨a,rfl,_⟩:=pr i y qi;rfl
   refine ⟨l,ys.map a7z,rfl,upd_same,by rw [i7 nlp.symm,hl2]; rw [<- hys],by rw [aH,len,aH,B.len],hl,λ i a hi=>?_,λ b o hb hbo=>by rw [i7 hb]; exact e _ _ hbo⟩;rw [aQ] at hi
   cases qi:ys[i]? with
   | none=>rw [qi] at hi; cases hi
   | some y =>
    obtain ⟨a',rfl,h2,h3,h4⟩:=pr i y qi;rw [qi] at hi;have:a'=a:=bG hi;subst this;refine ⟨h2,h3,?_⟩;rw [i7 (λ z=>by rw [z,hp2] at h4; cases h4)];exact h4
 ·intro σ' H3 hM_; refine E9 λ G_ hG_=>?_; obtain ⟨l,rs',rfl,hp,hl,hlen,hl0,hrs,hk⟩:=hM_; subst hG_
  have hr3:=hk rl _ nrl hrl;have lr:((A5 q S r).map V.int).length=q+1:=by rw [aH,E2]
  refine ⟨_,rfl,_,rfl,_,rfl,rl,_,rfl,SqL.of hr3,λ a1 h1=>?_⟩;have e1:=Same.new h1 (.lst (M5 ((A5 q S r).map V.int) none (some (c:Int))));refine ⟨_,rfl,p,C,dx,_,_,rfl,e1 _ _ hp,T.cl,T.nS,rfl,(by show 1<=sizeLine; decide),λ a2 h2=>?_⟩;have e2:=e1.trans (Same.new h2 (.lst [.int S.d]));have n12:a1≠a2:=i9 upd_same h2;refine ⟨a1,a2,_,_,rfl,rfl,(by rw [i7 n12]; exact upd_same),upd_same,?_,λ a3 h3=>?_⟩
  ·rw [a3F _ _ (by rw [lr]; lia),cU,lr]
   have:=p6 (show c+1<=1000 by lia);simp;lia
  have e3:=e2.trans (Same.new h3 (.lst (M5 ((A5 q S r).map V.int) none (some (c:Int))++[.int S.d])));refine ⟨_,rfl,_,rfl,_,_,rfl,rfl,_,rfl,rl,_,rfl,SqL.of (e3 _ _ hr3),λ a4 h4=>?_⟩;have e4:=e3.trans (Same.new h4 (.lst (M5 ((A5 q S r).map V.int) (some ((c:Int)+1)) none)));have n34:a3≠a4:=i9 upd_same h4;have c1:M5 ((A5 q S r).map V.int) none (some (c:Int))=((A5 q S r).map V.int).take c:=a3F _ _ (by rw [lr]; lia);have c2:M5 ((A5 q S r).map V.int) (some ((c:Int)+1)) none=((A5 q S r).map V.int).drop (c+1):=by
   have:=a2k ((A5 q S r).map V.int) (c+1) (by rw [lr]; lia);rw [<- this]; rfl
  refine ⟨a3,a4,_,_,rfl,rfl,(by rw [i7 n34]; exact upd_same),upd_same,?_,λ a5 h5=>?_⟩
  ·rw [c1,c2,bF,cU,eZ,lr]
   have:=p6 (show q+1<=1000 by lia);simp;lia
  have hrow:(M5 ((A5 q S r).map V.int) none (some (c:Int))++[.int S.d])++M5 ((A5 q S r).map V.int) (some ((c:Int)+1)) none=(A5 q (Lp.piv S r c) r).map V.int:=by rw [c1,c2,a8Z hc]
  have h5n:H3 a5=none:=by
   cases z:H3 a5 with
   | none=>rfl
   | some o=>rw [e4 _ _ z] at h5; cases h5
  have e5:=e4.trans (Same.new h5 (.lst ((M5 ((A5 q S r).map V.int) none (some (c:Int))++[.int S.d])++M5 ((A5 q S r).map V.int) (some ((c:Int)+1)) none)));have u5:∀ H4:Hp,upd H4 a5 (.lst ((M5 ((A5 q S r).map V.int) none (some (c:Int))++[.int S.d])++M5 ((A5 q S r).map V.int) (some ((c:Int)+1)) none)) a5=some (.lst ((A5 q (Lp.piv S r c) r).map V.int)):=λ H4=>upd_same.trans (congrArg (λ z=>some (HO.lst z)) hrow);have oa3:=hk oa _ noa B.out;have ia3:=hk ia _ nia B.inn;have nlp:l≠p:=(i9 B.obj hl0).symm;have nlo:l≠oa:=(i9 B.out hl0).symm;have nli:l≠ia:=(i9 B.inn hl0).symm;have n5p:a5≠p:=(i9 hp h5n).symm;have n5l:a5≠l:=(i9 hl h5n).symm;have n5o:a5≠oa:=(i9 oa3 h5n).symm;have n5i:a5≠ia:=(i9 ia3 h5n).symm;have lrs:(rs'.map V.ref).length=m+1:=by rw [aH]; exact hlen
  refine ⟨_,rfl,p,C,dx,_,_,rfl,e5 _ _ hp,T.cl,T.nC,rfl,_,rfl,l,_,_,r,rfl,rfl,e5 _ _ hl,a2n (by rw [lrs]; lia),?_⟩;refine ⟨_,rfl,_,rfl,p,C,dx,_,rfl,(by rw [i7 nlp.symm]; exact e5 _ _ hp),T.cl,T.nS,(by show 5<1000; decide),?_⟩;refine ⟨_,rfl,p,C,dx,_,_,rfl,upd_same,T.cl,T.nO,rfl,_,rfl,oa,_,_,_,rfl,rfl,SqL.of (by rw [i7 noa,i7 nlo.symm]; exact e5 _ _ oa3),a2q hc,?_⟩;refine ⟨_,rfl,p,C,dx,_,_,rfl,upd_same,T.cl,T.nI,rfl,_,rfl,ia,_,_,_,rfl,rfl,SqL.of (by rw [i7 nia,i7 nli.symm]; exact e5 _ _ ia3),a1T hrm,(by show 2<=sizeLine; decide),λ t ht=>?_⟩;have ntp:t≠p:=(i9 upd_same ht).symm;have ntl:t≠l:=by
   refine (i9 (H:=_) (o:=.lst ((rs'.map V.ref).set r (.ref a5))) ?_ ht).symm;rw [i7 nlp,upd_same]
  have nto:t≠oa:=by
   refine (i9 (H:=_) (o:=.lst ((M9 q S).map V.int)) ?_ ht).symm;rw [i7 noa,i7 nlo.symm]; exact e5 _ _ oa3
  have nti:t≠ia:=by
   refine (i9 (H:=_) (o:=.lst ((S2 m S).map V.int)) ?_ ht).symm;rw [i7 nia,i7 nli.symm]; exact e5 _ _ ia3
  refine ⟨t,_,rfl,SqT.of upd_same,rfl,?_⟩;refine ⟨_,_,rfl,_,rfl,p,C,dx,_,_,rfl,(by rw [i7 ntp.symm]; exact upd_same),T.cl,T.nI,rfl,_,rfl,ia,_,_,r,rfl,rfl,(by rw [i7 nti.symm,i7 nia,i7 nli.symm]; exact e5 _ _ ia3),a2n (by unfold S2; simp; lia),?_⟩;refine ⟨_,_,rfl,_,rfl,p,C,dx,_,_,rfl,(by rw [i7 nia.symm,i7 ntp.symm]; exact upd_same),T.cl,T.nO,rfl,_,rfl,oa,_,_,c,rfl,rfl,(by rw [i7 B.ne,i7 nto.symm,i7 noa,i7 nlo.symm]; exact e5 _ _ oa3),a2n (by unfold M9; simp; lia),rfl,?_⟩;refine k _ l (rs'.set r a5) ⟨?_,?_,by rw [dG]; exact hlen,λ i a hi=>?_,?_,?_,B.ne⟩ λ b o hb hbo hbi hH=>?_
  ·rw [i7 noa.symm,i7 nia.symm,i7 ntp.symm,upd_same]; rfl
  ·rw [i7 nlo,i7 nli,i7 ntl.symm,i7 nlp,upd_same,qT]
  ·by_cases hir:i=r
   ·subst hir
    rw [dI (by rw [hlen]; lia)] at hi;have:a5=a:=bG hi;subst this;have n5t:a5≠t:=by
     refine i9 (H:=_) (o:=.lst ((A5 q (Lp.piv S i c) i).map V.int)) ?_ ht;rw [i7 n5p,i7 n5l]; exact u5 _
    rw [i7 n5o,i7 n5i,i7 n5t,i7 n5p,i7 n5l];exact u5 _
   ·rw [bY (bI hir)] at hi
    obtain ⟨g1,g2,g3⟩:=hrs i a hi;have nap:a≠p:=(i9 B.obj g1).symm;have nao:a≠oa:=(i9 B.out g1).symm;have nai:a≠ia:=(i9 B.inn g1).symm;have g5:=e5 _ _ g3;have nat:a≠t:=by
     refine i9 (H:=_) (o:=.lst ((a0C (A5 q S i) (A5 q S r) c S.d).map V.int)) ?_ ht;rw [i7 nap,i7 g2]; exact g5
    rw [i7 nao,i7 nai,i7 nat,i7 nap,i7 g2,<- a8o hir hc];exact g5
  ·rw [upd_same,a8L hc]
  ·rw [i7 B.ne.symm,upd_same,b1V hrm]
  ·have h3:=hk b o hb hH
   have nbl:b≠l:=i9 hH hl0;have nbt:b≠t:=by
    refine i9 (H:=_) (o:=o) ?_ ht;rw [i7 hb,i7 nbl]; exact e5 _ _ h3
   rw [i7 hbo,i7 hbi,i7 nbt,i7 hb,i7 nbl];exact e5 _ _ h3
end
theorem a2r {g:Nat->Int}:∀ {n:Nat},(∀ k,k<n->g k=0)->Lp.sumTo g n=0
 | 0,_=>rfl
 | n+1,h=>by
  show Lp.sumTo g n+g n=0
  rw [a2r λ k hk=>h k (by lia),h n (by lia)]; rfl
def b1g (q:Nat) (S:Lp.Bo) (k v:Nat):Int:=Lp.sumTo (λ i=>if S.ins i=v then S.T i q else 0) k
def a6U (m:Nat) (S:Lp.Bo) (k v:Nat):Int:=Lp.sumTo (λ j=>if S.outs j=v then S.T m j else 0) k
def u9 (m q:Nat) (S:Lp.Bo):List Int:=(aR q).map λ v=>Lp.valIn m S q v
def E4 (m q:Nat) (S:Lp.Bo):List Int:=(aR m).map λ i=>Lp.valOut m q S (q+i)
theorem a4q (k:Nat):(bA k [V.int 0]).flatten=(aR k).map λ _=>V.int 0:=by
 induction k with
 | zero=>rfl
 | succ k ih=>rw [List.replicate_succ',List.flatten_append,ih,lX,cV]; rfl
theorem b0o {n v:Nat} {F G:Nat->Int} {x:Int} (hv:G v=x) (h:∀ u,u<n->u≠v->F u=G u):((aR n).map λ u=>V.int (F u)).set v (.int x)=(aR n).map λ u=>V.int (G u):=by
 refine eD λ j=>?_
 by_cases hj:j<n
 ·by_cases e:j=v
  ·subst e
   rw [dI (by simp; lia),aQ,bZ hj,hW,hv]
  ·rw [bY (bI e),aQ,aQ,bZ hj,hW,hW,h j hj e]
 ·rw [cK (by simp; lia),cK (by simp; lia)]
section
variable {P:aL} {w:aI} {K:aE} {mg:Str->Option aC} {base:aG} {f g c Pt:aA} {fd gd:aJ} {n:Nat} {C:aA}
def a9X (C:aA):Sp:=λ vs H Q _=>∃ (p dx ca oa ia:aA) (rs:List aA) (m q:Nat) (S:Lp.Bo),vs=[.ref p]/\Bd C H p dx ca oa ia rs m q S/\m<900/\q<900/\(∀ i k,i<m->k<m->S.ins i=S.ins k->i=k) ∧
 ∀ (r:aA) (H':Hp),Same H H'->H r=none->H' r=some (.lst ((u9 m q S).map V.int))->Q (.ref r) H'
theorem scAmts:m6 ["self","told","row","number"] ["self"] (j4 b0d):=⟨rfl,rfl,rfl,by decide +kernel,rfl,by decide +kernel,by decide +kernel⟩
theorem b1Y (F:Fun K "amounts" "Board.amounts" b0d f fd) (N:x8 mg) (T:TB K C):FnOk P w K mg base E1 (n+1) f fd ["self"] (a9X C):=by
 refine F.ok scAmts (λ vs H Q E h=>?_) (λ cdv A outer s H vs Q E hr h=>?_)
 ·obtain ⟨p,dx,ca,oa,ia,rs,m,q,S,rfl,_⟩:=h
  rfl
 obtain ⟨p,dx,ca,oa,ia,rs,m,q,S,rfl,B,hm,hq,inj,k⟩:=h;refine ⟨_,j0 (o7 (i:=1) scAmts.nd rfl (aM rfl) (j7 U0 (v7 (d0 i8 h8)) (t9 (pv 0) rfl)))
  (j0 (T6 fQ rfl (a4b K rfl rfl N.enum (d0 (t9 (pv 0) rfl) h8)) (Q8 K (n:=2) rfl rfl (r9 (m9 (i:=2) scAmts.nd rfl (aM rfl)) (r9 (m9 (i:=3) scAmts.nd rfl (aM rfl)) C2)))
   (j5 (w8 (r6 a0q (pv 3) (t9 (pv 0) rfl) (r8 _)) (j5 (K5 (p7 j9 (p7 j9 (t9 (pv 0) rfl) (pv 2) (λ _ _=>rfl)) (R9 K3 i8) (λ _ _=>rfl)) (T1 (pv 1) (pv 3) J6))) t7)))
  (j5 (o8 (pv 1)))),?_⟩
 have sl:=p6 (show q<=1000 by lia);refine ⟨(by show 1<=sizeLine; decide),λ z hz=>?_⟩;have ez:=Same.new hz (.lst [.int 0]);refine ⟨_,rfl,p,C,dx,_,_,rfl,ez _ _ B.obj,T.cl,T.nM,rfl,z,_,_,rfl,rfl,upd_same,(by lia),(by lia),(by rw [bW]; simp; lia),λ tl htl=>?_⟩;rw [bW,a4q];have htn:H tl=none:=by
  cases q1:H tl with
  | none=>rfl
  | some o=>rw [ez _ _ q1] at htl; cases htl
 have e0:Same H (upd (upd H z (.lst [.int 0])) tl (.lst ((aR q).map λ _=>V.int 0))):=ez.write htn;refine ⟨_,rfl,p,C,dx,_,_,rfl,e0 _ _ B.obj,T.cl,T.nI,rfl,ia,rfl,⟨_,SqL.of (e0 _ _ B.inn)⟩,?_⟩;have li:((S2 m S).map V.int).length=m:=by unfold S2; simp
 refine a2o (xs:=(S2 m S).map V.int) (i1:=2) (i2:=3) (λ j σ H'=>∃ o2 o3:Option V,σ=[some (.ref p),some (.ref tl),o2,o3]/\Same H H'/\H' tl=some (.lst ((aR q).map λ v=>V.int (b1g q S j v))))
  ⟨_,_,rfl,e0,by rw [upd_same]; rfl⟩ (λ j σ H' ⟨_,_,_,e,_⟩=>SqL.of (e _ _ B.inn)) ?_ ?_
 ·rintro j x σ H1 qq hx ⟨o2,o3,rfl,e1,ht⟩ hqq
  have hj:j<m:=by rw [<- li]; exact (bP.mp hx).1
  have hx':x=.int (S.ins j):=by
   have:=(B6 hx).symm.trans (a1T (S:=S) hj);exact bG this
  subst hx';have s1:=Same.new hqq (.tup [V.int (j:Int),.int (S.ins j)]);have e2:=e1.trans s1;have ht2:=s1 _ _ ht;refine ⟨_,rfl,_,rfl,p,C,dx,_,_,rfl,e2 _ _ B.obj,T.cl,T.nM,rfl,_,_,rfl,rfl,_,rfl,?_⟩;have st:∀ v,b1g q S (j+1) v=b1g q S j v+(if S.ins j=v then S.T j q else 0):=λ v=>rfl;refine w6 (λ d=>?_) (λ d=>?_)
  ·have d':S.ins j<q:=by have:=of_decide_eq_true d; lia
   obtain ⟨rj,erj,arj⟩:=B.rs_at (i:=j) (by lia);refine ⟨_,rfl,p,C,dx,_,_,rfl,e2 _ _ B.obj,T.cl,T.nC,rfl,_,rfl,ca,_,_,_,rfl,rfl,SqL.of (e2 _ _ B.cel),arj,_,rfl,rj,_,_,_,rfl,rfl,SqL.of (e2 _ _ (B.row j rj erj)),Z3,?_⟩;refine ⟨_,rfl,_,rfl,tl,_,_,S.ins j,rfl,rfl,ht2,a2n (by simp; lia),?_⟩;refine ⟨_,_,rfl,e2.write htn,?_⟩;rw [upd_same]
   congr 2
   refine b0o ?_ λ u hu hne=>?_
   ·rw [st,if_pos rfl]
    have:b1g q S j (S.ins j)=0:=a2r λ i hi=>if_neg λ z=>absurd (inj i j (by lia) hj z) (by lia);rw [this]; lia
   ·rw [st,if_neg (bI hne)]; lia
  ·have d':¬ S.ins j<q:=λ z=>d (decide_eq_true (by lia))
   refine ⟨_,_,rfl,e2,?_⟩;rw [ht2]
   congr 2
   refine fX λ v hv=>?_;rw [st,if_neg (λ z=>d' (by rw [z]; exact dY.mp hv)),gP]
 ·intro σ H1 hM_; refine E9 λ G_ hG_=>?_; obtain ⟨o2,o3,rfl,e1,ht⟩:=hM_; subst hG_
  rw [li] at ht;refine ⟨_,rfl,k tl H1 e1 htn ?_⟩;rw [ht];unfold u9;rw [bO]; rfl
def b2p (C:aA):Sp:=λ vs H Q _=>∃ (p dx ca oa ia:aA) (rs:List aA) (m q:Nat) (S:Lp.Bo),vs=[.ref p]/\Bd C H p dx ca oa ia rs m q S/\m<900/\q<900/\(∀ j k,j<q->k<q->S.outs j=S.outs k->j=k)/\(∀ j,j<q->S.outs j<q+m) ∧
 ∀ (r:aA) (H':Hp),Same H H'->H r=none->H' r=some (.lst ((E4 m q S).map V.int))->Q (.ref r) H'
theorem scWts:m6 ["self","told","column","number"] ["self"] (j4 b3o):=⟨rfl,rfl,rfl,by decide +kernel,rfl,by decide +kernel,by decide +kernel⟩
theorem b2B (F:Fun K "weights" "Board.weights" b3o f fd) (N:x8 mg) (T:TB K C):FnOk P w K mg base E1 (n+1) f fd ["self"] (b2p C):=by
 refine F.ok scWts (λ vs H Q E h=>?_) (λ cdv A outer s H vs Q E hr h=>?_)
 ·obtain ⟨p,dx,ca,oa,ia,rs,m,q,S,rfl,_⟩:=h
  rfl
 obtain ⟨p,dx,ca,oa,ia,rs,m,q,S,rfl,B,hm,hq,inj,ob,k⟩:=h;refine ⟨_,j0 (o7 (i:=1) scWts.nd rfl (aM rfl) (j7 U0 (v7 (d0 i8 h8)) (j8 m8 rfl N.len cD (d0 (t9 (pv 0) rfl) h8))))
  (j0 (T6 fQ rfl (a4b K rfl rfl N.enum (d0 (t9 (pv 0) rfl) h8)) (Q8 K (n:=2) rfl rfl (r9 (m9 (i:=2) scWts.nd rfl (aM rfl)) (r9 (m9 (i:=3) scWts.nd rfl (aM rfl)) C2)))
   (j5 (w8 (r6 a4W (pv 3) (t9 (pv 0) rfl) (r8 _)) (j5 (K5 (p7 j9 (p7 j9 (t9 (pv 0) rfl) (R9 K3 i8) (λ _ _=>rfl)) (pv 2) (λ _ _=>rfl)) (T1 (pv 1) (j7 a6c (pv 3) (t9 (pv 0) rfl)) J6))) t7)))
  (j5 (o8 (pv 1)))),?_⟩
 have sl:=p6 (show m<=1000 by lia);have li:((S2 m S).map V.int).length=m:=by unfold S2; simp
 have lo:((M9 q S).map V.int).length=q:=by unfold M9; simp
 refine ⟨(by show 1<=sizeLine; decide),λ z hz=>?_⟩;have ez:=Same.new hz (.lst [.int 0]);refine ⟨_,rfl,p,C,dx,_,_,rfl,ez _ _ B.obj,T.cl,T.nI,rfl,ia,_,rfl,.inl (SqL.of (ez _ _ B.inn)),z,_,_,rfl,rfl,upd_same,(by lia),(by lia),(by rw [li,bW]; simp; lia),λ tl htl=>?_⟩;rw [li,bW,a4q];have htn:H tl=none:=by
  cases q1:H tl with
  | none=>rfl
  | some o=>rw [ez _ _ q1] at htl; cases htl
 have e0:Same H (upd (upd H z (.lst [.int 0])) tl (.lst ((aR m).map λ _=>V.int 0))):=ez.write htn;refine ⟨_,rfl,p,C,dx,_,_,rfl,e0 _ _ B.obj,T.cl,T.nO,rfl,oa,rfl,⟨_,SqL.of (e0 _ _ B.out)⟩,?_⟩;refine a2o (xs:=(M9 q S).map V.int) (i1:=2) (i2:=3) (λ j σ H'=>∃ o2 o3:Option V,σ=[some (.ref p),some (.ref tl),o2,o3]/\Same H H'/\H' tl=some (.lst ((aR m).map λ v=>V.int (a6U m S j (q+v)))))
  ⟨_,_,rfl,e0,by rw [upd_same]; rfl⟩ (λ j σ H' ⟨_,_,_,e,_⟩=>SqL.of (e _ _ B.out)) ?_ ?_
 ·rintro j x σ H1 qq hx ⟨o2,o3,rfl,e1,ht⟩ hqq
  have hj:j<q:=by rw [<- lo]; exact (bP.mp hx).1
  have hx':x=.int (S.outs j):=by
   have:=(B6 hx).symm.trans (a2q (S:=S) hj);exact bG this
  subst hx';have s1:=Same.new hqq (.tup [V.int (j:Int),.int (S.outs j)]);have e2:=e1.trans s1;have ht2:=s1 _ _ ht;refine ⟨_,rfl,_,rfl,p,C,dx,_,_,rfl,e2 _ _ B.obj,T.cl,T.nM,rfl,_,_,rfl,rfl,_,rfl,?_⟩;have st:∀ v,a6U m S (j+1) v=a6U m S j v+(if S.outs j=v then S.T m j else 0):=λ v=>rfl;have hob:=ob j hj;refine w6 (λ d=>?_) (λ d=>?_)
  ·have d':q<=S.outs j:=by have:=of_decide_eq_true d; lia
   obtain ⟨rm,erm,arm⟩:=B.rs_last;refine ⟨_,rfl,p,C,dx,_,_,rfl,e2 _ _ B.obj,T.cl,T.nC,rfl,_,rfl,ca,_,_,_,rfl,rfl,SqL.of (e2 _ _ B.cel),arm,_,rfl,rm,_,_,_,rfl,rfl,SqL.of (e2 _ _ (B.row m rm erm)),Z7 (by lia),?_⟩;refine ⟨_,rfl,_,rfl,_,rfl,p,C,dx,_,_,rfl,e2 _ _ B.obj,T.cl,T.nM,rfl,_,_,rfl,rfl,tl,_,_,S.outs j - q,rfl,rfl,ht2,?_,?_⟩
   ·rw [show ((S.outs j:Int) - (q:Int))=((S.outs j - q:Nat):Int) by lia]
    exact a2n (by simp; lia)
   refine ⟨_,_,rfl,e2.write htn,?_⟩;rw [upd_same]
   congr 2
   refine b0o ?_ λ u hu hne=>?_
   ·rw [st,if_pos (by lia)]
    have:a6U m S j (q+(S.outs j - q))=0:=a2r λ i hi=>if_neg λ z=>absurd (inj i j (by lia) hj (by lia)) (by lia);rw [this]; lia
   ·rw [st,if_neg (by lia)]; lia
  ·have d':¬ q<=S.outs j:=λ z=>d (decide_eq_true (by lia))
   refine ⟨_,_,rfl,e2,?_⟩;rw [ht2]
   congr 2
   refine fX λ v hv=>?_;rw [st,if_neg (by lia),gP]
 ·intro σ H1 hM_; refine E9 λ G_ hG_=>?_; obtain ⟨o2,o3,rfl,e1,ht⟩:=hM_; subst hG_
  rw [lo] at ht;refine ⟨_,rfl,k tl H1 e1 htn ?_⟩;rw [ht];unfold E4;rw [bO]; rfl
end
def U7 (rows:List (List Int)):Nat->Nat->Int:=λ i j=>(rows.getD i []).getD j 0
def J8 (l:List Int):Nat->Int:=λ i=>l.getD i 0
abbrev RowsL (K:aE) (H:Hp):List V->List (List Int)->Prop:=cW λ v row=>∃ a,v=.ref a/\SqL K H a (row.map V.int)
section
variable {P:aL} {w:aI} {K:aE} {mg:Str->Option aC} {base:aG} {f g c Pt:aA} {fd gd:aJ} {n:Nat} {C:aA}
def a9a (K:aE) (C:aA):Sp:=λ vs H Q _=>∃ (p dx ga ra ba:aA) (goal:List Int) (rvs:List V) (rows:List (List Int)) (bounds:List Int) (m q:Nat),vs=[.ref p,.ref ga,.ref ra,.ref ba]/\H p=some (.ins C dx [])/\SqL K H ga (goal.map V.int)/\SqL K H ra rvs ∧
 RowsL K H rvs rows/\SqL K H ba (bounds.map V.int)/\rows.length=m/\bounds.length=m/\goal.length=q/\(∀ r∈rows,r.length=q)/\m<900/\q<900 ∧
 ∀ (H':Hp) (ca oa ia:aA) (rs:List aA),Bd C H' p dx ca oa ia rs m q (Lp.S0 m q (U7 rows) (J8 bounds) (J8 goal))->(∀ b o,b≠p->H b=some o->H' b=some o)->H oa=none->H ia=none->Q .non H'
theorem b3p:m6 ["self","goal","rows","bounds"] ["self","goal","rows","bounds"] (j4 a4Q):=⟨rfl,rfl,rfl,by decide +kernel,rfl,by decide +kernel,by decide +kernel⟩
theorem b5k:(["row","bound"]:List Str).Nodup:=by decide +kernel
theorem b6a:(["one"]:List Str).Nodup:=by decide +kernel
noncomputable def b4v {cdv:aC} {A:aY} {outer:List Env} {s:aD} {H:Hp} {E:XK} (N:x8 mg) :
  { t:TS // PSs (M0 E1 P w K mg base ["self","goal","rows","bounds"] "Board.__init__" (j4 a4Q) f cdv A outer s H E).nox (w4 a4Q) t } :=
 ⟨_,j0 (K2 (pv 0) (j8 m8 rfl N.len cD (d0 (pv 1) h8)) rfl)
  (j0 (K2 (pv 0) i8 rfl)
  (v6 (K2 (pv 0) (R5 ["row","bound"] [] rfl (a7j true true K rfl rfl N.zip (d0 (pv 2) (d0 (pv 3) h8)))
   (λ _ _ _ _=>Q8 K (n:=2) rfl rfl (r9 (m9 (i:=0) b5k rfl (aM rfl)) (r9 (m9 (i:=1) b5k rfl (aM rfl)) C2)))
   (λ _ _ _ _=>j7 B8 (v8 (a7m K rfl) rfl N.list fG (d0 (pv 0) h8)) (v7 (d0 (pv 1) h8)))) rfl)
  (v6 (E8 (a5d lY lZ mD N4 (t9 (pv 0) rfl)
   (d0 (j7 B8 (R5 ["one"] [] rfl (J7 (pv 1)) (λ _ _ _ _=>m9 (i:=0) b6a rfl (aM rfl)) (λ _ _ _ _=>R9 K3 (pv 0))) (v7 (d0 i8 h8))) h8)))
  (j0 (K2 (pv 0) (v8 (a0o rfl) rfl N.list fG (d0 (v8 a7w rfl N.range vG (d0 (t9 (pv 0) rfl) h8)) h8)) rfl)
  (j5 (K2 (pv 0) (v8 (a0o rfl) rfl N.list fG (d0 (v8 a7C rfl N.range vG (d0 (t9 (pv 0) rfl) (d0 (j7 D0 (t9 (pv 0) rfl) (j8 m8 rfl N.len cD (d0 (pv 2) h8))) h8))) h8)) rfl))))))⟩
end
theorem b3I {m q i:Nat} {rows:List (List Int)} {bounds goal row:List Int} {b:Int} (hr:rows[i]?=some row) (hb:bounds[i]?=some b) (hl:row.length=q) (hi:i<m) :
  row++[b]=A5 q (Lp.S0 m q (U7 rows) (J8 bounds) (J8 goal)) i:=by
 refine eD λ j=>?_;unfold A5
 by_cases hj:j<q+1
 ·rw [aQ,bZ hj,hW]
  have hT:(Lp.S0 m q (U7 rows) (J8 bounds) (J8 goal)).T i j=if j<q then U7 rows i j else J8 bounds i:=by
   show (if j<q then (if i<m then _ else _) else (if i<m then _ else _))=_
   rw [if_pos hi,if_pos hi]
  rw [hT]
  by_cases h:j<q
  ·rw [dB (by lia),if_pos h]
   unfold U7;rw [aZ,aZ,hr,gE,aV (by lia),gE]
  ·rw [dP (by lia),if_neg h,hl,show j - q=0 by lia]
   unfold J8;rw [aZ,hb]; rfl
 ·rw [cK (by simp; lia),cK (by simp; lia)]
theorem b0Z {m q:Nat} {rows:List (List Int)} {bounds goal:List Int} (hl:goal.length=q):goal.map (λ x=>-x)++[0]=A5 q (Lp.S0 m q (U7 rows) (J8 bounds) (J8 goal)) m:=by
 refine eD λ j=>?_;unfold A5
 by_cases hj:j<q+1
 ·rw [aQ,bZ hj,hW]
  have hT:(Lp.S0 m q (U7 rows) (J8 bounds) (J8 goal)).T m j=if j<q then - J8 goal j else 0:=by
   show (if j<q then (if m<m then _ else _) else (if m<m then _ else _))=_
   rw [if_neg (cN _),if_neg (cN _)]
  rw [hT]
  by_cases h:j<q
  ·rw [dB (by simp; lia),if_pos h,aQ]
   unfold J8;rw [aZ,aV (by lia),hW,gE]
  ·rw [dP (by simp; lia),if_neg h,aH,hl,show j - q=0 by lia]; rfl
 ·rw [cK (by simp; lia),cK (by simp; lia)]
theorem b1H {m q:Nat} {A:Nat->Nat->Int} {b c:Nat->Int}:((aR q).map λ (i:Nat)=>V.int (0+(i:Int)))=(M9 q (Lp.S0 m q A b c)).map V.int:=by
 unfold M9;rw [bO];refine fX λ j hj=>?_;have h:(Lp.S0 m q A b c).outs j=j:=if_pos (dY.mp hj);simp [h]
theorem b3k {m q:Nat} {A:Nat->Nat->Int} {b c:Nat->Int}:((aR m).map λ (i:Nat)=>V.int ((q:Int)+(i:Int)))=(S2 m (Lp.S0 m q A b c)).map V.int:=by
 unfold S2;rw [bO];refine fX λ j hj=>?_;have h:(Lp.S0 m q A b c).ins j=q+j:=rfl;simp [h]
section
variable {P:aL} {w:aI} {K:aE} {mg:Str->Option aC} {base:aG} {f g c Pt:aA} {fd gd:aJ} {n:Nat} {C:aA}
theorem Y6 {H H':Hp} {a p:aA} {xs:List V} {C dx:aA} {fs:List (Str×V)} (hp:H p=some (.ins C dx fs)) (e:∀ b o,b≠p->H b=some o->H' b=some o) (h:SqL K H a xs):SqL K H' a xs:=by
 rcases h with (h | ⟨o,h⟩) | h
 ·exact .inl (.inl (e _ _ (G9 h hp (by intro z; cases z)) h))
 ·exact .inl (.inr ⟨o,e _ _ (G9 h hp (by intro z; cases z)) h⟩)
 ·exact .inr h
theorem b0P (F:Fun K "__init__" "Board.__init__" a4Q f fd) (N:x8 mg) (T:TB K C):FnOk P w K mg base E1 (n+1) f fd ["self","goal","rows","bounds"] (a9a K C):=by
 refine F.ok b3p (λ vs H Q E h=>?_) (λ cdv A outer s H vs Q E hr h=>?_)
 ·obtain ⟨p,dx,ga,ra,ba,goal,rvs,rows,bounds,m,q,rfl,_⟩:=h
  rfl
 obtain ⟨p,dx,ga,ra,ba,goal,rvs,rows,bounds,m,q,rfl,hp,hg,hra,hrw,hba,lr,lb,lg,hrl,hm,hq,k⟩:=h;refine ⟨_,(b4v N).2,?_⟩;have lv:rvs.length=m:=by rw [<- lr]; exact dH hrw
 have k1:∀ b o,b≠p->H b=some o->upd (upd H p (.ins C dx [("many",.int q)])) p (.ins C dx [("many",.int q),("scale",.int 1)]) b=some o:=λ b o hb e=>by rw [i7 hb,i7 hb]; exact e
 refine ⟨_,rfl,ga,_,rfl,.inl hg,_,rfl,p,C,dx,_,rfl,hp,T.cl,T.nM,(by show 0<1000; decide),?_⟩;rw [aH,lg];refine ⟨_,rfl,p,C,dx,_,rfl,upd_same,T.cl,T.nS,(by show 1<1000; decide),?_⟩;refine ⟨λ σ' H4=>∃ (l:aA) (rs:List aA),σ'=[some (.ref p),some (.ref ga),some (.ref ra),some (.ref ba)]/\H4 p=some (.ins C dx [("many",.int q),("scale",.int 1),("cells",.ref l)])/\H4 l=some (.lst (rs.map V.ref))/\rs.length=m/\H l=none ∧
  (∀ i a,rs[i]?=some a->a≠l/\H4 a=some (.lst ((A5 q (Lp.S0 m q (U7 rows) (J8 bounds) (J8 goal)) i).map V.int)))/\∀ b o,b≠p->H b=some o->H4 b=some o,?_,?_⟩
 ·refine ⟨_,rfl,_,rfl,ra,ba,rfl,⟨_,Y6 hp k1 hra⟩,⟨_,Y6 hp k1 hba⟩,λ l hl=>?_⟩
  have nlp:p≠l:=i9 upd_same hl;have hl0:H l=none:=by
   rw [i7 nlp.symm,i7 nlp.symm] at hl; exact hl
  refine a8X (Y6 hp k1 hra) (Y6 hp k1 hba) hl (by rw [lv]; exact p6 (by lia)) (λ i y H2=>∃ a,y=.ref a/\a≠l/\H2 a=some (.lst ((A5 q (Lp.S0 m q (U7 rows) (J8 bounds) (J8 goal)) i).map V.int)))
   (λ i y H2 H3 ⟨a,h1,h2,h3⟩ e=>⟨a,h1,h2,e a _ h2 h3⟩) (λ i x y H2 zs N' hx hy e hl2 hN=>?_) (λ zs H2 e hl2 len pr=>?_)
  ·obtain ⟨row,hrow,⟨a,rfl,ha⟩⟩:=aS.at hrw hx
   rw [aQ] at hy
   cases hbi:bounds[i]? with
   | none=>rw [hbi] at hy; cases hy
   | some b =>
    rw [hbi] at hy;have hy':V.int b=y:=bG hy;subst hy';have hi:i<m:=by rw [<- lb]; exact (bP.mp hbi).1
    have hlen:=hrl row (bN hrow);have ha2:SqL K H2 a (row.map V.int):=e.seq (Y6 hp k1 ha);refine ⟨_,rfl,a,_,rfl,.inl ha2,λ a1 h1=>?_⟩;have s1:=Same.new h1 (.lst (row.map V.int));refine ⟨_,rfl,(by show 1<=sizeLine; decide),λ a2 h2=>?_⟩;have s2:=s1.trans (Same.new h2 (.lst [.int b]));have n12:a1≠a2:=i9 upd_same h2;refine ⟨a1,a2,_,_,rfl,rfl,(by rw [i7 n12]; exact upd_same),upd_same,?_,λ a3 h3=>?_⟩
    ·rw [aH,hlen]
     have:=p6 (show q+1<=1000 by lia);simp;lia
    ·refine hN _ _ (s2.trans (Same.new h3 _)) ⟨a3,rfl,λ z=>?_,?_⟩
     ·rw [z,s2 _ _ hl2] at h3; cases h3
     ·rw [upd_same,<- b3I hrow hbi hlen hi,cV]; rfl
  ·have hp2:=e _ _ (upd_same (H:=upd H p (.ins C dx [("many",.int q)])) (a:=p) (o:=.ins C dx [("many",.int q),("scale",.int 1)]))
   refine ⟨_,rfl,p,C,dx,_,rfl,hp2,T.cl,T.nC,(by show 2<1000; decide),?_⟩;have hzs:zs=(zs.map a7z).map V.ref:=by
    rw [bO];refine eD λ i=>?_;rw [aQ]
    cases qi:zs[i]? with
    | none=>rfl
    | some y =>
     obtain ⟨a,rfl,_⟩:=pr i y qi;rfl
   refine ⟨l,zs.map a7z,rfl,upd_same,by rw [i7 nlp.symm,hl2]; rw [<- hzs],by rw [aH,len,lv,aH,lb]; lia,hl0,λ i a hi=>?_,λ b o hb hbo=>by rw [i7 hb]; exact e _ _ (k1 b o hb hbo)⟩;rw [aQ] at hi
   cases qi:zs[i]? with
   | none=>rw [qi] at hi; cases hi
   | some y =>
    obtain ⟨a',rfl,h2,h3⟩:=pr i y qi;rw [qi] at hi;have:a'=a:=bG hi;subst this;refine ⟨h2,?_⟩;rw [i7 (λ z=>by rw [z,hp2] at h3; cases h3)];exact h3
 intro σ' H4 hM_; refine E9 λ G_ hG_=>?_; obtain ⟨l,rs,rfl,hp4,hl4,hlen,hl0,hrs,hk⟩:=hM_; subst hG_;have nlp:l≠p:=(i9 hp hl0).symm;refine ⟨λ σ' H5=>∃ rs':List aA,σ'=[some (.ref p),some (.ref ga),some (.ref ra),some (.ref ba)]/\H5 p=some (.ins C dx [("many",.int q),("scale",.int 1),("cells",.ref l)])/\H5 l=some (.lst (rs'.map V.ref))/\rs'.length=m+1 ∧
  (∀ i a,rs'[i]?=some a->a≠l/\H5 a=some (.lst ((A5 q (Lp.S0 m q (U7 rows) (J8 bounds) (J8 goal)) i).map V.int)))/\∀ b o,b≠p->H b=some o->H5 b=some o,?_,?_⟩
 ·refine ⟨_,rfl,p,C,dx,_,_,rfl,hp4,T.cl,T.nC,rfl,.inl ⟨rfl,_,SqL.of hl4⟩,?_⟩
  have hg4:=Y6 hp hk hg;refine ⟨_,rfl,ga,rfl,⟨_,hg4⟩,λ a1 h1=>?_⟩;refine T8 (D8 hg4) h1 (by rw [aH,lg]; exact p6 (by lia)) (λ x=>.int (-(vI x))) (λ i x H' N' hx e hN=>?_) ?_
  ·obtain ⟨x',rfl,_⟩:=a0J hx
   exact ⟨Wk.set (by decide),_,rfl,_,rfl,hN⟩
  have eg:(goal.map V.int).map (λ x=>V.int (-(vI x)))=(goal.map λ x=>-x).map V.int:=by rw [bO,bO]; rfl
  rw [eg];have s1:=Same.new h1 (.lst ((goal.map λ x=>-x).map V.int));refine ⟨(by show 1<=sizeLine; decide),λ a2 h2=>?_⟩;have s2:=s1.trans (Same.new h2 (.lst [.int 0]));have n12:a1≠a2:=i9 upd_same h2;refine ⟨a1,a2,_,_,rfl,rfl,(by rw [i7 n12]; exact upd_same),upd_same,?_,λ a3 h3=>?_⟩
  ·rw [aH,aH,lg]
   have:=p6 (show q+1<=1000 by lia);simp;lia
  have s3:=s2.trans (Same.new h3 (.lst ((goal.map λ x=>-x).map V.int++[.int 0])));refine ⟨l,_,_,rfl,rfl,s3 _ _ hl4,(by rw [aH,hlen]; exact p6 (by lia)),?_⟩;have n3l:a3≠l:=λ z=>by rw [z,s2 _ _ hl4] at h3; cases h3
  have n3p:a3≠p:=λ z=>by rw [z,s2 _ _ hp4] at h3; cases h3
  refine ⟨rs++[a3],rfl,by rw [i7 nlp.symm]; exact s3 _ _ hp4,by rw [upd_same,cV]; rfl,by rw [bF,hlen]; rfl,λ i a hi=>?_,λ b o hb hbo=>by rw [i7 (i9 hbo hl0)]; exact s3 _ _ (hk b o hb hbo)⟩
  by_cases him:i<m
  ·rw [dB (by lia)] at hi
   obtain ⟨g1,g2⟩:=hrs i a hi;exact ⟨g1,by rw [i7 g1]; exact s3 _ _ g2⟩
  ·rw [dP (by lia)] at hi
   have hi0:i - rs.length=0:=by
    cases z:i - rs.length with
    | zero=>rfl
    | succ j=>rw [z] at hi; simp at hi
   rw [hi0] at hi;have:a3=a:=bG hi;subst this;have:i=m:=by lia
   subst this;refine ⟨n3l,?_⟩;rw [i7 n3l,upd_same,<- b0Z lg,cV]; rfl
 intro σ' H5 hM_; refine E9 λ G_ hG_=>?_; obtain ⟨rs',rfl,hp5,hl5,hlen5,hrs5,hk5⟩:=hM_; subst hG_;refine ⟨_,rfl,p,C,dx,_,_,rfl,hp5,T.cl,T.nM,rfl,q,rfl,λ r1 h1=>?_⟩;have s1:=Same.new h1 (.rng 0 (q:Int));refine ⟨r1,0,q,rfl,by rw [upd_same,lW],by lia,by lia,by lia,λ oa hoa=>?_⟩;have s2:=s1.trans (Same.new hoa (.lst ((aR q).map λ (i:Nat)=>V.int (0+(i:Int)))));have noa5:H5 oa=none:=by
  cases z:H5 oa with
  | none=>rfl
  | some o=>rw [s1 _ _ z] at hoa; cases hoa
 have nop:oa≠p:=(i9 hp5 noa5).symm;refine ⟨_,rfl,p,C,dx,_,rfl,s2 _ _ hp5,T.cl,T.nO,(by show 3<1000; decide),?_⟩;have hra5:=Y6 hp hk5 hra;have lp5:SqL K (upd (upd (upd H5 r1 (.rng 0 (q:Int))) oa (.lst ((aR q).map λ (i:Nat)=>V.int (0+(i:Int))))) p (.ins C dx [("many",.int q),("scale",.int 1),("cells",.ref l),("outs",.ref oa)])) ra rvs :=
  Y6 (s2 _ _ hp5) (λ b o hb e=>by rw [i7 hb]; exact e) (s2.seq hra5)
 refine ⟨_,rfl,p,C,dx,_,_,rfl,upd_same,T.cl,T.nM,rfl,_,rfl,p,C,dx,_,_,rfl,upd_same,T.cl,T.nM,rfl,_,rfl,ra,_,rfl,.inl lp5,_,_,rfl,rfl,_,_,rfl,λ r2 h2=>?_⟩;rw [lv];refine ⟨r2,(q:Int),m,rfl,upd_same,by lia,by lia,by lia,λ ia hia=>?_⟩;have n2p:r2≠p:=(i9 upd_same h2).symm;have nip:ia≠p:=by
  refine (i9 (H:=_) (o:=.ins C dx [("many",.int q),("scale",.int 1),("cells",.ref l),("outs",.ref oa)]) ?_ hia).symm;rw [i7 n2p.symm,upd_same]; rfl
 have oa6:∀ o,upd (upd (upd H5 r1 (.rng 0 (q:Int))) oa o) p (.ins C dx [("many",.int q),("scale",.int 1),("cells",.ref l),("outs",.ref oa)]) oa=some o:=λ o=>by rw [i7 nop,upd_same]
 have n2o:r2≠oa:=(i9 (oa6 _) h2).symm;have nio:ia≠oa:=by
  refine (i9 (H:=_) (o:=.lst ((aR q).map λ (i:Nat)=>V.int (0+(i:Int)))) ?_ hia).symm;rw [i7 n2o.symm]; exact oa6 _
 have up:∀ b o,b≠p->H5 b=some o->b≠ia/\b≠r2/\upd (upd H5 r1 (.rng 0 (q:Int))) oa (.lst ((aR q).map λ (i:Nat)=>V.int (0+(i:Int)))) b=some o:=λ b o hb e=>by
  have e2:=s2 _ _ e;have nb2:b≠r2:=by
   refine i9 (H:=_) (o:=o) ?_ h2;rw [i7 hb]; exact e2
  refine ⟨?_,nb2,e2⟩;refine i9 (H:=_) (o:=o) ?_ hia;rw [i7 nb2,i7 hb]; exact e2
 refine ⟨_,rfl,p,C,dx,_,rfl,(by rw [i7 nip.symm,i7 n2p.symm]; exact upd_same),T.cl,T.nI,(by show 4<1000; decide),?_⟩;have fin:∀ b o,b≠p->H5 b=some o->upd (upd (upd (upd (upd (upd H5 r1 (.rng 0 (q:Int))) oa (.lst ((aR q).map λ (i:Nat)=>V.int (0+(i:Int))))) p (.ins C dx [("many",.int q),("scale",.int 1),("cells",.ref l),("outs",.ref oa)])) r2 (.rng (q:Int) ((q:Int)+(m:Int)))) ia (.lst ((aR m).map λ (i:Nat)=>V.int ((q:Int)+(i:Int))))) p (.ins C dx [("many",.int q),("scale",.int 1),("cells",.ref l),("outs",.ref oa),("ins",.ref ia)]) b=some o:=λ b o hb e=>by
  obtain ⟨g1,g2,g3⟩:=up b o hb e;rw [i7 hb,i7 g1,i7 g2,i7 hb]; exact g3
 have ia5:H5 ia=none:=by
  cases z:H5 ia with
  | none=>rfl
  | some o=>exact absurd rfl (up ia o nip z).1
 have back:∀ b,b≠p->H5 b=none->H b=none:=λ b hb z=>by
  cases z2:H b with
  | none=>rfl
  | some o=>rw [hk5 b o hb z2] at z; cases z
 refine k _ l oa ia rs' ⟨upd_same,fin _ _ nlp hl5,hlen5,λ i a hi=>fin _ _ (λ z=>?_) (hrs5 i a hi).2,?_,?_,nio.symm⟩ (λ b o hb hbo=>fin b o hb (hk5 b o hb hbo)) (back _ nop noa5) (back _ nip ia5)
 ·have:=(hrs5 i a hi).2
  rw [z,hp5] at this; cases this
 ·rw [i7 nop,i7 nio.symm,i7 n2o.symm,i7 nop,upd_same,b1H]
 ·rw [i7 nip,upd_same,b3k]
end
section
variable {P:aL} {w:aI} {K:aE} {mg:Str->Option aC} {base:aG} {f Pt:aA} {fd:aJ} {n:Nat} {C:aA}
def R0 (K:aE) (C Pt:aA):Sp:=λ vs H Q _=>∃ (ga ra ba:aA) (goal:List Int) (rvs:List V) (rows:List (List Int)) (bounds:List Int) (m q M:Nat),vs=[.ref ga,.ref ra,.ref ba]/\SqL K H ga (goal.map V.int)/\SqL K H ra rvs ∧
 RowsL K H rvs rows/\SqL K H ba (bounds.map V.int)/\rows.length=m/\bounds.length=m/\goal.length=q/\(∀ r∈rows,r.length=q)/\m<900/\q<900/\(∀ i,i<m->0<=J8 bounds i) ∧
 (∀ v,Lp.Fits M (m+1) (Lp.Vv m q (U7 rows) (J8 bounds) (J8 goal) v))/\Lp.bnd M (m+1)<2 ^ 4000/\LT Pt H ∧
 (∀ (S:Lp.Bo) (H':Hp) (t aa wa:aA),Lp.Of m q (U7 rows) (J8 bounds) (J8 goal) S->(∀ j,j<q->¬ S.T m j<0)->Sz 4000 m q S->Same1 Pt H H'->LT Pt H'->H' t=some (.tup [.int (S.T m q),.ref aa,.ref wa,.int S.d]) →
  H' aa=some (.lst ((u9 m q S).map V.int))->H' wa=some (.lst ((E4 m q S).map V.int))->Q (.ref t) H') ∧
 ∀ (S:Lp.Bo) (H':Hp) (c:Nat),Lp.Of m q (U7 rows) (J8 bounds) (J8 goal) S->c<q->S.T m c<0->(∀ i,i<m->¬ 0<S.T i c)->Same1 Pt H H'->LT Pt H'->Q .non H'
theorem scGr:m6 ["goal","rows","bounds","board","column","row"] ["goal","rows","bounds"] (j4 N5):=⟨rfl,rfl,rfl,by decide +kernel,rfl,by decide +kernel,by decide +kernel⟩
structure b4J (P:aL) (w:aI) (K:aE) (mg:Str->Option aC) (base:aG) (n:Nat) (C Pt:aA) (f1 f2 f3 f4 f5 f6:aA) (d1 d2 d3 d4 d5 d6:aJ):Prop where
 mak:Mk K C f1
 ini:FnOk P w K mg base E1 n f1 d1 ["self","goal","rows","bounds"] (a9a K C)
 inb:Binds K d1 ["self","goal","rows","bounds"] []
 mC:mg "Board"=some (.ref C)
 com:a7y P w K mg base n C "coming" ["self"] (a2v C Pt) f2 d2
 goi:a7y P w K mg base n C "going" ["self","column"] (a6W C) f3 d3
 exc:a7y P w K mg base n C "exchange" ["self","row","column"] (a2x C) f4 d4
 amt:a7y P w K mg base n C "amounts" ["self"] (a9X C) f5 d5
 wts:a7y P w K mg base n C "weights" ["self"] (b2p C) f6 d6
noncomputable def grT {cdv:aC} {A:aY} {outer:List Env} {s:aD} {H:Hp} {E:XK} {f1 f2 f3 f4 f5 f6:aA} {d1 d2 d3 d4 d5 d6:aJ} (T:TB K C) (G:b4J P w K mg base n C Pt f1 f2 f3 f4 f5 f6 d1 d2 d3 d4 d5 d6)
  (hr:Room (n+1) (A.deeper (fY "greatest" (j4 N5) s.heap.objs.size f cdv))) (hr0:Room n (A.deeper (fY "greatest" (j4 N5) s.heap.objs.size f cdv))) :
  { t:TS // PSs (M0 E1 P w K mg base ["goal","rows","bounds","board","column","row"] "greatest" (j4 N5) f cdv A outer s H E).nox (w4 N5) t } :=
 ⟨_,j0 (o7 (i:=3) scGr.nd rfl (aM rfl) (a6E G.mak G.ini hr rfl G.mC G.inb .nil v5 (d0 (pv 0) (d0 (pv 1) (d0 (pv 2) h8)))))
  (j0 (o7 (i:=4) scGr.nd rfl (aM rfl) (X7 (pv 3) T.cl G.com.me G.com.ok hr0 G.com.bd .nil v5))
  (j0 (a4O fQ (r6 b1G (pv 4) M2 (r8 _))
   (j0 (o7 (i:=5) scGr.nd rfl (aM rfl) (Q4 (pv 3) T.cl G.goi.me G.goi.ok hr0 G.goi.bd .nil v5 (d0 (pv 4) h8)))
   (j0 (w8 (r6 a0Z (pv 5) M2 (r8 _)) (j5 (o8 M2)) t7)
   (j0 (E8 (Q4 (pv 3) T.cl G.exc.me G.exc.ok hr0 G.exc.bd .nil v5 (d0 (pv 5) (d0 (pv 4) h8))))
   (j5 (o7 (i:=4) scGr.nd rfl (aM rfl) (X7 (pv 3) T.cl G.com.me G.com.ok hr0 G.com.bd .nil v5)))))))
  (j5 (o8 (D3 (d0 (p7 j9 (p7 j9 (t9 (pv 3) rfl) (R9 K3 i8) (λ _ _=>rfl)) (R9 K3 i8) (λ _ _=>rfl))
   (d0 (X7 (pv 3) T.cl G.amt.me G.amt.ok hr0 G.amt.bd .nil v5) (d0 (X7 (pv 3) T.cl G.wts.me G.wts.ok hr0 G.wts.bd .nil v5) (d0 (t9 (pv 3) rfl) h8)))))))))⟩
end
section
variable {P:aL} {w:aI} {K:aE} {mg:Str->Option aC} {base:aG} {f Pt:aA} {fd:aJ} {n:Nat} {C:aA}
theorem RowsL.same {H H':Hp} {vs:List V} {rs:List (List Int)} (e:Same H H') (x:RowsL K H vs rs):RowsL K H' vs rs:=aS.imp' (λ _ _ ⟨a,z,q⟩=>⟨a,z,e.seq q⟩) x
theorem b4M {m q M:Nat} {A:Nat->Nat->Int} {b c:Nat->Int} {S:Lp.Bo} (O:Lp.Of m q A b c S) (hM:∀ v,Lp.Fits M (m+1) (Lp.Vv m q A b c v)) (hb:Lp.bnd M (m+1)<2 ^ 4000):Sz 4000 m q S :=
 ⟨λ i j hi hj=>eJ (O.w.bndT hM hi hj) hb,eJ (O.w.bndd hM) hb⟩
def Cv (m q:Nat) (S:Lp.Bo) (cv:V):Prop:=(cv=.non/\∀ j,j<q->¬ S.T m j<0)\/∃ c:Nat,cv=.int c/\c<q/\S.T m c<0/\∀ i,i<q->S.T m i<0->S.outs c<=S.outs i
theorem a5h {f1 f2 f3 f4 f5 f6:aA} {d1 d2 d3 d4 d5 d6:aJ} (F:Fun K "greatest" "greatest" N5 f fd) (T:TB K C) (G:b4J P w K mg base n C Pt f1 f2 f3 f4 f5 f6 d1 d2 d3 d4 d5 d6) :
  FnOk P w K mg base E1 (n+2) f fd ["goal","rows","bounds"] (R0 K C Pt):=by
 refine F.ok scGr (λ vs H Q E h=>?_) (λ cdv A outer s H vs Q E hr h=>?_)
 ·obtain ⟨ga,ra,ba,goal,rvs,rows,bounds,m,q,M,rfl,_⟩:=h
  rfl
 obtain ⟨ga,ra,ba,goal,rvs,rows,bounds,m,q,M,rfl,hg,hra,hrw,hba,lr,lb,lg,hrl,hm,hq,hbn,hM,hB,L,kT,kN⟩:=h;refine ⟨_,(grT T G hr (hr.mono (by lia))).2,?_⟩;refine ⟨_,rfl,_,rfl,_,rfl,λ p dx hp hdx hne=>?_⟩;have e0:Same H (upd (upd H dx (.own p)) p (.ins C dx [])):=λ b o q'=>by rw [i7 (i9 q' hp),i7 (i9 q' hdx)]; exact q'
 refine ⟨p,dx,ga,ra,ba,goal,rvs,rows,bounds,m,q,rfl,upd_same,e0.seq hg,e0.seq hra,hrw.same e0,e0.seq hba,lr,lb,lg,hrl,hm,hq,λ H1 ca oa ia rs B k1 hoa hia=>⟨rfl,?_⟩⟩;have nop:oa≠p:=G9 B.out B.obj (by intro z; cases z);have nip:ia≠p:=G9 B.inn B.obj (by intro z; cases z);have hoa0:H oa=none:=by
  cases z:H oa with
  | none=>rfl
  | some o=>rw [e0 _ _ z] at hoa; cases hoa
 have hia0:H ia=none:=by
  cases z:H ia with
  | none=>rfl
  | some o=>rw [e0 _ _ z] at hia; cases hia
 have s1:Same H H1:=λ b o z=>k1 b o (i9 z hp) (e0 _ _ z);have L1:LT Pt H1:=L.same s1;have O0:=Lp.of0 (A:=U7 rows) (c:=J8 goal) (q:=q) hbn;have come:∀ (S:Lp.Bo) (ca:aA) (rs:List aA) (H2:Hp) (R:V->Hp->Prop),Bd C H2 p dx ca oa ia rs m q S->LT Pt H2->Same1 Pt H H2->(∀ cv H3,Cv m q S cv->Bd C H3 p dx ca oa ia rs m q S->LT Pt H3->Same1 Pt H H3->R cv H3) →
   a2v C Pt [.ref p] H2 R E0:=λ S ca rs H2 R B2 L2 e2 hR=>by
  refine ⟨p,dx,ca,oa,ia,rs,m,q,S,rfl,B2,by lia,L2,λ H3 e3 L3=>?_⟩;have B3:=B2.lam L2 e3;have e4:Same1 Pt H H3:=λ b o hb z=>e3 b o hb (e2 b o hb z);exact ⟨λ hn=>hR _ _ (.inl ⟨rfl,hn⟩) B3 L3 e4,λ j hj hneg hmin=>hR _ _ (.inr ⟨j,rfl,hj,hneg,hmin⟩) B3 L3 e4⟩
 refine ⟨_,rfl,p,dx,_,rfl,B.obj,rfl,?_⟩;unfold b0A;refine come _ _ _ _ _ B L1 (λ b o _ z=>s1 b o z) λ cv H2 hcv B2 L2 e2=>?_;obtain ⟨kk,hkk⟩:=O0.w.ends hM;refine ⟨λ j σ H3=>∃ (S:Lp.Bo) (ca:aA) (rs:List aA) (cv:V) (o5:Option V),σ=[some (.ref ga),some (.ref ra),some (.ref ba),some (.ref p),some cv,o5]/\Lp.Of m q (U7 rows) (J8 bounds) (J8 goal) S/\Lp.Ends m q S j/\Cv m q S cv/\Bd C H3 p dx ca oa ia rs m q S/\LT Pt H3/\Same1 Pt H H3,
  ⟨kk,_,ca,rs,cv,_,rfl,O0,hkk,hcv,B2,L2,e2⟩,?_⟩
 rintro j σ H3 ⟨S,ca,rs,cv,o5,rfl,O,hE,hcv,B3,L3,e3⟩;have sz:=b4M O hM hB;refine ⟨_,rfl,rfl,_,rfl,?_⟩;rcases hcv with ⟨rfl,hn⟩ | ⟨c,rfl,hc,hneg,hmin⟩
 ·refine w6 (λ z=>?_) (λ _=>?_)
  ·exact absurd z (by decide)
  obtain ⟨rm,em,am⟩:=B3.rs_last;refine ⟨_,rfl,p,C,dx,_,_,rfl,B3.obj,T.cl,T.nC,rfl,_,rfl,ca,_,_,_,rfl,rfl,SqL.of B3.cel,am,_,rfl,rm,_,_,_,rfl,rfl,SqL.of (B3.row m rm em),Z3,?_⟩;refine ⟨_,rfl,p,dx,_,rfl,B3.obj,rfl,?_⟩;refine ⟨p,dx,ca,oa,ia,rs,m,q,S,rfl,B3,hm,hq,O.w.ii,λ aa H4 e4 haa h4=>?_⟩;have B4:Bd C H4 p dx ca oa ia rs m q S:=B3.same1 (P:=Pt) λ b o z _=>e4 b o z;refine ⟨_,rfl,p,dx,_,rfl,B4.obj,rfl,?_⟩;refine ⟨p,dx,ca,oa,ia,rs,m,q,S,rfl,B4,hm,hq,O.w.oo,O.w.ob,λ wa H5 e5 hwa h5=>?_⟩;have B5:Bd C H5 p dx ca oa ia rs m q S:=B4.same1 (P:=Pt) λ b o z _=>e5 b o z;refine ⟨_,rfl,p,C,dx,_,_,rfl,B5.obj,T.cl,T.nS,rfl,(by show 4<=sizeLine; decide),λ t ht=>?_⟩;have e6:=(e4.trans e5).trans (Same.new ht (.tup [.int (S.T m q),.ref aa,.ref wa,.int S.d]));refine kT S _ t aa wa O hn sz (λ b o hb z=>e6 b o (e3 b o hb z)) (L3.same e6) upd_same ?_ ?_
  ·rw [i7 (i9 (e5 _ _ h4) ht)]; exact e5 _ _ h4
  ·rw [i7 (i9 h5 ht)]; exact h5
 ·refine w6 (λ _=>?_) (λ z=>absurd rfl z)
  refine ⟨λ σ' H'=>∃ j',j'<j/\∃ (S:Lp.Bo) (ca:aA) (rs:List aA) (cv:V) (o5:Option V),σ'=[some (.ref ga),some (.ref ra),some (.ref ba),some (.ref p),some cv,o5]/\Lp.Of m q (U7 rows) (J8 bounds) (J8 goal) S/\Lp.Ends m q S j'/\Cv m q S cv/\Bd C H' p dx ca oa ia rs m q S/\LT Pt H'/\Same1 Pt H H',λ σ' H' z=>z,?_⟩;refine ⟨_,rfl,p,dx,_,rfl,B3.obj,rfl,_,rfl,?_⟩;refine ⟨p,dx,ca,oa,ia,rs,m,q,S,c,rfl,B3,sz,by lia,by lia,λ hnone=>?_,λ r hrm hpos hbet=>?_⟩
  ·refine ⟨_,rfl,rfl,_,rfl,?_⟩
   refine w6 (λ _=>?_) (λ z=>absurd (decide_eq_true rfl) z);exact kN S H3 c O hc hneg hnone e3 L3
  ·have Ch:Lp.Choice m q S r c:=⟨hc,hneg,hmin,hrm,hpos,λ i hi hp'=>(hbet i hi hp').1,λ i hi hp'=>(hbet i hi hp').2⟩
   refine ⟨_,rfl,rfl,_,rfl,?_⟩;refine w6 (λ z=>absurd (of_decide_eq_true z) (by nofun)) (λ _=>?_);refine ⟨_,rfl,p,dx,_,rfl,B3.obj,rfl,_,rfl,_,rfl,?_⟩;refine ⟨p,dx,ca,oa,ia,rs,m,q,S,r,c,rfl,B3,sz,hrm,hc,hm,hq,O.w.pos,λ H4 ca' rs' B4 k4=>?_⟩;have e4:Same1 Pt H H4:=λ b o hb z=>k4 b o (i9 z hp) (i9 z hoa0) (i9 z hia0) (e3 b o hb z);have tk:∀ b o,H3 b=some o->(∀ C dx fs,o≠.ins C dx fs)->(∀ xs,o≠.lst xs)->H4 b=some o:=λ b o z n1 n2=>k4 b o (λ y=>by subst y; rw [B3.obj] at z; exact n1 _ _ _ (bG z).symm) (λ y=>by subst y; rw [B3.out] at z; exact n2 _ (bG z).symm) (λ y=>by subst y; rw [B3.inn] at z; exact n2 _ (bG z).symm) z;have L4:LT Pt H4:=by
    rcases L3 with t | ⟨c',t1,t2⟩
    ·exact .inl (tk _ _ t (λ _ _ _=>nofun) λ _=>nofun)
    ·exact .inr ⟨c',tk _ _ t1 (λ _ _ _=>nofun) λ _=>nofun,tk _ _ t2 (λ _ _ _=>nofun) λ _=>nofun⟩
   refine ⟨_,rfl,p,dx,_,rfl,B4.obj,rfl,?_⟩;refine come _ _ _ _ _ B4 L4 e4 λ cv' H5 hcv' B5 L5 e5=>?_;obtain ⟨j',hj',hE'⟩:=hE.next O.w Ch;exact ⟨j',hj',_,ca',rs',cv',_,rfl,O.piv Ch,hE',hcv',B5,L5,e5⟩
end
section
variable {P:aL} {w:aI} {K:aE} {mg:Str->Option aC} {base:aG} {f g:aA} {fd gd:aJ}
def a6e (K:aE):Sp:=λ vs H Q _=>∃ (a:aA) (ns:List Int) (k:Int),vs=[.ref a,.int k]/\SqL K H a (ns.map V.int)/\0<=k/\∀ c:Int,Q (.int c) H
theorem b3C:m6 ["script","k"] ["script","k"] (j4 b0t):=⟨rfl,rfl,rfl,by decide +kernel,rfl,by decide +kernel,by decide +kernel⟩
theorem b2Z {ns:List Int} {k:Int} (h0:0<=k) (h:k<((ns.map V.int).length:Int)):∃ v:Int,atI (ns.map V.int) k=some (.int v):=by
 have hl:(ns.map V.int).length=ns.length:=aH _;have hk:k.toNat<ns.length:=by lia
 have ek:k=((k.toNat:Nat):Int):=by lia
 have q:atI (ns.map V.int) ((k.toNat:Nat):Int)=some (.int ns[k.toNat]):=B6 (by rw [aQ,aV hk]; rfl);rw [<- ek] at q;exact ⟨_,q⟩
theorem b1M {n:Nat} (F:Fun K "_law_cell_at" "_law_cell_at" b0t f fd) (T:x8 mg):FnOk P w K mg base E1 (n+1) f fd ["script","k"] (a6e K):=by
 refine F.ok b3C (λ vs H Q E h=>?_) (λ cdv A outer s H vs Q E hr h=>?_)
 ·obtain ⟨a,ns,k,rfl,_⟩:=h
  rfl
 obtain ⟨a,ns,k,rfl,hS,h0,q⟩:=h;refine ⟨_,j0 (w8 (r6 a0q (pv 1) (j8 m8 rfl T.len cD (d0 (pv 0) h8)) (r8 _)) (j5 (o8 (p7 j9 (pv 0) (pv 1) (λ _ _=>rfl)))) t7)
  (j5 (o8 i8)),?_⟩
 refine ⟨_,rfl,_,rfl,a,_,rfl,.inl hS,_,_,rfl,rfl,_,rfl,?_⟩;refine w6 (λ c=>?_) (λ c=>?_)
 ·obtain ⟨v,hv⟩:=b2Z h0 (of_decide_eq_true c)
  exact ⟨_,rfl,_,rfl,a,_,_,_,rfl,rfl,hS,hv,q v⟩
 ·exact q 0
def a4i (K:aE):Sp:=λ vs H Q _=>∃ (c:Int) (many:Nat) (b:Int),vs=[.int c,.int (many:Int),.int b]/\many<=900/\0<b/\b<1073741824 ∧
 ∀ (r:aA) (H':Hp) (ds:List Int),Same H H'->H' r=some (.lst (ds.map V.int))->ds.length=many->(∀ d∈ds,0<=d/\d<b)->Q (.ref r) H'
theorem scDraws:m6 ["cell","many","base","found","rest","stirred","k"] ["cell","many","base"] (j4 a5u):=⟨rfl,rfl,rfl,by decide +kernel,rfl,by decide +kernel,by decide +kernel⟩
theorem a9C {n:Nat} (F:Fun K "_law_draws" "_law_draws" a5u f fd) (T:x8 mg):FnOk P w K mg base E1 (n+1) f fd ["cell","many","base"] (a4i K):=by
 refine F.ok scDraws (λ vs H Q E h=>?_) (λ cdv A outer s H vs Q E hr h=>?_)
 ·obtain ⟨a,ns,k,rfl,_⟩:=h
  rfl
 obtain ⟨c,many,b,rfl,hm,hb0,hb1,q⟩:=h;refine ⟨_,j0 (o7 (i:=3) scDraws.nd rfl (aM rfl) (v7 h8))
  (j0 (o7 (i:=4) scDraws.nd rfl (aM rfl) (j7 Y9 (pv 0) (v8 a3m rfl T.int qU (d0 (M7 a4W (pv 0) (j7 a1b i8 i8) (r8 _)) h8))))
  (j0 (o7 (i:=5) scDraws.nd rfl (aM rfl) (j7 A8 (pv 0) i8))
  (j0 (T6 fQ rfl (N0 rfl T.range (d0 (j7 D0 (pv 1) i8) h8)) (m9 (i:=6) scDraws.nd rfl (aM rfl))
   (j0 (o7 (i:=5) scDraws.nd rfl (aM rfl) (j7 A8 (j7 D0 (j7 D0 (j7 D0 (j7 Y9 (pv 5) (pv 5)) (j7 Y9 i8 (pv 5))) (pv 6)) i8) i8))
    (j5 (w8 (PW.pt (a3J (r6 a0s (pv 6) i8 (r8 _)) (a1X (r6 a0s (pv 4) i8 (r8 _)))))
     (j0 (E8 (a5d lY lZ mD N4 (pv 3) (d0 (j7 A8 (pv 4) (pv 2)) h8))) (j5 (o7 (i:=4) scDraws.nd rfl (aM rfl) (j7 a0e (pv 4) (pv 2)))))
     (j5 (w8 (r6 a0s (pv 6) i8 (r8 _)) (j5 (E8 (a5d lY lZ mD N4 (pv 3) (d0 (j7 A8 (j7 a0e (pv 5) i8) (pv 2)) h8)))) t7))))))
  (j5 (o8 (pv 3)))))),?_⟩
 refine ⟨(by show 0<=sizeLine; decide),λ fl hfl=>?_⟩;refine ⟨_,rfl,_,rfl,_,_,rfl,rfl,⟨by decide,by decide,by decide⟩,_,_,rfl,rfl,.inr ⟨_,rfl,_,_,rfl,rfl,.inr ?_,?_⟩⟩
 ·constructor <;> (split <;> decide)
 refine ⟨_,rfl,_,_,rfl,rfl,(by show (0:Int)<2305843009213693951; decide),?_⟩;refine ⟨_,rfl,_,_,rfl,rfl,((many:Int)+3),rfl,by lia,by lia,?_⟩;have e3:((many:Int)+3).toNat=many+3:=by lia
 rw [e3];refine a0m (n:=many+3) (λ i σ H'=>∃ (r st:Int) (ds:List Int) (ks:Option V),σ=[some (.int c),some (.int (many:Int)),some (.int b),some (.ref fl),some (.int r),some (.int st),ks]/\H'=upd H fl (.lst (ds.map V.int))/\ds.length=i - 3/\(∀ d∈ds,0<=d/\d<b)/\0<=st/\st<2305843009213693951)
  ⟨_,_,[],none,rfl,rfl,rfl,λ d hd=>(by cases hd),hX _ (by decide),eR _ (by decide)⟩ ?_ ?_
 ·rintro i σ H' hi ⟨r,st,ds,ks,rfl,rfl,hl,hd,hs0,hs1⟩
  refine ⟨_,rfl,_,rfl,_,_,rfl,rfl,.inl ⟨by lia,by lia⟩,_,rfl,_,_,rfl,rfl,.inl ⟨by decide,by decide⟩,_,_,rfl,rfl,_,rfl,_,_,rfl,rfl,_,_,rfl,rfl,_,_,rfl,rfl,(by show (0:Int)<2305843009213693951; decide),?_⟩;have hs0':0<=(st*st+48271*st+(0+(i:Int))+1) % 2305843009213693951:=hX _ (by decide);have hs1':(st*st+48271*st+(0+(i:Int))+1) % 2305843009213693951<2305843009213693951:=eR _ (by decide);refine ⟨_,rfl,_,_,rfl,rfl,_,rfl,?_⟩;have hz:(ds.map V.int).length<sizeLine:=by rw [aH]; exact p6 (by lia)
  have more:∀ d:Int,(ds.map V.int)++[V.int d]=(ds++[d]).map V.int:=λ d=>by rw [cV]; rfl
  have mem:∀ d:Int,0<=d->d<b->∀ d'∈ds++[d],0<=d'/\d'<b:=λ d h0 h1 d' hd'=>by
   rcases bU.mp hd' with z | z
   ·exact hd d' z
   ·rw [cX.mp z]; exact ⟨h0,h1⟩
  refine w6 (λ c1=>?_) (λ c1=>?_)
  ·have c1':2<0+(i:Int):=of_decide_eq_true c1
   refine ⟨_,rfl,_,_,rfl,rfl,_,rfl,?_⟩;refine w6 (λ c2=>?_) (λ c2=>?_)
   ·refine ⟨_,rfl,.inl ⟨rfl,_,SqL.of upd_same⟩,_,rfl,_,rfl,_,_,rfl,rfl,hb0,fl,_,_,rfl,rfl,upd_same,hz,?_⟩
    refine ⟨_,rfl,_,rfl,_,_,rfl,rfl,⟨hb0,hb1⟩,?_⟩;refine ⟨_,_,ds++[r % b],_,rfl,?_,?_,mem _ (hX _ (by lia)) (eR _ hb0),hs0',hs1'⟩
    ·rw [W2,more]
    ·rw [bF,fN]; lia
   ·refine ⟨_,rfl,_,_,rfl,rfl,_,rfl,?_⟩
    refine w6 (λ c3=>?_) (λ c3=>absurd c1 c3);refine ⟨_,rfl,.inl ⟨rfl,_,SqL.of upd_same⟩,_,rfl,_,_,rfl,rfl,⟨by decide,by decide⟩,_,rfl,_,_,rfl,rfl,hb0,fl,_,_,rfl,rfl,upd_same,hz,?_⟩;refine ⟨_,_,ds++[(st*st+48271*st+(0+(i:Int))+1) % 2305843009213693951 / 4096 % b],_,rfl,?_,?_,mem _ (hX _ (by lia)) (eR _ hb0),hs0',hs1'⟩
    ·rw [W2,more]
    ·rw [bF,fN]; lia
  ·have c1':¬ 2<0+(i:Int):=of_decide_eq_false (eW.mpr c1)
   refine a1Q ?_;refine ⟨_,rfl,_,_,rfl,rfl,_,rfl,?_⟩;refine w6 (λ c3=>absurd c3 c1) (λ c3=>?_);exact ⟨_,_,ds,_,rfl,rfl,by lia,hd,hs0',hs1'⟩
 ·intro σ H' hM_; refine E9 λ G_ hG_=>?_; obtain ⟨r,st,ds,ks,rfl,rfl,hl,hd,_⟩:=hM_; subst hG_
  exact ⟨_,rfl,q fl _ ds (Same.new hfl _) upd_same (by lia) hd⟩
end
theorem a0j {n:Nat} {k:Int} (h0:0<=k) (h1:k<(n:Int)):ixN n k=some k.toNat:=by
 unfold ixN;rw [if_pos h0,if_pos h1]
theorem b1o {α:Type} {xs:List α} {k:Int} (h0:0<=k) (h1:k<(xs.length:Int)):∃ v,v∈xs/\atI xs k=some v:=by
 have hk:k.toNat<xs.length:=by lia
 refine ⟨xs[k.toNat],fB hk,?_⟩;unfold atI;rw [a0j h0 h1];exact aV hk
theorem N7 {ns:List Int} {k:Int} (h0:0<=k) (h1:k<(ns.length:Int)):∃ v,v∈ns/\atI (ns.map V.int) k=some (.int v):=by
 obtain ⟨v,hv,e⟩:=b1o (xs:=ns.map V.int) h0 (by rw [aH]; exact h1);obtain ⟨n,hn,rfl⟩:=bL.mp hv;exact ⟨n,hn,e⟩
theorem map_set {ns:List Int} {j:Nat} {v:Int}:(ns.map V.int).set j (.int v)=(ns.set j v).map V.int:=by rw [qT]
structure HG (far:Int) (kt kg:Nat) (h:j3):Prop where
 lt:h.1.length=kt
 lg:h.2.length=kg
 t:∀ x∈h.1,1<=x/\x<=far
 g:∀ x∈h.2,0<=x/\x<=far
 p:∃ x∈h.2,0<x
section
variable {P:aL} {w:aI} {K:aE} {mg:Str->Option aC} {base:aG} {f g:aA} {fd gd:aJ}
def a5Q (K:aE):Sp:=λ vs H Q _=>∃ (v:V) (p:aA) (far:Int) (h:j3) (ds:List Int) (kt kg:Nat),vs=[v,.ref p,.int far]/\HS K H v h/\HG far kt kg h/\1<=kt/\kt<=4/\1<=kg/\kg<=4/\1<=far ∧
 SqL K H p (ds.map V.int)/\10<=ds.length/\(∀ d∈ds,0<=d)/\∀ (r:V) (H':Hp) (h':j3),Same H H'->HS K H' r h'->HG far kt kg h'->Q r H'
theorem scNear:m6 ["house","picks","far","takes","gives","by","at"] ["house","picks","far"] (j4 a9m):=⟨rfl,rfl,rfl,by decide +kernel,rfl,by decide +kernel,by decide +kernel⟩
theorem b0U:(["take","by"]:List Str).Nodup:=by decide +kernel
theorem b1f:(["give","by"]:List Str).Nodup:=by decide +kernel
theorem b1F {n:Nat} (F:Fun K "_law_near" "_law_near" a9m f fd) (T:x8 mg):FnOk P w K mg base E1 (n+1) f fd ["house","picks","far"] (a5Q K):=by
 refine F.ok scNear (λ vs H Q E h=>?_) (λ cdv A outer s H vs Q E hr h=>?_)
 ·obtain ⟨v,p,far,h,ds,kt,kg,rfl,_⟩:=h
  rfl
 obtain ⟨v,pk,far,h,ds,kt,kg,rfl,⟨a,t,gv,rfl,h0,h1,h2⟩,hG,kt1,kt4,kg1,kg4,hfar,hP,hd12,hd0,q⟩:=h;refine ⟨_,j0 (K5 (pv 0) (W9 rfl (r9 (m9 (i:=3) scNear.nd rfl (aM rfl)) (r9 (m9 (i:=4) scNear.nd rfl (aM rfl)) C2))))
  (j0 (o7 (i:=5) scNear.nd rfl (fO rfl) (p7 j9 (v7 (d0 i8 (d0 i8 (d0 i8 (d0 i8 h8))))) (j7 A8 (p7 j9 (pv 1) i8 (λ _ _=>rfl)) i8) (λ _ _=>rfl)))
  (v6 (w8 (r6 a0s (j7 Y9 (j8 (a1o rfl) rfl T.max qV (d0 (j7 a6m (pv 3) (pv 4)) h8)) (pv 5)) (pv 2) (r8 _)) (j5 (o7 (i:=5) scNear.nd rfl (fO rfl) i8)) t7)
  (j0 (a4P (i:=3) ["take"] [5] scNear.nd rfl rfl rfl (a1z (pv 3)) (λ _ _ _ _=>m9 (i:=0) b0U rfl (aM rfl)) (λ _ _ _ _=>j7 Y9 (pv 0) (pv 1)))
  (j0 (a4P (i:=4) ["give"] [5] scNear.nd rfl rfl rfl (a1z (pv 4)) (λ _ _ _ _=>m9 (i:=0) b1f rfl (aM rfl)) (λ _ _ _ _=>j7 Y9 (pv 0) (pv 1)))
  (v6 (w8 (r6 K8 (j7 A8 (j7 a0e (p7 j9 (pv 1) i8 (λ _ _=>rfl)) i8) i8) i8 (r8 _))
   (j0 (o7 (i:=6) scNear.nd rfl (aM rfl) (j7 A8 (p7 j9 (pv 1) i8 (λ _ _=>rfl)) (j8 m8 rfl T.len cD (d0 (pv 3) h8))))
    (j5 (K5 (j8 (a0a rfl) rfl T.min mF (d0 (pv 2) (d0 (j7 D0 (j7 D0 (p7 j9 (pv 3) (pv 6) (λ _ _=>rfl)) (j7 A8 (j7 a0e (p7 j9 (pv 1) i8 (λ _ _=>rfl)) i8) i8)) i8) h8))) (T1 (pv 3) (pv 6) J6)))) t7)
  (v6 (w8 (r6 K8 (j7 A8 (j7 a0e (p7 j9 (pv 1) i8 (λ _ _=>rfl)) i8) i8) i8 (r8 _))
   (j0 (o7 (i:=6) scNear.nd rfl (aM rfl) (j7 A8 (p7 j9 (pv 1) i8 (λ _ _=>rfl)) (j8 m8 rfl T.len cD (d0 (pv 4) h8))))
    (j5 (K5 (j8 (a0a rfl) rfl T.min mF (d0 (pv 2) (d0 (j7 D0 (p7 j9 (pv 4) (pv 6) (λ _ _=>rfl)) i8) h8))) (T1 (pv 4) (pv 6) J6)))) t7)
  (j5 (o8 (D3 (d0 (v8 J1 rfl T.tuple jK (d0 (pv 3) h8)) (d0 (v8 J1 rfl T.tuple jK (d0 (pv 4) h8)) h8))))))))))),?_⟩
 obtain ⟨d9,hd9,a9⟩:=N7 (ns:=ds) (k:=9) (by decide) (by lia);obtain ⟨d8,hd8,a8⟩:=N7 (ns:=ds) (k:=8) (by decide) (by lia);have p9:=hd0 d9 hd9;have p8:=hd0 d8 hd8;refine ⟨_,rfl,a,_,rfl,h0,rfl,_,_,rfl,_,_,rfl,rfl,?_⟩;refine ⟨(by show 4<=sizeLine; decide),λ lp hlp=>?_⟩;have s1:=Same.new hlp (.lst [V.int 1,V.int 1,V.int 2,V.int 3]);obtain ⟨bv,hbv,abv⟩:=N7 (ns:=[1,1,2,3]) (k:=d9 % 4) (by lia) (by show d9 % 4<4; lia);have hb:1<=bv/\bv<=3:=by
  simp at hbv;rcases hbv with rfl | rfl | rfl <;> decide
 refine ⟨_,rfl,pk,_,9,_,rfl,rfl,s1.seq hP,a9,_,_,rfl,rfl,(by show (0:Int)<4; decide),lp,_,_,_,rfl,rfl,SqL.of upd_same,abv,?_⟩;have l1:(h.1.map V.int).length=kt:=by rw [aH]; exact hG.lt
 have l2:(h.2.map V.int).length=kg:=by rw [aH]; exact hG.lg
 have hne:h.1++h.2≠[]:=λ z=>by
  have:=congrArg jW z;rw [bF,hG.lt] at this;simp at this;lia
 refine ⟨λ σ' H'=>∃ b:Int,σ'=[some (.ref a),some (.ref pk),some (.int far),some (.ref t),some (.ref gv),some (.int b),none]/\Same H H'/\(1<=b/\b<=3)/\∀ x∈h.1++h.2,x*b<=far,?_,?_⟩
 ·refine ⟨_,rfl,_,rfl,t,gv,_,_,rfl,rfl,s1.tseq h1,s1.tseq h2,?_,?_,?_,?_⟩
  ·intro z; rw [z] at l1; simp at l1; lia
  ·rw [l1,l2]; exact fJ (p6 (by lia))
  ·intro z; rw [z] at l2; simp at l2; lia
  ·intro _ pc hpc
   have s2:=Same.new hpc (.tup (h.1.map V.int++h.2.map V.int));refine ⟨pc,h.1++h.2,rfl,.inr (SqT.of (by rw [upd_same,cV])),hne,λ M hM hMx=>?_⟩;refine ⟨_,rfl,_,_,rfl,rfl,.inr ⟨by lia,by lia⟩,_,rfl,_,_,rfl,rfl,_,rfl,?_⟩;refine w6 (λ c=>?_) (λ c=>?_)
   ·refine ⟨1,rfl,s1.trans s2,by decide,λ x hx=>?_⟩
    rcases bU.mp hx with z | z
    ·have:=hG.t x z; lia
    ·have:=hG.g x z; lia
   ·have c':¬ far<M*bv:=of_decide_eq_false (eW.mpr c)
    refine ⟨bv,rfl,s1.trans s2,hb,λ x hx=>?_⟩;have:=fP (hMx x hx) (show 0<=bv by lia);lia
 intro σ' H2 hM_; refine E9 λ G_ hG_=>?_; obtain ⟨b,rfl,e2,hb,hbx⟩:=hM_; subst hG_;have mulok:CMul=CMul:=rfl;refine ⟨_,rfl,t,rfl,⟨_,e2.tseq h1⟩,λ tl htl=>?_⟩;refine T8 (Y4 (e2.tseq h1)) htl (by rw [l1]; exact p6 (by lia)) (λ x=>.int (vI x*b)) (λ i x H' N hx e hN=>?_) ?_
 ·obtain ⟨k,rfl⟩:=G3 hx
  exact ⟨Wk.set (by decide),_,rfl,_,rfl,_,_,rfl,rfl,.inr ⟨by lia,by lia⟩,hN⟩
 have e3:=e2.write (o:=.lst ((h.1.map V.int).map λ x=>.int (vI x*b))) (e2.free htl);refine ⟨_,rfl,gv,rfl,⟨_,e3.tseq h2⟩,λ gl hgl=>?_⟩;refine T8 (Y4 (e3.tseq h2)) hgl (by rw [l2]; exact p6 (by lia)) (λ x=>.int (vI x*b)) (λ i x H' N hx e hN=>?_) ?_
 ·obtain ⟨k,rfl⟩:=G3 hx
  exact ⟨Wk.set (by decide),_,rfl,_,rfl,_,_,rfl,rfl,.inr ⟨by lia,by lia⟩,hN⟩
 have eA:(h.1.map V.int).map (λ x=>V.int (vI x*b))=(h.1.map (·*b)).map V.int:=by rw [bO,bO]; rfl
 have eB:(h.2.map V.int).map (λ x=>V.int (vI x*b))=(h.2.map (·*b)).map V.int:=by rw [bO,bO]; rfl
 have ftl:H tl=none:=e2.free htl;have fgl:H gl=none:=e3.free hgl;have ne1:tl≠gl:=λ z=>by rw [<- z,upd_same] at hgl; cases hgl
 rw [eA,eB];rw [eA] at e3;have e4:=e3.write (o:=.lst ((h.2.map (·*b)).map V.int)) fgl;have at4:upd (upd H2 tl (.lst ((h.1.map (·*b)).map V.int))) gl (.lst ((h.2.map (·*b)).map V.int)) tl=some (.lst ((h.1.map (·*b)).map V.int)):=by rw [i7 ne1,upd_same]
 have ag4:upd (upd H2 tl (.lst ((h.1.map (·*b)).map V.int))) gl (.lst ((h.2.map (·*b)).map V.int)) gl=some (.lst ((h.2.map (·*b)).map V.int)):=upd_same;generalize upd (upd H2 tl (.lst ((h.1.map (·*b)).map V.int))) gl (.lst ((h.2.map (·*b)).map V.int))=H4 at e4 at4 ag4 ⊢;have tA:∀ x∈h.1.map (·*b),1<=x/\x<=far:=λ x hx=>by
  obtain ⟨y,hy,rfl⟩:=bL.mp hx;have y1:=(hG.t y hy).1;have y2:=hbx y (iC _ hy);have y3:=vD y1 hb.1 (by decide) (by lia);exact ⟨by simpa using y3,y2⟩
 have tB:∀ x∈h.2.map (·*b),0<=x/\x<=far:=λ x hx=>by
  obtain ⟨y,hy,rfl⟩:=bL.mp hx;exact ⟨Int.mul_nonneg (hG.g y hy).1 (by lia),hbx y (dJ _ hy)⟩
 have tP:∃ x∈h.2.map (·*b),0<x:=by
  obtain ⟨y,hy,y0⟩:=hG.p;exact ⟨y*b,bL.mpr ⟨y,hy,rfl⟩,eF y0 (by lia)⟩
 have lA:(h.1.map (·*b)).length=kt:=by rw [aH]; exact hG.lt
 have lB:(h.2.map (·*b)).length=kg:=by rw [aH]; exact hG.lg
 generalize h.1.map (·*b)=A0 at tA lA at4;generalize h.2.map (·*b)=B0 at tB lB tP ag4;refine ⟨λ σ' H'=>∃ (A1:List Int) (ks:Option V),σ'=[some (.ref a),some (.ref pk),some (.int far),some (.ref tl),some (.ref gl),some (.int b),ks]/\Same H H'/\H' tl=some (.lst (A1.map V.int))/\H' gl=some (.lst (B0.map V.int))/\A1.length=kt/\∀ x∈A1,1<=x/\x<=far,?_,?_⟩
 ·refine ⟨_,rfl,pk,_,9,_,rfl,rfl,e4.seq hP,a9,_,_,rfl,rfl,⟨by decide,by decide⟩,_,_,rfl,rfl,(by show (0:Int)<3; decide),rfl,_,rfl,?_⟩
  refine w6 (λ c=>?_) (λ c=>⟨A0,none,rfl,e4,at4,ag4,lA,tA⟩);have lA':(A0.map V.int).length=kt:=by rw [aH]; exact lA
  refine ⟨_,rfl,pk,_,8,_,rfl,rfl,e4.seq hP,a8,_,rfl,tl,_,rfl,.inl (SqL.of at4),_,_,rfl,rfl,(by show (0:Int)<((A0.map V.int).length:Int); rw [lA']; lia),?_⟩;have r0:0<=d8 % ((A0.map V.int).length:Int):=hX _ (by rw [lA']; lia);have r1:d8 % ((A0.map V.int).length:Int)<((A0.map V.int).length:Int):=eR _ (by rw [lA']; lia);obtain ⟨x,hx,ax⟩:=N7 (ns:=A0) (k:=d8 % ((A0.map V.int).length:Int)) r0 (by rw [aH] at r1 ⊢; exact r1);have hx1:=tA x hx;refine ⟨_,rfl,_,rfl,_,rfl,tl,_,_,_,rfl,rfl,SqL.of at4,ax,_,rfl,pk,_,9,_,rfl,rfl,e4.seq hP,a9,_,_,rfl,rfl,⟨by decide,by decide⟩,_,_,rfl,rfl,(by show (0:Int)<2; decide),_,_,rfl,rfl,_,_,rfl,rfl,_,_,rfl,?_⟩;refine ⟨_,rfl,_,rfl,tl,_,_,_,rfl,rfl,at4,a0j r0 r1,?_⟩;refine ⟨A0.set (d8 % ((A0.map V.int).length:Int)).toNat _,_,rfl,e4.write ftl,by rw [upd_same,map_set],by rw [i7 (bI ne1)]; exact ag4,by rw [dG]; exact lA,λ y hy=>?_⟩;rcases oK hy with z | z
  ·exact tA y z
  ·rw [z]
   split <;> lia
 intro σ' H5 hM_; refine E9 λ G_ hG_=>?_; obtain ⟨A1,ks,rfl,e5,at5,ag5,lA1,tA1⟩:=hM_; subst hG_;refine ⟨λ σ' H'=>∃ (B1:List Int) (ks:Option V),σ'=[some (.ref a),some (.ref pk),some (.int far),some (.ref tl),some (.ref gl),some (.int b),ks]/\Same H H'/\H' tl=some (.lst (A1.map V.int))/\H' gl=some (.lst (B1.map V.int))/\B1.length=kg/\(∀ x∈B1,0<=x/\x<=far)/\∃ x∈B1,0<x,?_,?_⟩
 ·refine ⟨_,rfl,pk,_,9,_,rfl,rfl,e5.seq hP,a9,_,_,rfl,rfl,⟨by decide,by decide⟩,_,_,rfl,rfl,(by show (0:Int)<3; decide),rfl,_,rfl,?_⟩
  refine w6 (λ c=>?_) (λ c=>⟨B0,ks,rfl,e5,at5,ag5,lB,tB,tP⟩);have lB':(B0.map V.int).length=kg:=by rw [aH]; exact lB
  refine ⟨_,rfl,pk,_,8,_,rfl,rfl,e5.seq hP,a8,_,rfl,gl,_,rfl,.inl (SqL.of ag5),_,_,rfl,rfl,(by show (0:Int)<((B0.map V.int).length:Int); rw [lB']; lia),?_⟩;have r0:0<=d8 % ((B0.map V.int).length:Int):=hX _ (by rw [lB']; lia);have r1:d8 % ((B0.map V.int).length:Int)<((B0.map V.int).length:Int):=eR _ (by rw [lB']; lia);obtain ⟨x,hx,ax⟩:=N7 (ns:=B0) (k:=d8 % ((B0.map V.int).length:Int)) r0 (by rw [aH] at r1 ⊢; exact r1);have hx1:=tB x hx;refine ⟨_,rfl,_,rfl,_,rfl,gl,_,_,_,rfl,rfl,SqL.of ag5,ax,_,_,rfl,rfl,_,_,rfl,?_⟩;refine ⟨_,rfl,_,rfl,gl,_,_,_,rfl,rfl,ag5,a0j r0 r1,?_⟩;have rn:(d8 % ((B0.map V.int).length:Int)).toNat<B0.length:=by rw [aH] at r1 ⊢; lia
  refine ⟨B0.set (d8 % ((B0.map V.int).length:Int)).toNat _,_,rfl,e5.write fgl,by rw [i7 ne1]; exact at5,by rw [upd_same,map_set],by rw [dG]; exact lB,λ y hy=>?_,_,vH rn _,?_⟩
  ·rcases oK hy with z | z
   ·exact tB y z
   ·rw [z]
    split <;> lia
  ·split <;> lia
 intro σ' H6 hM_; refine E9 λ G_ hG_=>?_; obtain ⟨B1,ks,rfl,e6,at6,ag6,lB1,tB1,tP1⟩:=hM_; subst hG_;refine ⟨_,rfl,tl,_,rfl,.inl ⟨SqL.of at6,λ pt hpt=>?_⟩⟩;have f1:=Same.new hpt (.tup (A1.map V.int));refine ⟨_,rfl,gl,_,rfl,.inl ⟨SqL.of (f1 _ _ ag6),λ pg hpg=>?_⟩⟩;have f2:=Same.new hpg (.tup (B1.map V.int));refine ⟨(by show 2<=sizeLine; decide),λ pr hpr=>?_⟩;have f3:=Same.new hpr (.tup [V.ref pt,V.ref pg]);exact q _ _ (A1,B1) (e6.trans (f1.trans (f2.trans f3))) ⟨pr,pt,pg,rfl,SqT.of upd_same,SqT.of (f3 _ _ (f2 _ _ upd_same)),SqT.of (f3 _ _ upd_same)⟩ ⟨lA1,lB1,tA1,tB1,tP1⟩
end
end Rim
namespace L2
open PySem
def Keep (H H':Hp):Prop:=∀ b o,H b=some o->(∀ xs,o≠.lst xs)->H' b=some o
theorem Keep.upd {H:Hp} {b:aA} {ys:List V} {o:HO} (h:H b=some (.lst ys)):Keep H (upd H b o):=λ c u q n=>by
 have:c≠b:=λ z=>by rw [z,h] at q; exact n ys (bG q).symm
 rw [i7 this]; exact q
theorem Keep.tseq {K:aE} {H H':Hp} {a:aA} {xs:List V} (e:Keep H H') (h:SqT K H a xs):SqT K H' a xs:=by
 rcases h with (h | ⟨o,h⟩) | h
 ·exact .inl (.inl (e _ _ h (λ _ z=>nomatch z)))
 ·exact .inl (.inr ⟨o,e _ _ h (λ _ z=>nomatch z)⟩)
 ·exact .inr h
end L2
namespace Rim
open PySem L2
theorem HS.keep {K:aE} {H H':Hp} {v:V} {h:j3} (e:Keep H H') (x:HS K H v h):HS K H' v h:=by
 obtain ⟨a,t,g,h0,h1,h2,h3⟩:=x;exact ⟨a,t,g,h0,e.tseq h1,e.tseq h2,e.tseq h3⟩
theorem Bk.keep {K:aE} {H H':Hp} {vs:List V} {hs:List j3} (e:Keep H H') (x:Bk K H vs hs):Bk K H' vs hs:=aS.imp' (λ _ _ r=>HS.keep e r) x
def a7b (ns:List Int):eL:=.tuple (ns.map oM)
def G7 (h:j3):eL:=.tuple [a7b h.1,a7b h.2]
theorem a2H {K:aE} {H:Hp}:∀ ns:List Int,Dps K H (ns.map V.int) (ns.map oM)
 | []=>.nil
 | n::r=>.cons (.int n) (a2H r)
theorem HS.dp {K:aE} {H:Hp} {v:V} {h:j3} (x:HS K H v h):Dp K H v (G7 h):=by
 obtain ⟨a,t,g,rfl,h1,h2,h3⟩:=x;exact .tup h1 (.cons (.tup h2 (a2H _)) (.cons (.tup h3 (a2H _)) .nil))
theorem Bk.dps {K:aE} {H:Hp}:∀ {vs:List V} {hs:List j3},Bk K H vs hs->Dps K H vs (hs.map G7)
 | _,_,.nil=>.nil
 | _,_,.cons x r=>.cons x.dp (Bk.dps r)
theorem a2F:∀ ns:List Int,eN (ns.map oM)=true
 | []=>by rw [pQ,eN]
 | n::r=>by rw [cJ,eN,a2F r,eG]; rfl
theorem a7Z (h:j3):(G7 h).canLay0=true:=by
 unfold G7 a7b;rw [eG,eN,eG,a2F,eN,eG,a2F,eN]; rfl
theorem a2J:∀ hs:List j3,eN (hs.map G7)=true
 | []=>by rw [pQ,eN]
 | h::r=>by rw [cJ,eN,a7Z,a2J r]; rfl
section
variable {P:aL} {w:aI} {K:aE} {mg:Str->Option aC} {base:aG} {f g:aA} {fd gd:aJ}
def a6n (K:aE):Sp:=λ vs H Q _=>∃ (a:aA) (ns:List Int) (at' most far:Int),vs=[.ref a,.int at',.int most,.int far]/\SqL K H a (ns.map V.int)/\0<=at'/\1<=most/\most<=900/\1<=far ∧
 ∀ (r:aA) (H':Hp) (xs:List V) (hs:List j3) (kt kg:Nat),Same H H'->H' r=some (.lst xs)->Bk K H' xs hs->1<=hs.length->(hs.length:Int)<=most->1<=kt->kt<=4->1<=kg->kg<=4->(∀ h∈hs,HG far kt kg h)->Q (.ref r) H'
theorem scABook:m6 ["script","at","most","far","heads","kinds","many","size","book","k","picks","takes","some","gives","house"] ["script","at","most","far"] (j4 a1t):=⟨rfl,rfl,rfl,by decide +kernel,rfl,by decide +kernel,by decide +kernel⟩
theorem a6X:(["pick","size"]:List Str).Nodup:=by decide +kernel
noncomputable def abT {n:Nat} {fc fw fn:aA} {dc dw dn:aJ} {cdv:aC} {A:aY} {outer:List Env} {s:aD} {H:Hp} {E:XK} (T:x8 mg)
  (Gc:FnOk P w K mg base E1 n fc dc ["script","k"] (a6e K)) (bc:Binds K dc ["script","k"] []) (kc:dL K (.ref fc)=true) (mc:mg "_law_cell_at"=some (.ref fc))
  (Gw:FnOk P w K mg base E1 n fw dw ["cell","many","base"] (a4i K)) (bw:Binds K dw ["cell","many","base"] []) (kw:dL K (.ref fw)=true) (mw:mg "_law_draws"=some (.ref fw))
  (Gn:FnOk P w K mg base E1 n fn dn ["house","picks","far"] (a5Q K)) (bn:Binds K dn ["house","picks","far"] []) (kn:dL K (.ref fn)=true) (mn:mg "_law_near"=some (.ref fn))
  (hr:Room n (A.deeper (fY "_law_a_book" (j4 a1t) s.heap.objs.size f cdv))) :
  { t:TS // PSs (M0 E1 P w K mg base ["script","at","most","far","heads","kinds","many","size","book","k","picks","takes","some","gives","house"] "_law_a_book" (j4 a1t) f cdv A outer s H E).nox (w4 a1t) t } :=
 ⟨_,j0 (o7 (i:=4) scABook.nd rfl (aM rfl) (j6 Gw hr rfl mw kw bw .nil v5 (d0 (j6 Gc hr rfl mc kc bc .nil v5 (d0 (pv 0) (d0 (pv 1) h8))) (d0 i8 (d0 i8 h8)))))
  (v6 (o7 (i:=5) scABook.nd rfl (aM rfl) (v7 (d0 (j7 D0 i8 (j7 A8 (p7 j9 (pv 4) i8 (λ _ _=>rfl)) (p7 j9 (v7 (d0 i8 (d0 i8 h8))) (j7 A8 (p7 j9 (pv 4) i8 (λ _ _=>rfl)) i8) (λ _ _=>rfl))))
   (d0 (j7 D0 i8 (j7 A8 (p7 j9 (pv 4) i8 (λ _ _=>rfl)) (p7 j9 (v7 (d0 i8 (d0 i8 h8))) (j7 A8 (p7 j9 (pv 4) i8 (λ _ _=>rfl)) i8) (λ _ _=>rfl)))) h8))))
  (v6 (o7 (i:=6) scABook.nd rfl (aM rfl) (j7 D0 i8 (j7 A8 (p7 j9 (pv 4) i8 (λ _ _=>rfl)) (p7 j9 (v7 (d0 (pv 2) (d0 (j8 (a0a rfl) rfl T.min mF (d0 (pv 2) (d0 i8 h8))) h8))) (j7 a0e (j7 A8 (p7 j9 (pv 4) i8 (λ _ _=>rfl)) i8) i8) (λ _ _=>rfl)))))
  (v6 (o7 (i:=7) scABook.nd rfl (fO rfl) (j8 (a0a rfl) rfl T.min mF (d0 (pv 3) (d0 (p7 j9 (v7 (d0 i8 (d0 i8 (d0 i8 (d0 i8 (d0 (j7 a1b i8 i8) h8)))))) (j7 A8 (p7 j9 (pv 4) i8 (λ _ _=>rfl)) i8) (λ _ _=>rfl)) h8))))
  (j0 (o7 (i:=8) scABook.nd rfl (aM rfl) (v7 h8))
  (j0 (T6 fQ rfl (N0 rfl T.range (d0 (pv 6) h8)) (m9 (i:=9) scABook.nd rfl (aM rfl))
   (v6 (o7 (i:=10) scABook.nd rfl (aM rfl) (j6 Gw hr rfl mw kw bw .nil v5 (d0 (j7 D0 (j6 Gc hr rfl mc kc bc .nil v5 (d0 (pv 0) (d0 (j7 D0 (pv 1) i8) h8))) (j7 Y9 (pv 9) (j7 D0 (p7 j9 (pv 4) i8 (λ _ _=>rfl)) i8))) (d0 i8 (d0 (j7 a1b i8 i8) h8)))))
   (v6 (o7 (i:=11) scABook.nd rfl (aM rfl) (v8 J1 rfl T.tuple jK (d0 (R5 ["pick"] [7] rfl (J7 (G1 M3 (pv 10) N8 (K1 (p7 j9 (pv 5) i8 (λ _ _=>rfl))))) (λ _ _ _ _=>m9 (i:=0) a6X rfl (aM rfl)) (λ _ _ _ _=>j7 D0 i8 (j7 A8 (pv 0) (pv 1)))) h8)))
   (j0 (o7 (i:=12) scABook.nd rfl (aM rfl) (G1 M3 (pv 10) (K1 i8) (K1 (j7 D0 i8 (p7 j9 (pv 5) i8 (λ _ _=>rfl))))))
   (v6 (a4P (i:=13) ["pick"] [7] scABook.nd rfl rfl rfl (J7 (pv 12)) (λ _ _ _ _=>m9 (i:=0) a6X rfl (aM rfl)) (λ _ _ _ _=>j7 Y9 (j7 A8 (pv 0) (j7 D0 (pv 1) i8)) (v8 a3m rfl T.int qU (d0 (M7 a0s (j7 A8 (pv 0) i8) i8 (r8 _)) h8))))
   (v6 (w8 (r6 K8 (j8 (a1o rfl) rfl T.max qV (d0 (pv 13) h8)) i8 (r8 _)) (j5 (K5 (j7 D0 i8 (j7 A8 (p7 j9 (pv 10) i8 (λ _ _=>rfl)) (pv 7))) (T1 (pv 13) (j7 A8 (p7 j9 (pv 10) i8 (λ _ _=>rfl)) (p7 j9 (pv 5) i8 (λ _ _=>rfl))) J6))) t7)
   (v6 (o7 (i:=14) scABook.nd rfl (aM rfl) (D3 (d0 (pv 11) (d0 (v8 J1 rfl T.tuple jK (d0 (pv 13) h8)) h8))))
   (v6 (w8 (PW.pt (a3J (r6 (a2B hr) (pv 8) (v7 h8) (r8 _)) (a1X (r6 K8 (j7 A8 (p7 j9 (pv 10) i8 (λ _ _=>rfl)) i8) i8 (r8 _)))))
    (j5 (o7 (i:=14) scABook.nd rfl (aM rfl) (j6 Gn hr rfl mn kn bn .nil v5 (d0 (p7 j9 (pv 8) (j7 A8 (p7 j9 (pv 10) i8 (λ _ _=>rfl)) (j8 m8 rfl T.len cD (d0 (pv 8) h8))) (λ _ _=>rfl)) (d0 (pv 10) (d0 (pv 3) h8)))))) t7)
   (j5 (E8 (a5d lY lZ mD N4 (pv 8) (d0 (pv 14) h8))))))))))))
  (j5 (o8 (pv 8))))))))⟩
end
section
variable {P:aL} {w:aI} {K:aE} {mg:Str->Option aC} {base:aG} {f g:aA} {fd gd:aJ}
theorem a8G {n:Nat} {fc fw fn:aA} {dc dw dn:aJ} (F:Fun K "_law_a_book" "_law_a_book" a1t f fd) (T:x8 mg)
  (Gc:FnOk P w K mg base E1 n fc dc ["script","k"] (a6e K)) (bc:Binds K dc ["script","k"] []) (kc:dL K (.ref fc)=true) (mc:mg "_law_cell_at"=some (.ref fc))
  (Gw:FnOk P w K mg base E1 n fw dw ["cell","many","base"] (a4i K)) (bw:Binds K dw ["cell","many","base"] []) (kw:dL K (.ref fw)=true) (mw:mg "_law_draws"=some (.ref fw))
  (Gn:FnOk P w K mg base E1 n fn dn ["house","picks","far"] (a5Q K)) (bn:Binds K dn ["house","picks","far"] []) (kn:dL K (.ref fn)=true) (mn:mg "_law_near"=some (.ref fn)) :
  FnOk P w K mg base E1 (n+1) f fd ["script","at","most","far"] (a6n K):=by
 refine F.ok scABook (λ vs H Q E h=>?_) (λ cdv A outer s H vs Q E hr h=>?_)
 ·obtain ⟨a,ns,at',most,far,rfl,_⟩:=h
  rfl
 obtain ⟨a,ns,at',most,far,rfl,hS,hat,hm1,hm2,hfar,q⟩:=h;refine ⟨_,(abT T Gc bc kc mc Gw bw kw mw Gn bn kn mn hr).2,?_⟩;refine ⟨_,rfl,_,rfl,a,ns,at',rfl,hS,hat,λ c=>⟨c,8,1000,rfl,by decide,by decide,by decide,λ hl H1 hd e1 hH1 hlen hb=>?_⟩⟩;have hd':∀ k:Int,0<=k->k<8->∃ v,v∈hd/\atI (hd.map V.int) k=some (.int v):=λ k k0 k1=>N7 k0 (by lia);obtain ⟨x0,m0,a0⟩:=hd' 0 (by decide) (by decide);obtain ⟨x1,m1,a1⟩:=hd' 1 (by decide) (by decide);obtain ⟨x2,m2,a2⟩:=hd' 2 (by decide) (by decide);obtain ⟨x3,m3,a3⟩:=hd' 3 (by decide) (by decide);obtain ⟨x4,m4,a4⟩:=hd' 4 (by decide) (by decide);obtain ⟨x5,m5,a5⟩:=hd' 5 (by decide) (by decide);obtain ⟨x7,m7,a7⟩:=hd' 7 (by decide) (by decide);have b0:=hb x0 m0; have b1:=hb x1 m1; have b2:=hb x2 m2; have b3:=hb x3 m3; have b4:=hb x4 m4; have b5:=hb x5 m5; have b7:=hb x7 m7;refine ⟨λ σ' H'=>∃ (kl:aA) (kt kg:Nat),σ'=[some (.ref a),some (.int at'),some (.int most),some (.int far),some (.ref hl),some (.ref kl),none,none,none,none,none,none,none,none,none]/\Same H1 H'/\H' kl=some (.lst [.int (kt:Int),.int (kg:Int)])/\1<=kt/\kt<=4/\1<=kg/\kg<=4,?_,?_⟩
 ·have two:∀ y:Int,0<=y->∃ z:Int,(z=4\/z=2)/\atI [V.int 4,V.int 2] (y % 2)=some (.int z):=λ y hy=>by
   obtain ⟨z,hz,az⟩:=N7 (ns:=[4,2]) (k:=y % 2) (by lia) (by show y % 2<2; lia);exact ⟨z,by simpa using hz,az⟩
  obtain ⟨z1,hz1,az1⟩:=two x2 b2.1;refine ⟨_,rfl,hl,_,0,_,rfl,rfl,SqL.of hH1,a0,(by show 2<=sizeLine; decide),λ l1 hl1=>?_⟩;have s1:=Same.new hl1 (.lst [V.int 4,V.int 2]);refine ⟨_,rfl,hl,_,2,_,rfl,rfl,SqL.of (s1 _ _ hH1),a2,_,_,rfl,rfl,(by show (0:Int)<2; decide),l1,_,_,_,rfl,rfl,SqL.of upd_same,az1,_,_,rfl,rfl,(by show (0:Int)<z1; lia),_,_,rfl,rfl,?_⟩;refine ⟨_,rfl,hl,_,1,_,rfl,rfl,SqL.of (s1 _ _ hH1),a1,(by show 2<=sizeLine; decide),λ l2 hl2=>?_⟩;have s2:=Same.new hl2 (.lst [V.int 4,V.int 2]);refine ⟨_,rfl,hl,_,2,_,rfl,rfl,SqL.of (s2 _ _ (s1 _ _ hH1)),a2,_,_,rfl,rfl,(by show (0:Int)<2; decide),l2,_,_,_,rfl,rfl,SqL.of upd_same,az1,_,_,rfl,rfl,(by show (0:Int)<z1; lia),_,_,rfl,rfl,?_⟩;refine ⟨(by show 2<=sizeLine; decide),λ kl hkl=>?_⟩;have s3:=Same.new hkl (.lst [V.int (1+x0 % z1),V.int (1+x1 % z1)]);have p0:0<=x0 % z1/\x0 % z1<z1:=⟨Int.emod_nonneg _ (by lia),eR _ (by lia)⟩;have p1:0<=x1 % z1/\x1 % z1<z1:=⟨Int.emod_nonneg _ (by lia),eR _ (by lia)⟩;refine ⟨kl,(1+x0 % z1).toNat,(1+x1 % z1).toNat,rfl,s1.trans (s2.trans s3),?_,by lia,by lia,by lia,by lia⟩;rw [upd_same,qW (by lia),qW (by lia)]
 intro σ' H2 hM_; refine E9 λ G_ hG_=>?_; obtain ⟨kl,kt,kg,rfl,e2,hkl,kt1,kt4,kg1,kg4⟩:=hM_; subst hG_;have hh2:=e2 _ _ hH1;refine ⟨λ σ' H'=>∃ (many:Nat),σ'=[some (.ref a),some (.int at'),some (.int most),some (.int far),some (.ref hl),some (.ref kl),some (.int (many:Int)),none,none,none,none,none,none,none,none]/\Same H2 H'/\1<=many/\(many:Int)<=most,?_,?_⟩
 ·refine ⟨_,rfl,hl,_,3,_,rfl,rfl,SqL.of hh2,a3,_,rfl,_,rfl,_,_,rfl,(by show 2<=sizeLine; decide),λ l1 hl1=>?_⟩
  have s1:=Same.new hl1 (.lst [V.int most,V.int (if 4<most then 4 else most)]);obtain ⟨z,hz,az⟩:=N7 (ns:=[most,if 4<most then 4 else most]) (k:=x4 % 3 / 2) (by lia) (by show x4 % 3 / 2<2; lia);have hz':1<=z/\z<=most:=by
   simp only [bD,bX,or_false] at hz;rcases hz with rfl | rfl
   ·lia
   ·split <;> lia
  refine ⟨_,rfl,hl,_,4,_,rfl,rfl,SqL.of (s1 _ _ hh2),a4,_,_,rfl,rfl,(by show (0:Int)<3; decide),_,_,rfl,rfl,⟨by decide,by decide⟩,l1,_,_,_,rfl,rfl,SqL.of upd_same,az,_,_,rfl,rfl,(by show (0:Int)<z; lia),_,_,rfl,rfl,?_⟩;have p0:0<=x3 % z/\x3 % z<z:=⟨Int.emod_nonneg _ (by lia),eR _ (by lia)⟩;refine ⟨(1+x3 % z).toNat,?_,s1,by lia,by lia⟩;rw [qW (by lia)];rfl
 intro σ' H3 hM_; refine E9 λ G_ hG_=>?_; obtain ⟨many,rfl,e3,mn1,mn2⟩:=hM_; subst hG_;have hh3:=e3 _ _ hh2;have hk3:=e3 _ _ hkl;refine ⟨λ σ' H'=>∃ (size:Int),σ'=[some (.ref a),some (.int at'),some (.int most),some (.int far),some (.ref hl),some (.ref kl),some (.int (many:Int)),some (.int size),none,none,none,none,none,none,none]/\Same H3 H'/\1<=size/\size<=far/\size<=1000000000,?_,?_⟩
 ·refine ⟨_,rfl,_,_,rfl,rfl,⟨by decide,by decide,by decide⟩,(by show 5<=sizeLine; decide),λ l1 hl1=>?_⟩
  have s1:=Same.new hl1 (.lst [V.int 4,V.int 9,V.int 50,V.int 1000,V.int (10 ^ (9:Int).toNat)]);obtain ⟨z,hz,az⟩:=N7 (ns:=[4,9,50,1000,10 ^ (9:Int).toNat]) (k:=x5 % 5) (by lia) (by show x5 % 5<5; lia);have hz':1<=z/\z<=1000000000:=by
   have e9:(10:Int) ^ (9:Int).toNat=1000000000:=by decide
   rw [e9] at hz;simp only [bD,bX,or_false] at hz;rcases hz with rfl | rfl | rfl | rfl | rfl <;> decide
  refine ⟨_,rfl,hl,_,5,_,rfl,rfl,SqL.of (s1 _ _ hh3),a5,_,_,rfl,rfl,(by show (0:Int)<5; decide),l1,_,_,_,rfl,rfl,SqL.of upd_same,az,_,_,rfl,?_⟩;refine ⟨_,rfl,s1,?_,?_,?_⟩ <;> (split <;> lia)
 intro σ' H4 hM_; refine E9 λ G_ hG_=>?_; obtain ⟨size,rfl,e4,sz1,szf,sz9⟩:=hM_; subst hG_;have hh4:=e4 _ _ hh3;have hk4:=e4 _ _ hk3;have e14:Same H H4:=e1.trans (e2.trans (e3.trans e4));refine ⟨(by show 0<=sizeLine; decide),λ bl hbl=>?_⟩;refine ⟨_,rfl,(many:Int),rfl,by lia,by lia,?_⟩;rw [bW];refine a0m (n:=many) (λ i σ H'=>∃ (xs:List V) (hs:List j3) (o9 o10 o11 o12 o13 o14:Option V),σ=[some (.ref a),some (.int at'),some (.int most),some (.int far),some (.ref hl),some (.ref kl),some (.int (many:Int)),some (.int size),some (.ref bl),o9,o10,o11,o12,o13,o14] ∧
   Same H4 H'/\H' bl=some (.lst xs)/\Bk K H' xs hs/\hs.length=i/\∀ h∈hs,HG far kt kg h)
  ⟨[],[],_,_,_,_,_,_,rfl,Same.new hbl _,upd_same,.nil,rfl,λ h hh=>(by cases hh)⟩ ?_ ?_
 ·rintro i σ H5 hi ⟨xs,hs,o9,o10,o11,o12,o13,o14,rfl,e5,hb5,hB,hlen5,hG⟩
  have hh5:=e5 _ _ hh4;have hk5:=e5 _ _ hk4;have xlen:xs.length=hs.length:=dH hB;have ak0:atI [V.int (kt:Int),V.int (kg:Int)] 0=some (.int (kt:Int)):=B6 (j:=0) rfl;have ak1:atI [V.int (kt:Int),V.int (kg:Int)] 1=some (.int (kg:Int)):=B6 (j:=1) rfl;refine ⟨λ σ' H'=>∃ (pl:aA) (ds:List Int),σ'=[some (.ref a),some (.int at'),some (.int most),some (.int far),some (.ref hl),some (.ref kl),some (.int (many:Int)),some (.int size),some (.ref bl),some (.int (0+(i:Int))),some (.ref pl),o11,o12,o13,o14]/\Same H5 H'/\H' pl=some (.lst (ds.map V.int))/\ds.length=12/\∀ d∈ds,0<=d,?_,?_⟩
  ·refine ⟨_,rfl,_,rfl,_,_,rfl,rfl,a,ns,at'+1,rfl,(e14.trans e5).seq hS,by lia,λ c=>?_⟩
   refine ⟨_,rfl,_,rfl,hl,_,7,_,rfl,rfl,SqL.of hh5,a7,_,_,rfl,rfl,_,_,rfl,rfl,.inl ⟨by lia,by lia⟩,_,_,rfl,rfl,_,_,rfl,rfl,⟨by decide,by decide,by decide⟩,?_⟩;exact ⟨_,12,_,rfl,by decide,by decide,by decide,λ pl H6 ds e6 hp6 l6 d6=>⟨pl,ds,rfl,e6,hp6,l6,λ d hd=>(d6 d hd).1⟩⟩
  intro σ' H6 hM_; refine E9 λ G_ hG_=>?_; obtain ⟨pl,ds,rfl,e6,hp6,l6,d6⟩:=hM_; subst hG_;have hh6:=e6 _ _ hh5;have hk6:=e6 _ _ hk5;have hb6:=e6 _ _ hb5;have pk:∀ k:Int,0<=k->k<12->∃ v,v∈ds/\atI (ds.map V.int) k=some (.int v):=λ k k0 k1=>N7 k0 (by lia);obtain ⟨y8,n8,c8⟩:=pk 8 (by decide) (by decide);obtain ⟨y9,n9,c9⟩:=pk 9 (by decide) (by decide);obtain ⟨y10,n10,c10⟩:=pk 10 (by decide) (by decide);obtain ⟨y11,n11,c11⟩:=pk 11 (by decide) (by decide);have g8:=d6 _ n8; have g9:=d6 _ n9; have g10:=d6 _ n10; have g11:=d6 _ n11;have dl:(ds.map V.int).length=12:=by rw [aH]; exact l6
  refine ⟨λ σ' H'=>∃ (tp:aA) (At:List Int),σ'=[some (.ref a),some (.int at'),some (.int most),some (.int far),some (.ref hl),some (.ref kl),some (.int (many:Int)),some (.int size),some (.ref bl),some (.int (0+(i:Int))),some (.ref pl),some (.ref tp),o12,o13,o14]/\Same H6 H'/\H' tp=some (.tup (At.map V.int))/\At.length=kt/\∀ x∈At,1<=x/\x<=far,?_,?_⟩
  ·have ec:M5 (ds.map V.int) none (some (kt:Int))=(ds.take kt).map V.int:=by
    unfold M5;rw [HT.sIx_none,HT.sIx_nat,dl,oF,vJ]
    congr 1
    lia
   refine ⟨_,rfl,_,rfl,kl,_,0,_,rfl,rfl,SqL.of hk6,ak0,_,rfl,pl,_,rfl,SqL.of hp6,λ cp hcp=>?_⟩;rw [ec];have s1:=Same.new hcp (.lst ((ds.take kt).map V.int));refine ⟨cp,rfl,⟨_,SqL.of upd_same⟩,λ lp hlp=>?_⟩;refine T8 (D8 (SqL.of upd_same)) hlp (by rw [aH,cU]; exact p6 (by lia)) (λ x=>.int (1+vI x % size)) (λ j x H' N hx e hN=>?_) ?_
   ·obtain ⟨k,rfl⟩:=G3 hx
    exact ⟨Wk.set (by decide),_,rfl,_,rfl,_,_,rfl,rfl,(by show (0:Int)<size; lia),_,_,rfl,rfl,hN⟩
   ·have eA:((ds.take kt).map V.int).map (λ x=>V.int (1+vI x % size))=((ds.take kt).map λ d=>1+d % size).map V.int:=by rw [bO,bO]; rfl
    rw [eA];have s2:=Same.new hlp (.lst (((ds.take kt).map λ d=>1+d % size).map V.int));refine ⟨lp,_,rfl,.inl ⟨SqL.of upd_same,λ tp htp=>?_⟩⟩;refine ⟨tp,(ds.take kt).map λ d=>1+d % size,rfl,s1.trans (s2.trans (Same.new htp _)),upd_same,by rw [aH,cU]; lia,λ x hx=>?_⟩;obtain ⟨d,_,rfl⟩:=bL.mp hx;have p0:0<=d % size/\d % size<size:=⟨Int.emod_nonneg _ (by lia),eR _ (by lia)⟩;lia
  intro σ' H7 hM_; refine E9 λ G_ hG_=>?_; obtain ⟨tp,At,rfl,e7,ht7,lAt,tAt⟩:=hM_; subst hG_;have hp7:=e7 _ _ hp6;have hk7:=e7 _ _ hk6;have hb7:=e7 _ _ hb6;have ec:M5 (ds.map V.int) (some 4) (some (4+(kg:Int)))=((ds.drop 4).take kg).map V.int:=by
   unfold M5;have z1:HT.sIx (ds.map V.int).length 0 (some 4)=4:=by
    have:=HT.sIx_nat (ds.map V.int).length 0 4;rw [dl] at this ⊢;exact this
   have z2:HT.sIx (ds.map V.int).length (ds.map V.int).length (some (4+(kg:Int)))=4+kg:=by
    have:=HT.sIx_nat (ds.map V.int).length (ds.map V.int).length (4+kg);rw [dl] at this ⊢;rw [show (4:Int)+(kg:Int)=((4+kg:Nat):Int) by lia,this];lia
   rw [z1,z2,vJ,List.map_drop]
   congr 1
   lia
  refine ⟨_,rfl,_,rfl,_,rfl,kl,_,1,_,rfl,rfl,SqL.of hk7,ak1,_,_,rfl,rfl,_,rfl,pl,_,rfl,SqL.of hp7,λ sp hsp=>?_⟩;rw [ec];have s7:=Same.new hsp (.lst (((ds.drop 4).take kg).map V.int));refine ⟨λ σ' H'=>∃ (gp:aA) (Bs:List Int) (o12:Option V),σ'=[some (.ref a),some (.int at'),some (.int most),some (.int far),some (.ref hl),some (.ref kl),some (.int (many:Int)),some (.int size),some (.ref bl),some (.int (0+(i:Int))),some (.ref pl),some (.ref tp),o12,some (.ref gp),o14]/\Same H7 H'/\H7 gp=none/\H' gp=some (.lst (Bs.map V.int))/\Bs.length=kg/\∀ x∈Bs,0<=x/\x<=far,?_,?_⟩
  ·refine ⟨_,rfl,sp,rfl,⟨_,SqL.of upd_same⟩,λ gp hgp=>?_⟩
   refine T8 (D8 (SqL.of upd_same)) hgp (by rw [aH,cU]; exact p6 (by lia)) (λ x=>.int (vI x % (size+1)*(if decide (0<vI x % 7)=true then 1 else 0))) (λ j x H' N hx e hN=>?_) ?_
   ·obtain ⟨k,rfl⟩:=G3 hx
    refine ⟨Wk.set (by decide),_,rfl,_,rfl,_,_,rfl,rfl,_,_,rfl,rfl,(by show (0:Int)<size+1; lia),_,rfl,_,_,rfl,rfl,(by show (0:Int)<7; decide),_,_,rfl,rfl,.inr ⟨_,rfl,_,_,rfl,rfl,.inr ?_,hN⟩⟩;constructor <;> (split <;> decide)
   ·have eB:(((ds.drop 4).take kg).map V.int).map (λ x=>V.int (vI x % (size+1)*(if decide (0<vI x % 7)=true then 1 else 0)))=(((ds.drop 4).take kg).map λ d=>d % (size+1)*(if decide (0<d % 7)=true then 1 else 0)).map V.int:=by rw [bO,bO]; rfl
    rw [eB];refine ⟨gp,_,_,rfl,s7.trans (Same.new hgp _),s7.free hgp,upd_same,by rw [aH,cU,eZ]; lia,λ x hx=>?_⟩;obtain ⟨d,_,rfl⟩:=bL.mp hx;have p0:0<=d % (size+1)/\d % (size+1)<size+1:=⟨Int.emod_nonneg _ (by lia),eR _ (by lia)⟩
    split <;> lia
  intro σ' H8 hM_; refine E9 λ G_ hG_=>?_; obtain ⟨gp,Bs,o12',rfl,e8,f8,hg8,lBs,tBs⟩:=hM_; subst hG_;have hp8:=e8 _ _ hp7;have hk8:=e8 _ _ hk7;have lB':(Bs.map V.int).length=kg:=by rw [aH]; exact lBs
  refine ⟨λ σ' H'=>∃ (Bs:List Int) (o12:Option V),σ'=[some (.ref a),some (.int at'),some (.int most),some (.int far),some (.ref hl),some (.ref kl),some (.int (many:Int)),some (.int size),some (.ref bl),some (.int (0+(i:Int))),some (.ref pl),some (.ref tp),o12,some (.ref gp),o14]/\Same H7 H'/\H' gp=some (.lst (Bs.map V.int))/\Bs.length=kg/\(∀ x∈Bs,0<=x/\x<=far)/\∃ x∈Bs,0<x,?_,?_⟩
  ·refine ⟨_,rfl,gp,Bs,rfl,.inl (SqL.of hg8),(λ z=>by rw [z] at lBs; simp at lBs; lia),λ M hM hMx=>⟨rfl,_,rfl,?_⟩⟩
   refine w6 (λ c=>?_) (λ c=>?_)
   ·refine ⟨_,rfl,pl,_,9,_,rfl,rfl,SqL.of hp8,c9,_,rfl,_,_,rfl,rfl,(by show (0:Int)<size; lia),_,_,rfl,rfl,?_⟩
    refine ⟨_,rfl,_,rfl,pl,_,8,_,rfl,rfl,SqL.of hp8,c8,_,rfl,kl,_,1,_,rfl,rfl,SqL.of hk8,ak1,_,_,rfl,rfl,(by show (0:Int)<(kg:Int); lia),?_⟩;have r0:0<=y8 % (kg:Int):=hX _ (by lia);have r1:y8 % (kg:Int)<((Bs.map V.int).length:Int):=by rw [lB']; exact eR _ (by lia)
    have rn:(y8 % (kg:Int)).toNat<Bs.length:=by rw [lB'] at r1; lia
    have p0:0<=y9 % size/\y9 % size<size:=⟨Int.emod_nonneg _ (by lia),eR _ (by lia)⟩;refine ⟨gp,_,_,_,rfl,rfl,hg8,a0j r0 r1,?_⟩;refine ⟨Bs.set (y8 % (kg:Int)).toNat _,_,rfl,e8.write f8,by rw [upd_same,map_set],by rw [dG]; exact lBs,λ x hx=>?_,_,vH rn _,by lia⟩;rcases oK hx with z | z
    ·exact tBs x z
    ·lia
   ·have c':¬ M=0:=λ z=>c (decide_eq_true (by rw [z]))
    have:=tBs M hM;exact ⟨Bs,_,rfl,e8,hg8,lBs,tBs,M,hM,by lia⟩
  intro σ' H9 hM_; refine E9 λ G_ hG_=>?_; obtain ⟨Bt,o12'',rfl,e9,hg9,lBt,tBt,tPt⟩:=hM_; subst hG_;refine ⟨λ σ' H'=>∃ (v:V) (h:j3) (o12:Option V),σ'=[some (.ref a),some (.int at'),some (.int most),some (.int far),some (.ref hl),some (.ref kl),some (.int (many:Int)),some (.int size),some (.ref bl),some (.int (0+(i:Int))),some (.ref pl),some (.ref tp),o12,some (.ref gp),some v]/\Same H7 H'/\HS K H' v h/\HG far kt kg h,?_,?_⟩
  ·refine ⟨_,rfl,_,rfl,gp,_,rfl,.inl ⟨SqL.of hg9,λ pg hpg=>?_⟩⟩
   have f1:=Same.new hpg (.tup (Bt.map V.int));refine ⟨(by show 2<=sizeLine; decide),λ pr hpr=>?_⟩;have f2:=Same.new hpr (.tup [V.ref tp,V.ref pg]);exact ⟨_,(At,Bt),_,rfl,e9.trans (f1.trans f2),⟨pr,tp,pg,rfl,SqT.of upd_same,SqT.of (f2 _ _ (f1 _ _ (e9 _ _ ht7))),SqT.of (f2 _ _ upd_same)⟩,⟨lAt,lBt,tAt,tBt,tPt⟩⟩
  intro σ' H10 hM_; refine E9 λ G_ hG_=>?_; obtain ⟨v,h,o12'',rfl,e10,hv,hvG⟩:=hM_; subst hG_;have e57:Same H5 H7:=e6.trans e7;have e510:Same H5 H10:=e57.trans e10;refine ⟨λ σ' H'=>∃ (v:V) (h:j3) (o12:Option V),σ'=[some (.ref a),some (.int at'),some (.int most),some (.int far),some (.ref hl),some (.ref kl),some (.int (many:Int)),some (.int size),some (.ref bl),some (.int (0+(i:Int))),some (.ref pl),some (.ref tp),o12,some (.ref gp),some v]/\Same H5 H'/\HS K H' v h/\HG far kt kg h,?_,?_⟩
  ·refine ⟨_,rfl,(by show 0<=sizeLine; decide),λ ep hep=>?_⟩
   have f1:=Same.new hep (.lst []);have e511:=e510.trans f1;refine ⟨.list (hs.map G7),.list [],.lst (SqL.of (e511 _ _ hb5)) (Bk.dps (Bk.same e511 hB)),.lst (SqL.of upd_same) .nil,a2J hs,rfl,cO (Nat.min_le_right _ _) (by decide),_,rfl,?_⟩;refine w6 (λ c=>?_) (λ c=>a1Q ⟨v,h,_,rfl,e511,hv.same f1,hvG⟩);have hpos:0<hs.length:=by
    cases hs with
    | nil=>exact absurd c (by simp [dZ,gQ])
    | cons _ _=>simp
   have hp11:upd H10 ep (.lst []) pl=some (.lst (ds.map V.int)):=f1 _ _ (e10 _ _ hp7);have hb11:=e511 _ _ hb5;refine ⟨_,rfl,pl,_,10,_,rfl,rfl,SqL.of hp11,c10,_,_,rfl,rfl,(by show (0:Int)<4; decide),rfl,_,rfl,?_⟩;refine w6 (λ c=>?_) (λ c=>⟨v,h,_,rfl,e511,hv.same f1,hvG⟩);have r0:0<=y11 % (xs.length:Int):=hX _ (by lia);have r1:y11 % (xs.length:Int)<(xs.length:Int):=eR _ (by lia);have hk:(y11 % (xs.length:Int)).toNat<xs.length:=by lia
   have ax:atI xs (y11 % (xs.length:Int))=some xs[(y11 % (xs.length:Int)).toNat]:=by
    unfold atI;rw [a0j r0 r1];exact aV hk
   obtain ⟨h',hh',hs'⟩:=aS.at hB (aV hk);refine ⟨_,rfl,_,rfl,pl,_,11,_,rfl,rfl,SqL.of hp11,c11,_,rfl,bl,_,rfl,.inl (SqL.of hb11),_,_,rfl,rfl,(by show (0:Int)<(xs.length:Int); lia),bl,_,_,_,rfl,rfl,SqL.of hb11,ax,_,rfl,_,rfl,?_⟩;refine ⟨_,pl,far,h',ds,kt,kg,rfl,hs'.same e511,hG h' (bN hh'),kt1,kt4,kg1,kg4,hfar,SqL.of hp11,(by omega),d6,λ r H12 h'' e12 hs'' hg''=>⟨r,h'',_,rfl,e511.trans e12,hs'',hg''⟩⟩
  intro σ' H11 hM_; refine E9 λ G_ hG_=>?_; obtain ⟨v,h,o12'',rfl,e11,hv,hvG⟩:=hM_; subst hG_;have hb11:=e11 _ _ hb5;refine ⟨_,rfl,.inl ⟨rfl,_,SqL.of hb11⟩,_,rfl,bl,xs,v,rfl,rfl,hb11,p6 (by lia),?_⟩;have kp:Keep H11 (upd H11 bl (.lst (xs++[v]))):=Keep.upd hb11;refine ⟨xs++[v],hs++[h],_,_,_,_,_,_,rfl,(e5.trans e11).write hbl,upd_same,aS.app (Bk.keep kp (Bk.same e11 hB)) (.cons (HS.keep kp hv) .nil),by rw [bF,hlen5]; rfl,λ h' hm=>?_⟩;rcases bU.mp hm with z | z
  ·exact hG h' z
  ·rw [cX.mp z]; exact hvG
 ·intro σ H' hM_; refine E9 λ G_ hG_=>?_; obtain ⟨xs,hs,o9,o10,o11,o12,o13,o14,rfl,e5,hb5,hB,hlen5,hG⟩:=hM_; subst hG_
  exact ⟨_,rfl,q bl H' xs hs kt kg (e14.trans e5) hb5 hB (by lia) (by lia) kt1 kt4 kg1 kg4 hG⟩
end
end Rim
namespace Rim
open PySem L2 Fr
def b6c (K:aE):List V->Hp->VK->Prop:=λ vs H Q=>∃ (a:aA) (ns:List Int),vs=[.ref a]/\SqA K H a (ns.map V.int)/\Q (.int ns.sum) H
theorem b3f (K:aE) {X:Cx} (h:X.K=K) (hc:X.calm=true):J5 X (.builtin "sum") (b6c K):=by subst h; exact a9s hc
theorem a5Y (K:aE) {X:Cx} (h:X.K=K):IxR X (b4Y K):=by subst h; exact A9
def FrV (K:aE) (H:Hp) (v:V) (f:Q2):Prop:=∃ a,v=.ref a/\SqT K H a [.int f.1,.int f.2]
def FrT (H:Hp) (v:V) (f:Q2):Prop:=∃ a,v=.ref a/\H a=some (.tup [.int f.1,.int f.2])
theorem FrT.v {K:aE} {H:Hp} {v:V} {f:Q2} (h:FrT H v f):FrV K H v f:=by
 obtain ⟨a,e,q⟩:=h;exact ⟨a,e,SqT.of q⟩
theorem FrT.same {H H':Hp} {v:V} {f:Q2} (e:Same H H') (h:FrT H v f):FrT H' v f:=by
 obtain ⟨a,z,q⟩:=h;exact ⟨a,z,e _ _ q⟩
theorem FrV.same {K:aE} {H H':Hp} {v:V} {f:Q2} (e:Same H H') (h:FrV K H v f):FrV K H' v f:=by
 obtain ⟨a,z,q⟩:=h;exact ⟨a,z,e.tseq q⟩
section
variable {P:aL} {w:aI} {K:aE} {mg:Str->Option aC} {base:aG} {f g:aA} {fd gd:aJ}
structure Cal (P:aL) (w:aI) (K:aE) (mg:Str->Option aC) (base:aG) (n:Nat) (x:Str) (ps:List Str) (sp:Sp) (fa:aA) (d:aJ):Prop where
 ok:FnOk P w K mg base E1 n fa d ps sp
 b:Binds K d ps []
 k:dL K (.ref fa)=true
 m:mg x=some (.ref fa)
def b2o:Sp:=λ vs H Q _=>∃ a b:Int,vs=[.int a,.int b]/\0<=b/\Q (.int (gI a b)) H
theorem scDiv:m6 ["one","other"] ["one","other"] (j4 b3L):=⟨rfl,rfl,rfl,by decide +kernel,rfl,by decide +kernel,by decide +kernel⟩
def b6p:St->Nat:=λ σ=>match σ with | [_,some (.int y)]=>y.toNat | _=>0
theorem b3D (x:Int):(if x<0 then -x else x)=gI x 0:=by
 rw [b1s]
 split <;> lia
theorem b2H {n:Nat} (F:Fun K "common_divisor" "common_divisor" b3L f fd) (T:x8 mg):FnOk P w K mg base E1 (n+1) f fd ["one","other"] b2o:=by
 refine F.ok scDiv (λ vs H Q E h=>?_) (λ cdv A outer s H vs Q E hr h=>?_)
 ·obtain ⟨a,b,rfl,_⟩:=h
  rfl
 obtain ⟨a,b,rfl,hb,q⟩:=h;refine ⟨_,j0 (a4O fQ (r6 b0z (pv 1) i8 (r8 _)) (j5 (b2E (i:=0) (j:=1) rfl scDiv.nd rfl rfl (by decide) rfl rfl (d0 (pv 1) (d0 (j7 A8 (pv 0) (pv 1)) h8)) rfl)))
  (j5 (o8 (j8 a9i rfl T.abs (yJ) (d0 (pv 0) h8)))),?_⟩
 refine a9y (λ σ H'=>∃ x y:Int,σ=[some (.int x),some (.int y)]/\H'=H/\0<=y/\gI x y=gI a b) (λ σ _=>b6p σ) ⟨a,b,rfl,rfl,hb,rfl⟩ ?_ (λ σ H Q Q' hq ⟨v,h1,h2,k,h3,q⟩=>⟨v,h1,h2,k,h3,hq _ _ q⟩);rintro σ H' ⟨x,y,rfl,rfl,hy,hg⟩;refine ⟨_,rfl,rfl,_,rfl,?_⟩;refine w6 (λ c=>?_) (λ c=>?_)
 ·have hy0:0<y:=by
   by_cases z:y=0
   ·subst z; simp at c
   ·lia
  have hm:=hX x (show y≠0 by lia);have hl:=eR x hy0;refine ⟨_,rfl,_,rfl,_,rfl,_,_,rfl,rfl,hy0,_,_,rfl,⟨y,x % y,rfl,rfl,hm,?_⟩,?_⟩
  ·rw [b1N]; exact hg
  ·show (x % y).toNat<y.toNat
   lia
 ·have hy0:y=0:=by
   by_cases z:y=0
   ·exact z
   ·exact absurd (by simp [z]) c
  subst hy0;refine ⟨_,rfl,_,rfl,?_⟩;rw [b3D,hg];exact q
end
theorem Big.mono {n m:Nat} {i:Int} (h:Big n i) (hn:n<=m):Big m i:=bM h (lV (by decide) hn)
theorem Big.mul {n m:Nat} {i j:Int} (h:Big n i) (k:Big m j):Big (n+m) (i*j):=by
 unfold Big at *;rw [qJ,vK];exact Nat.mul_lt_mul_of_lt_of_lt h k
theorem a1Y {i:Int} {n:Nat} (h0:0<=i) (h1:i<2 ^ n):Big n i:=by
 have e:((2 ^ n:Nat):Int)=2 ^ n:=by simp
 unfold Big;lia
section
variable {P:aL} {w:aI} {K:aE} {mg:Str->Option aC} {base:aG} {f g:aA} {fd gd:aJ} {n:Nat}
def a2K:Sp:=λ vs H Q _=>∃ t b:Int,vs=[.int t,.int b]/\0<b/\b<2 ^ 8000/\∀ (v:V) (H':Hp),Same H H'->FrT H' v (low t b)->Q v H'
theorem scLow:m6 ["top","bottom","divisor"] ["top","bottom"] (j4 b2R):=⟨rfl,rfl,rfl,by decide +kernel,rfl,by decide +kernel,by decide +kernel⟩
theorem b2T {fa:aA} {da:aJ} (F:Fun K "lowest" "lowest" b2R f fd) (T:x8 mg) (C:Cal P w K mg base n "common_divisor" ["one","other"] b2o fa da):FnOk P w K mg base E1 (n+1) f fd ["top","bottom"] a2K:=by
 refine F.ok scLow (λ vs H Q E h=>?_) (λ cdv A outer s H vs Q E hr h=>?_)
 ·obtain ⟨a,b,rfl,_⟩:=h
  rfl
 obtain ⟨t,b,rfl,hb,hb2,q⟩:=h;refine ⟨_,j0 (w8 (r6 K8 (pv 1) i8 (r8 _)) a3w t7)
  (j0 (o7 (i:=2) scLow.nd rfl (aM rfl) (j6 C.ok hr rfl C.m C.k C.b .nil v5 (d0 (pv 0) (d0 (pv 1) h8))))
  (j0 (w8 (r6 a0q (pv 1) i8 (r8 _)) a3w t7)
  (j5 (o8 (D3 (d0 (j7 a2P (pv 0) (pv 2)) (d0 (j7 a2P (pv 1) (pv 2)) h8))))))),?_⟩
 refine ⟨_,rfl,rfl,_,rfl,?_⟩;refine w6 (λ c=>?_) (λ _=>?_)
 ·have:=V.int.inj (of_decide_eq_true c); lia
 refine ⟨_,rfl,_,rfl,t,b,rfl,bR hb,?_⟩;refine ⟨_,rfl,_,_,rfl,rfl,_,rfl,?_⟩;refine w6 (λ c=>?_) (λ _=>?_)
 ·have:b<0:=of_decide_eq_true c; lia
 have hg:=a2I (a:=t) hb;have hgl:=b4n (a:=t) hb;refine ⟨_,rfl,_,rfl,_,_,rfl,rfl,⟨hg,mG hgl hb2⟩,_,rfl,_,rfl,_,_,rfl,rfl,⟨hg,mG hgl hb2⟩,(by show 2<=sizeLine; decide),λ p hp=>?_⟩;exact q _ _ (Same.new hp _) ⟨p,rfl,upd_same⟩
theorem U4 {α:Type} (a b:α):atI [a,b] 0=some a:=B6 (j:=0) rfl
theorem W8 {α:Type} (a b:α):atI [a,b] 1=some b:=B6 (j:=1) rfl
theorem U6 {K:aE} (t:aC):bV K t t=some true:=by unfold bV; rw [if_pos (beq_self_eq_true _)]
theorem a3D {K:aE}:bV K (.type "int") (.type "bool")=some false:=by
 unfold bV;rw [if_neg (by decide)];rfl
end
section
variable {P:aL} {w:aI} {K:aE} {mg:Str->Option aC} {base:aG} {f g:aA} {fd gd:aJ} {n:Nat}
def J4 (k:Nat) (m:Int):Prop:=0<=m/\m<(k:Int)
def V0 (K:aE) (CN:aA):Sp:=λ vs H Q E=>∃ (a:aA) (xs:List V) (m:Int),vs=[.ref a,.int m]/\SqL K H a xs/\m.natAbs.log2<1920/\(∀ (i:Nat) x,m=(i:Int)->xs[i]?=some x->Q x H)/\(¬ J4 xs.length m->E (.ref CN) none H)
theorem b5t:m6 ["book","number"] ["book","number"] (j4 b3Q):=⟨rfl,rfl,rfl,by decide +kernel,rfl,by decide +kernel,by decide +kernel⟩
theorem b3A {CN:aA} (F:Fun K "house_of" "house_of" b3Q f fd) (T:x8 mg) (kN:S4 K CN) (mN:mg "NoHouse"=some (.ref CN)):FnOk P w K mg base (Q7 P w) (n+1) f fd ["book","number"] (V0 K CN):=by
 refine F.ok1 b5t (λ vs H Q E h=>?_) (λ cdv A outer s H vs Q E hr h=>?_)
 ·obtain ⟨a,xs,m,rfl,_⟩:=h
  rfl
 obtain ⟨a,xs,m,rfl,hS,hm,q,hE⟩:=h;refine ⟨_,j0 (w8 (a1a (b0i a8W a0q i8 (pv 1) (j8 m8 rfl T.len cD (d0 (pv 0) h8)))) (j5 (Y5 kN rfl mN hr.hd (d0 (b0L (pv 1) (by decide)) h8))) t7)
  (j5 (o8 (p7 j9 (pv 0) (pv 1) (λ _ _=>rfl)))),?_⟩
 refine ⟨_,rfl,_,_,rfl,rfl,_,rfl,?_⟩;have bad:¬ J4 xs.length m->a9u (a4z (tFs (a5V 1)) b0A) CN E { nx:=λ _ H'=>Q .non H',rt:=Q } (P9 ["book","number"] [.ref a,.int m]) H:=λ hb=>⟨_,rfl,m,rfl,hm,λ x=>⟨(by show 1<=1000; decide),hE hb⟩⟩;refine w6 (λ c=>?_) (λ c=>?_)
 ·have c':0<=m:=of_decide_eq_true c
  refine ⟨_,rfl,a,_,rfl,.inl hS,_,_,rfl,rfl,_,rfl,?_⟩;refine w6 (λ d=>?_) (λ d=>?_)
  ·have d':¬ m<(xs.length:Int):=of_decide_eq_false (by simpa using d)
   exact bad λ z=>d' z.2
  ·have d':m<(xs.length:Int):=of_decide_eq_true (by simpa using d)
   obtain ⟨j,rfl⟩:∃ j:Nat,m=(j:Int):=⟨m.toNat,by lia⟩;have hi:j<xs.length:=by lia
   exact ⟨_,rfl,_,rfl,a,_,_,_,rfl,rfl,hS,B6 (aV hi),q j xs[j] rfl (aV hi)⟩
 ·have c':¬ 0<=m:=of_decide_eq_false (eW.mpr c)
  exact ⟨_,rfl,a1N (bad λ z=>c' z.1)⟩
end
end Rim
namespace L2
open PySem PySem.Spec PyProof.Rows
structure b2y (K:aE) (P:iL) (d:aA):Prop where
 ex:∃ es n,K.lookup d=some ⟨.type "dict",none,.dict es n,#[]⟩/\W.KeysLit P es.toList
def b6t (K:aE) (P:iL):R2:=λ x y H Q=>∃ d z t,x=.ref d/\y=.str z/\b2y K P d/\aW K d z=some (some (.ref t))/\Q (.ref t) H
theorem a5A (K:aE) (P:iL) {X:Cx} (hK:X.K=K) (hP:X.w.params=P):IxR X (b6t K P):=by
 subst hK;subst hP;intro value slice pins s σ H x y v u Q I rx ry h hs;obtain ⟨d,z,t,rfl,rfl,⟨es,n,hl,hk⟩,e,q⟩:=h
 cases rx;obtain ⟨tk,rfl⟩:=ry;obtain ⟨m,hm⟩:=I.fr;exact W.topItem_K hm I.mod.kin hl hk e ⟨.ref t,H,I.tok _,rfl,q⟩ (by first | exact hs | exact hs _ _)
end L2
namespace L2
open PySem
theorem b3i (K:aE) {X:Cx} {tg l:aN} {tl:TE} (h:X.K=K) (hl:PE X l tl):PI X tg l (b4s K tl):=by subst h; exact a1z hl
end L2
namespace Rim
open PySem L2 Fr
def Szw (z:Str):Prop:=z="any"\/z="one"\/z="less"\/z="more"
def M1 (z:Str):List Int:=if z="any" then [] else if z="one" then [1,-1] else if z="less" then [-1] else [1]
structure Sg (K:aE) (Pm:iL) (mg:Str->Option aC) (d:aA):Prop where
 m:mg "SIZE_SIGNS"=some (.ref d)
 k:b2y K Pm d
 tt:∀ z,Szw z->∃ t,aW K d z=some (some (.ref t))/\∀ H,SqT K H t ((M1 z).map V.int)
def A4 (z:Str) (h:j3):List Int:=h.1.map (λ x=>-x)++h.2++M1 z
section
variable {P:aL} {w:aI} {K:aE} {mg:Str->Option aC} {base:aG} {f Pt d:aA} {fd:aJ} {n:Nat} {C:aA}
def O6 (K:aE):Sp:=λ vs H Q _=>∃ (ba:aA) (xs:List V) (hs:List j3) (z:Str) (kt kg:Nat),vs=[.ref ba,.str z]/\Szw z/\SqL K H ba xs/\Bk K H xs hs/\hs.length<=100/\kt<=100/\kg<=100/\(∀ h∈hs,h.1.length=kt/\h.2.length=kg) ∧
 ∀ (r:aA) (H':Hp) (rs:List aA),Same H H'->H' r=some (.lst (rs.map V.ref))->rs.length=hs.length->(∀ (i:Nat) a h,rs[i]?=some a->hs[i]?=some h->H' a=some (.lst ((A4 z h).map V.int)))->Q (.ref r) H'
theorem scHr:m6 ["houses","sizes","signs"] ["houses","sizes"] (j4 R1):=⟨rfl,rfl,rfl,by decide +kernel,rfl,by decide +kernel,by decide +kernel⟩
theorem b2t:(["takes","gives","signs"]:List Str).Nodup:=by decide +kernel
theorem b5p:(["take"]:List Str).Nodup:=by decide +kernel
theorem a0M (z:Str):(M1 z).length<=2:=by
 unfold M1
 by_cases h1:z="any"
 ·rw [if_pos h1]; decide
 by_cases h2:z="one"
 ·rw [if_neg h1,if_pos h2]; decide
 by_cases h3:z="less"
 ·rw [if_neg h1,if_neg h2,if_pos h3]; decide
 ·rw [if_neg h1,if_neg h2,if_neg h3]; decide
noncomputable def hrT {cdv:aC} {A:aY} {outer:List Env} {s:aD} {H:Hp} {E:XK} (N:x8 mg) (G:Sg K w.params mg d) :
  { t:TS // PSs (M0 E1 P w K mg base ["houses","sizes","signs"] "house_rows" (j4 R1) f cdv A outer s H E).nox (w4 R1) t } :=
 ⟨_,j0 (o7 (i:=2) scHr.nd rfl (fO rfl) (v8 A6 rfl N.list fG (d0 (p7 (a5A K w.params rfl rfl) (E6 (v:=.ref d) rfl G.m rfl) (pv 1) (λ _ _=>rfl)) h8)))
  (j5 (o8 (R5 ["takes","gives"] [2] rfl (J7 (pv 0))
   (λ _ _ _ _=>Q8 K (n:=2) rfl rfl (r9 (m9 (i:=0) b2t rfl (aM rfl)) (r9 (m9 (i:=1) b2t rfl (aM rfl)) C2)))
   (λ _ _ _ _=>j7 B8 (j7 B8 (R5 ["take"] [] rfl (b3i K rfl (pv 0)) (λ _ _ _ _=>m9 (i:=0) b5p rfl (aM rfl)) (λ _ _ _ _=>R9 K3 (pv 0))) (v8 (a7m K rfl) rfl N.list fG (d0 (pv 1) h8))) (pv 2)))))⟩
theorem a4k (F:Fun K "house_rows" "house_rows" R1 f fd) (N:x8 mg) (G:Sg K w.params mg d):FnOk P w K mg base E1 (n+1) f fd ["houses","sizes"] (O6 K):=by
 refine F.ok scHr (λ vs H Q E h=>?_) (λ cdv A outer s H vs Q E hr h=>?_)
 ·obtain ⟨ba,xs,hs,z,kt,kg,rfl,_⟩:=h
  rfl
 obtain ⟨ba,xs,hs,z,kt,kg,rfl,hz,hB,hBk,hl,hkt,hkg,hlen,k⟩:=h;refine ⟨_,(hrT N G).2,?_⟩;obtain ⟨t,ht,hT⟩:=G.tt z hz;have xl:xs.length=hs.length:=dH hBk;refine ⟨_,rfl,d,z,t,rfl,rfl,G.k,ht,t,_,rfl,.inr (hT _),λ sl hsl=>?_⟩;have e0:=Same.new hsl (.lst ((M1 z).map V.int));have hS0:upd H sl (.lst ((M1 z).map V.int)) sl=some (.lst ((M1 z).map V.int)):=upd_same;refine ⟨_,rfl,ba,rfl,⟨_,e0.seq hB⟩,λ l hl'=>?_⟩;refine V7 (D8 (e0.seq hB)) hl' (by rw [xl]; exact p6 (by lia)) (λ i y H2=>∃ a h,y=.ref a/\a≠l/\hs[i]?=some h/\H2 a=some (.lst ((A4 z h).map V.int)))
  (λ i y H2 H3 ⟨a,h,h1,h2,h3,h4⟩ e=>⟨a,h,h1,h2,h3,e a _ h2 h4⟩) (λ i x H2 ys N' hx e hl2 hN=>?_) (λ ys H2 e hl2 len pr=>?_)
 ·obtain ⟨h,hh,hHS⟩:=aS.at hBk hx
  have hH2:=hHS.same (e0.trans e);obtain ⟨a,ta,ga,rfl,p1,p2,p3⟩:=hH2;have lh:=hlen h (bN hh);refine ⟨a,_,rfl,p1,rfl,_,_,rfl,_,_,rfl,rfl,?_,?_⟩
  ·refine ⟨by simp,λ k w ek=>?_⟩
   have:¬ k<2:=λ hk=>by
    unfold blkσ at ek;rw [dB (by simpa using hk),fU] at ek
    split at ek <;> cases ek
   rw [bY (by lia),bY (by lia)]; exact ek
  refine ⟨_,rfl,ta,rfl,⟨_,p2⟩,λ a1 h1=>?_⟩;refine T8 (Y4 p2) h1 (by rw [aH,lh.1]; exact p6 (by lia)) (λ x=>.int (-(vI x))) (λ j x H' N2 hx2 e2 hN2=>?_) ?_
  ·obtain ⟨x',rfl,_⟩:=a0J hx2
   exact ⟨Wk.set (by decide),_,rfl,_,rfl,hN2⟩
  have eg:(h.1.map V.int).map (λ x=>V.int (-(vI x)))=(h.1.map λ x=>-x).map V.int:=by rw [bO,bO]; rfl
  rw [eg];have s1:=Same.new h1 (.lst ((h.1.map λ x=>-x).map V.int));refine ⟨_,rfl,ga,_,rfl,.inr (s1.tseq p3),λ a2 h2=>?_⟩;have s2:=s1.trans (Same.new h2 (.lst (h.2.map V.int)));have n12:a1≠a2:=i9 upd_same h2;have sz:=p6 (show kt+kg+2<=1000 by lia);have sg:=a0M z;refine ⟨a1,a2,_,_,rfl,rfl,(by rw [i7 n12]; exact upd_same),upd_same,?_,λ a3 h3=>?_⟩
  ·rw [aH,aH,aH,lh.1,lh.2]; lia
  have s3:=s2.trans (Same.new h3 (.lst ((h.1.map λ x=>-x).map V.int++h.2.map V.int)));have sl3:=s3 _ _ (e _ _ hS0);refine ⟨_,rfl,a3,sl,_,_,rfl,rfl,upd_same,sl3,?_,λ a4 h4=>?_⟩
  ·rw [bF,aH,aH,aH,aH,lh.1,lh.2]; lia
  refine hN _ _ (s3.trans (Same.new h4 _)) ⟨a4,h,rfl,λ z'=>?_,hh,?_⟩
  ·rw [z',s3 _ _ hl2] at h4; cases h4
  ·rw [upd_same]
   unfold A4;rw [cV,cV]
 ·have hys:ys=(ys.map a7z).map V.ref:=by
   rw [bO];refine eD λ i=>?_;rw [aQ]
   cases qi:ys[i]? with
   | none=>rfl
   | some y =>
    obtain ⟨a,_,rfl,_⟩:=pr i y qi;rfl
  refine k l H2 (ys.map a7z) (e0.trans e) (by rw [hl2]; rw [<- hys]) (by rw [aH,len,xl]) λ i a h hi hh=>?_;rw [aQ] at hi
  cases qi:ys[i]? with
  | none=>rw [qi] at hi; cases hi
  | some y =>
   obtain ⟨a',h',rfl,_,h3,h4⟩:=pr i y qi;rw [qi] at hi;have:a'=a:=bG hi;subst this;rw [hh] at h3
   cases h3;exact h4
end
def K7 (z:Str) (h:j3):List Int:=bA h.1.length 0++h.2++M1 z
def M6 (z:Str) (h:j3):List Int:=h.1++bA h.2.length 0++bA (M1 z).length 0
def C4 (z:Str) (hs:List j3) (h:j3):List (List Int):=hs.map (A4 z)++[M6 z h]
def L8 (hs:List j3):List Int:=bA hs.length 0++[1]
theorem O5 (k:Nat):(bA k [V.int 0]).flatten=(bA k (0:Int)).map V.int:=by
 induction k with
 | zero=>rfl
 | succ k ih=>rw [iK,lM,ih,iK,cJ]; rfl
section
variable {P:aL} {w:aI} {K:aE} {mg:Str->Option aC} {base:aG} {f Pt d:aA} {fd:aJ} {n:Nat} {C:aA}
abbrev OfE (z:Str) (hs:List j3) (h:j3) (S:Lp.Bo):Prop:=Lp.Of (hs.length+1) (h.1.length+h.2.length+(M1 z).length) (U7 (C4 z hs h)) (J8 (L8 hs)) (J8 (K7 z h)) S
def a4r (K:aE) (Pt:aA):Sp:=λ vs H Q _=>∃ (ba:aA) (hv:V) (xs:List V) (hs:List j3) (h:j3) (z:Str) (far:Int) (kt kg m q:Nat),vs=[.ref ba,hv,.str z]/\Szw z/\SqL K H ba xs/\Bk K H xs hs/\HS K H hv h/\HG far kt kg h/\(∀ h∈hs,HG far kt kg h)/\far<=2 ^ 60 ∧
 hs.length<=16/\kt<=20/\kg<=20/\m=hs.length+1/\q=h.1.length+h.2.length+(M1 z).length/\LT Pt H ∧
 (∀ (S:Lp.Bo) (H':Hp) (t aa wa:aA),OfE z hs h S->(∀ j,j<q->¬ S.T m j<0)->Sz 4000 m q S->Same1 Pt H H'->LT Pt H'->H' t=some (.tup [.int (S.T m q),.ref aa,.ref wa,.int S.d]) →
  H' aa=some (.lst ((u9 m q S).map V.int))->H' wa=some (.lst ((E4 m q S).map V.int))->Q (.ref t) H') ∧
 ∀ (S:Lp.Bo) (H':Hp) (c:Nat),OfE z hs h S->c<q->S.T m c<0->(∀ i,i<m->¬ 0<S.T i c)->Same1 Pt H H'->LT Pt H'->Q .non H'
theorem scEa:m6 ["houses","house","sizes","takes","gives","signs","earned","paid"] ["houses","house","sizes"] (j4 Z6):=⟨rfl,rfl,rfl,by decide +kernel,rfl,by decide +kernel,by decide +kernel⟩
noncomputable def eaT {cdv:aC} {A:aY} {outer:List Env} {s:aD} {H:Hp} {E:XK} {f1 f2:aA} {d1 d2:aJ} (N:x8 mg) (G:Sg K w.params mg d) (Cg:P3 P w K mg base n "greatest" ["goal","rows","bounds"] (R0 K C Pt) f1 d1) (Ch:P3 P w K mg base n "house_rows" ["houses","sizes"] (O6 K) f2 d2)
  (hr:Room n (A.deeper (fY "greatest_earned" (j4 Z6) s.heap.objs.size f cdv))) :
  { t:TS // PSs (M0 E1 P w K mg base ["houses","house","sizes","takes","gives","signs","earned","paid"] "greatest_earned" (j4 Z6) f cdv A outer s H E).nox (w4 Z6) t } :=
 ⟨_,j0 (K5 (pv 1) (W9 rfl (r9 (m9 (i:=3) scEa.nd rfl (aM rfl)) (r9 (m9 (i:=4) scEa.nd rfl (aM rfl)) C2))))
  (j0 (o7 (i:=5) scEa.nd rfl (aM rfl) (v8 A6 rfl N.list fG (d0 (p7 (a5A K w.params rfl rfl) (E6 (v:=.ref d) rfl G.m rfl) (pv 2) (λ _ _=>rfl)) h8)))
  (v6 (o7 (i:=6) scEa.nd rfl (aM rfl) (j7 B8 (j7 B8 (j7 U0 (v7 (d0 i8 h8)) (j8 m8 rfl N.len cD (d0 (pv 3) h8))) (v8 A6 rfl N.list fG (d0 (pv 4) h8))) (pv 5)))
  (v6 (o7 (i:=7) scEa.nd rfl (aM rfl) (j7 B8 (j7 B8 (v8 A6 rfl N.list fG (d0 (pv 3) h8)) (j7 U0 (v7 (d0 i8 h8)) (j8 m8 rfl N.len cD (d0 (pv 4) h8)))) (j7 U0 (v7 (d0 i8 h8)) (j8 m8 rfl N.len cD (d0 (pv 5) h8)))))
  (j5 (o8 (j6 Cg.ok hr rfl Cg.m Cg.k Cg.b .nil v5 (d0 (pv 6) (d0 (j7 B8 (j6 Ch.ok hr rfl Ch.m Ch.k Ch.b .nil v5 (d0 (pv 0) (d0 (pv 2) h8))) (v7 (d0 (pv 7) h8)))
   (d0 (j7 B8 (j7 U0 (v7 (d0 i8 h8)) (j8 m8 rfl N.len cD (d0 (pv 0) h8))) (v7 (d0 i8 h8))) h8)))))))))⟩
theorem b2f:∀ k,k<20->Lp.bnd (2 ^ 60) (k+1)<2 ^ 4000:=by decide +kernel
theorem S8 {rows:List (List Int)} {i j:Nat} {row:List Int} (h:rows[i]?=some row):U7 rows i j=row.getD j 0:=by
 have e:rows.getD i []=row:=by rw [aZ,h]; rfl
 unfold U7;rw [e]
theorem U9 {l:List Int} {M:Nat} (h:∀ x∈l,x.natAbs<=M) (j:Nat):(l.getD j 0).natAbs<=M:=by
 rw [aZ]
 cases e:l[j]? with
 | none=>exact dA _
 | some x=>exact h x (bN e)
theorem a0P (z:Str):∀ x∈M1 z,x.natAbs<=2 ^ 60:=by
 unfold M1
 by_cases h1:z="any"
 ·rw [if_pos h1]; decide
 by_cases h2:z="one"
 ·rw [if_neg h1,if_pos h2]; decide
 by_cases h3:z="less"
 ·rw [if_neg h1,if_neg h2,if_pos h3]; decide
 ·rw [if_neg h1,if_neg h2,if_neg h3]; decide
theorem b2b {z:Str} {hs:List j3} {h:j3} {far:Int} {kt kg:Nat} (hh:HG far kt kg h) (hhs:∀ h∈hs,HG far kt kg h) (hf:far<=2 ^ 60) (q:Nat) :
  ∀ v,Lp.Fits (2 ^ 60) (hs.length+1+1) (Lp.Vv (hs.length+1) q (U7 (C4 z hs h)) (J8 (L8 hs)) (J8 (K7 z h)) v):=by
 have ht:∀ g:j3,HG far kt kg g->∀ x∈g.1,x.natAbs<=2 ^ 60:=λ g hg x hx=>by have:=hg.t x hx; lia
 have hg':∀ g:j3,HG far kt kg g->∀ x∈g.2,x.natAbs<=2 ^ 60:=λ g hg x hx=>by have:=hg.g x hx; lia
 have z0:∀ k:Nat,∀ x∈List.replicate k (0:Int),x.natAbs<=2 ^ 60:=λ k x hx=>by rw [(vL.mp hx).2]; decide
 have rows:∀ r∈C4 z hs h,∀ x∈r,x.natAbs<=2 ^ 60:=λ r hr x hx=>by
  unfold C4 at hr;rcases bU.mp hr with hr | hr
  ·obtain ⟨g,hg,rfl⟩:=bL.mp hr
   unfold A4 at hx;rcases bU.mp hx with hx | hx
   ·rcases bU.mp hx with hx | hx
    ·obtain ⟨y,hy,rfl⟩:=bL.mp hx
     have:=ht g (hhs g hg) y hy;rw [mI]; exact this
    ·exact hg' g (hhs g hg) x hx
   ·exact a0P z x hx
  ·rw [cX.mp hr] at hx
   unfold M6 at hx;rcases bU.mp hx with hx | hx
   ·rcases bU.mp hx with hx | hx
    ·exact ht h hh x hx
    ·exact z0 _ x hx
   ·exact z0 _ x hx
 have goal:∀ x∈K7 z h,x.natAbs<=2 ^ 60:=λ x hx=>by
  unfold K7 at hx;rcases bU.mp hx with hx | hx
  ·rcases bU.mp hx with hx | hx
   ·exact z0 _ x hx
   ·exact hg' h hh x hx
  ·exact a0P z x hx
 have bnds:∀ x∈L8 hs,x.natAbs<=2 ^ 60:=λ x hx=>by
  unfold L8 at hx;rcases bU.mp hx with hx | hx
  ·exact z0 _ x hx
  ·rw [cX.mp hx]; decide
 intro v i _;unfold Lp.Vv
 split
 ·split
  ·unfold U7
   refine U9 (λ x hx=>?_) v;rw [aZ] at hx
   cases e:(C4 z hs h)[i]? with
   | none=>rw [e] at hx; cases hx
   | some r=>rw [e] at hx; exact rows r (bN e) x hx
  ·split
   ·rw [mI]; exact U9 goal v
   ·exact dA _
 ·split
  ·split <;> decide
  ·split
   ·exact U9 bnds i
   ·exact dA _
end
section
variable {P:aL} {w:aI} {K:aE} {mg:Str->Option aC} {base:aG} {f Pt d:aA} {fd:aJ} {n:Nat} {C:aA}
theorem a6S {H':Hp} {rs:List aA} {hs:List j3} {z:Str} (hl:rs.length=hs.length) (h:∀ (i:Nat) a g,rs[i]?=some a->hs[i]?=some g->H' a=some (.lst ((A4 z g).map V.int))):RowsL K H' (rs.map V.ref) (hs.map (A4 z)):=by
 induction hs generalizing rs with
 | nil =>
  cases rs with
  | nil=>exact .nil
  | cons a r=>simp at hl
 | cons g hs ih =>
  cases rs with
  | nil=>simp at hl
  | cons a r=>exact .cons ⟨a,rfl,SqL.of (h 0 a g rfl rfl)⟩ (ih (by simpa using hl) λ i b g' h1 h2=>h (i+1) b g' (by simpa using h1) (by simpa using h2))
theorem a7v {f1 f2:aA} {d1 d2:aJ} (F:Fun K "greatest_earned" "greatest_earned" Z6 f fd) (N:x8 mg) (G:Sg K w.params mg d) (Cg:P3 P w K mg base n "greatest" ["goal","rows","bounds"] (R0 K C Pt) f1 d1) (Ch:P3 P w K mg base n "house_rows" ["houses","sizes"] (O6 K) f2 d2) :
  FnOk P w K mg base E1 (n+1) f fd ["houses","house","sizes"] (a4r K Pt):=by
 refine F.ok scEa (λ vs H Q E h=>?_) (λ cdv A outer s H vs Q E hr h=>?_)
 ·obtain ⟨ba,hv,xs,hs,h,z,far,kt,kg,m,q,rfl,_⟩:=h
  rfl
 obtain ⟨ba,hv,xs,hs,h,z,far,kt,kg,m,q,rfl,hz,hB,hBk,hHS,hh,hhs,hfar,h16,hkt,hkg,rfl,rfl,L,kT,kN⟩:=h;refine ⟨_,(eaT N G Cg Ch hr).2,?_⟩;obtain ⟨ha,ta,ga,rfl,p1,p2,p3⟩:=id hHS;obtain ⟨t,ht,hT⟩:=G.tt z hz;have xl:xs.length=hs.length:=dH hBk;have sg:=a0M z;have s1k:=p6 (show (1000:Nat)<=1000 from aU _);have l1:=hh.lt;have l2:=hh.lg;refine ⟨_,rfl,ha,_,rfl,p1,rfl,_,_,rfl,_,_,rfl,rfl,?_⟩;refine ⟨_,rfl,d,z,t,rfl,rfl,G.k,ht,t,_,rfl,.inr (hT _),λ sl hsl=>?_⟩;have e0:=Same.new hsl (.lst ((M1 z).map V.int));have hS0:upd H sl (.lst ((M1 z).map V.int)) sl=some (.lst ((M1 z).map V.int)):=upd_same;refine ⟨λ σ' H1=>∃ ea:aA,σ'=[some (.ref ba),some (.ref ha),some (.str z),some (.ref ta),some (.ref ga),some (.ref sl),some (.ref ea),none]/\Same (upd H sl (.lst ((M1 z).map V.int))) H1/\H1 ea=some (.lst ((K7 z h).map V.int)),?_,?_⟩
 ·refine ⟨(by show 1<=sizeLine; decide),λ a1 h1=>?_⟩
  have s1:=Same.new h1 (.lst [.int 0]);refine ⟨_,rfl,ta,_,rfl,.inr (s1.tseq (e0.tseq p2)),a1,_,_,rfl,rfl,upd_same,by lia,by rw [aH,l1]; lia,by rw [aH,l1,bW]; simp; lia,λ a2 h2=>?_⟩;rw [aH,bW,O5];have s2:=s1.trans (Same.new h2 (.lst ((bA h.1.length (0:Int)).map V.int)));refine ⟨_,rfl,ga,_,rfl,.inr (s2.tseq (e0.tseq p3)),λ a3 h3=>?_⟩;have s3:=s2.trans (Same.new h3 (.lst (h.2.map V.int)));have n23:a2≠a3:=i9 upd_same h3;refine ⟨a2,a3,_,_,rfl,rfl,(by rw [i7 n23]; exact upd_same),upd_same,?_,λ a4 h4=>?_⟩
  ·rw [aH,aH,bQ,l1,l2]; lia
  have s4:=s3.trans (Same.new h4 (.lst ((bA h.1.length (0:Int)).map V.int++h.2.map V.int)));refine ⟨_,rfl,a4,sl,_,_,rfl,rfl,upd_same,s4 _ _ hS0,?_,λ a5 h5=>?_⟩
  ·rw [bF,aH,aH,aH,bQ,l1,l2]; lia
  refine ⟨a5,rfl,s4.trans (Same.new h5 _),?_⟩;rw [upd_same];unfold K7;rw [cV,cV]
 intro σ1 H1 hM_; refine E9 λ G_ hG_=>?_; obtain ⟨ea,rfl,e1,he⟩:=hM_; subst hG_;have e01:=e0.trans e1;refine ⟨λ σ' H2=>∃ pa:aA,σ'=[some (.ref ba),some (.ref ha),some (.str z),some (.ref ta),some (.ref ga),some (.ref sl),some (.ref ea),some (.ref pa)]/\Same H1 H2/\H2 pa=some (.lst ((M6 z h).map V.int)),?_,?_⟩
 ·refine ⟨_,rfl,ta,_,rfl,.inr (e01.tseq p2),λ a1 h1=>?_⟩
  have s1:=Same.new h1 (.lst (h.1.map V.int));refine ⟨(by show 1<=sizeLine; decide),λ a2 h2=>?_⟩;have s2:=s1.trans (Same.new h2 (.lst [.int 0]));have n12:a1≠a2:=i9 upd_same h2;refine ⟨_,rfl,ga,_,rfl,.inr (s2.tseq (e01.tseq p3)),a2,_,_,rfl,rfl,upd_same,by lia,by rw [aH,l2]; lia,by rw [aH,l2,bW]; simp; lia,λ a3 h3=>?_⟩;rw [aH,bW,O5];have s3:=s2.trans (Same.new h3 (.lst ((bA h.2.length (0:Int)).map V.int)));have c1:=(Same.new h3 (.lst ((bA h.2.length (0:Int)).map V.int))) a1 _ ((Same.new h2 (.lst [.int 0])) a1 _ upd_same);refine ⟨a1,a3,_,_,rfl,rfl,c1,upd_same,?_,λ a4 h4=>?_⟩
  ·rw [aH,aH,bQ,l1,l2]; lia
  have s4:=s3.trans (Same.new h4 (.lst (h.1.map V.int++(bA h.2.length (0:Int)).map V.int)));refine ⟨(by show 1<=sizeLine; decide),λ a5 h5=>?_⟩;have s5:=s4.trans (Same.new h5 (.lst [.int 0]));have lz:((M1 z).map V.int).length=(M1 z).length:=aH _;refine ⟨_,rfl,sl,_,rfl,.inl (SqL.of (s5 _ _ (e1 _ _ hS0))),a5,_,_,rfl,rfl,upd_same,by lia,by rw [lz]; lia,by rw [lz,bW]; simp; lia,λ a6 h6=>?_⟩;rw [lz,bW,O5];have c4:=(Same.new h6 (.lst ((bA (M1 z).length (0:Int)).map V.int))) a4 _ ((Same.new h5 (.lst [.int 0])) a4 _ upd_same);refine ⟨a4,a6,_,_,rfl,rfl,c4,upd_same,?_,λ a7 h7=>?_⟩
  ·rw [bF,aH,aH,aH,bQ,bQ,l1,l2]; lia
  refine ⟨a7,rfl,(s5.trans (Same.new h6 _)).trans (Same.new h7 _),?_⟩;rw [upd_same];unfold M6;rw [cV,cV]
 intro σ2 H2 hM_; refine E9 λ G_ hG_=>?_; obtain ⟨pa,rfl,e2,hp⟩:=hM_; subst hG_;have e02:=e01.trans e2;refine ⟨_,rfl,_,rfl,_,rfl,?_⟩;refine ⟨ba,xs,hs,z,kt,kg,rfl,hz,e02.seq hB,hBk.same e02,by lia,by lia,by lia,λ g hg=>⟨(hhs g hg).lt,(hhs g hg).lg⟩,λ r H3 rs e3 hr3 lr hrs=>?_⟩;refine ⟨_,rfl,(by show 1<=sizeLine; decide),λ a1 h1=>?_⟩;have s1:=e3.trans (Same.new h1 (.lst [.ref pa]));have nr1:r≠a1:=i9 hr3 h1;refine ⟨r,a1,_,_,rfl,rfl,(by rw [i7 nr1]; exact hr3),upd_same,?_,λ a2 h2=>?_⟩
 ·rw [aH,lr]; simp; lia
 have t2:=(Same.new h1 (.lst [.ref pa])).trans (Same.new h2 (.lst (rs.map V.ref++[.ref pa])));have s2:=s1.trans (Same.new h2 (.lst (rs.map V.ref++[.ref pa])));refine ⟨(by show 1<=sizeLine; decide),λ a3 h3=>?_⟩;have t3:=t2.trans (Same.new h3 (.lst [.int 0]));have s3:=s2.trans (Same.new h3 (.lst [.int 0]));refine ⟨_,rfl,ba,_,rfl,.inl ((e02.trans s3).seq hB),a3,_,_,rfl,rfl,upd_same,by lia,by rw [xl]; lia,by rw [xl,bW]; simp; lia,λ a4 h4=>?_⟩;rw [xl,bW,O5];have t4:=t3.trans (Same.new h4 (.lst ((bA hs.length (0:Int)).map V.int)));have s4:=s3.trans (Same.new h4 (.lst ((bA hs.length (0:Int)).map V.int)));refine ⟨(by show 1<=sizeLine; decide),λ a5 h5=>?_⟩;have t5:=t4.trans (Same.new h5 (.lst [.int 1]));have s5:=s4.trans (Same.new h5 (.lst [.int 1]));have n45:a4≠a5:=i9 upd_same h5;refine ⟨a4,a5,_,_,rfl,rfl,(by rw [i7 n45]; exact upd_same),upd_same,?_,λ a6 h6=>?_⟩
 ·rw [aH,bQ]; simp; lia
 have t6:=t5.trans (Same.new h6 (.lst ((bA hs.length (0:Int)).map V.int++[.int 1])));have s6:=s5.trans (Same.new h6 (.lst ((bA hs.length (0:Int)).map V.int++[.int 1])));have g3:∀ b o,upd (upd H3 a1 (.lst [.ref pa])) a2 (.lst (rs.map V.ref++[.ref pa])) b=some o->upd (upd (upd (upd (upd (upd H3 a1 (.lst [.ref pa])) a2 (.lst (rs.map V.ref++[.ref pa]))) a3 (.lst [.int 0])) a4 (.lst ((bA hs.length (0:Int)).map V.int))) a5 (.lst [.int 1])) a6 (.lst ((bA hs.length (0:Int)).map V.int++[.int 1])) b=some o :=
  (((Same.new h3 (.lst [.int 0])).trans (Same.new h4 (.lst ((bA hs.length (0:Int)).map V.int)))).trans (Same.new h5 (.lst [.int 1]))).trans (Same.new h6 (.lst ((bA hs.length (0:Int)).map V.int++[.int 1])))
 have eb:(bA hs.length (0:Int)).map V.int++[.int 1]=(L8 hs).map V.int:=by unfold L8; rw [cV]; rfl
 have hA:Same H (upd (upd (upd (upd (upd (upd H3 a1 (.lst [.ref pa])) a2 (.lst (rs.map V.ref++[.ref pa]))) a3 (.lst [.int 0])) a4 (.lst ((bA hs.length (0:Int)).map V.int))) a5 (.lst [.int 1])) a6 (.lst ((bA hs.length (0:Int)).map V.int++[.int 1]))):=e02.trans s6;refine ⟨ea,a2,a6,K7 z h,rs.map V.ref++[.ref pa],C4 z hs h,L8 hs,hs.length+1,h.1.length+h.2.length+(M1 z).length,2 ^ 60,rfl,SqL.of (s6 _ _ (e2 _ _ he)),SqL.of (g3 _ _ upd_same),?_,?_,?_,?_,?_,?_,by lia,by lia,?_,b2b hh hhs hfar _,b2f _ (by lia),L.same hA,λ S H' t' aa wa O hn sz e' L' g1 g2 g4=>kT S H' t' aa wa O hn sz (λ b o hb q'=>e' b o hb (hA b o q')) L' g1 g2 g4,λ S H' c O hc hneg hno e' L'=>kN S H' c O hc hneg hno (λ b o hb q'=>e' b o hb (hA b o q')) L'⟩
 ·unfold C4
  refine aS.app ((a6S (K:=K) lr hrs).same t6) (.cons ⟨pa,rfl,SqL.of (s6 _ _ hp)⟩ .nil)
 ·rw [<- eb]; exact SqL.of upd_same
 ·unfold C4; simp
 ·unfold L8; simp
 ·unfold K7; simp [vM]
 ·intro r hr
  unfold C4 at hr;rcases bU.mp hr with hr | hr
  ·obtain ⟨g,hg,rfl⟩:=bL.mp hr
   unfold A4;rw [bF,bF,aH,(hhs g hg).lt,(hhs g hg).lg,l1,l2]
  ·rw [cX.mp hr]
   unfold M6;simp;lia
 ·intro i hi
  unfold J8 L8;rw [aZ]
  by_cases h':i<hs.length
  ·rw [dB (by simpa using h'),fU,if_pos h']; exact dR _
  ·rw [dP (by simp; lia)]
   have:i - (bA hs.length (0:Int)).length=0:=by simp; lia
   rw [this]; decide
end
section
variable {P:aL} {w:aI} {K:aE} {mg:Str->Option aC} {base:aG} {f Pt d:aA} {fd:aJ} {n:Nat} {C:aA}
theorem b6C:m6 ["book","number","sizes"] ["book","number","sizes"] (j4 a5S):=⟨rfl,rfl,rfl,by decide +kernel,rfl,by decide +kernel,by decide +kernel⟩
theorem scHa:m6 ["houses","house","sizes","found","top","amounts","weights","bottom"] ["houses","house","sizes"] (j4 a9K):=⟨rfl,rfl,rfl,by decide +kernel,rfl,by decide +kernel,by decide +kernel⟩
end
end Rim
namespace Lp
section
variable {m q:Nat} {A:Nat->Nat->Int} {b c:Nat->Int} {S:Bo}
theorem Of.way (O:Of m q A b c S) {cc:Nat} (hc:cc<q) (neg:S.T m cc<0) (no:∀ i,i<m->¬ 0<S.T i cc):∃ y:Nat->Int,(∀ j,j<q->0<=y j)/\(∀ i,i<m->sumTo (λ j=>A i j*y j) q<=0)/\0<sumTo (λ j=>c j*y j) q:=by
 have K0:=(O.k _).mp (O.w.ray_ker (c:=cc) (by lia));obtain ⟨rows,goal⟩:=ker0.mp K0;have zc:ray m S cc (q+m+1)=0:=by
  rw [<- O.w.oq];exact O.w.ray_out (by lia) (by lia) (by lia)
 have zg:ray m S cc (q+m) = - S.T m cc:=by
  rw [<- O.w.im];exact O.w.ray_in (by lia) (by lia)
 have nn:∀ v,v<q+m->0<=ray m S cc v:=λ v hv=>by
  rcases O.w.all v hv with ⟨i,hi,e⟩ | ⟨j,hj,e⟩
  ·rw [<- e,O.w.ray_in (by lia) (by lia)]
   have:=no i hi;lia
  ·rw [<- e]
   by_cases hjc:j=cc
   ·subst hjc
    rw [Wf.ray_c];exact bR O.w.pos
   ·rw [O.w.ray_out (by lia) (by lia) hjc]; exact dR _
 refine ⟨ray m S cc,λ j hj=>nn j (by lia),λ i hi=>?_,by rw [<- goal,zg]; lia⟩;have r0:=rows i hi;rw [zc,cC,gP] at r0;have n0:=nn (q+i) (by lia);lia
theorem Of.bounded (O:Of m q A b c S) {i0 l cc:Nat} (h0:i0<m) (hl:l<m) (hA:∀ j,j<q->A i0 j+A l j=c j) (hc:cc<q) (neg:S.T m cc<0) (no:∀ i,i<m->¬ 0<S.T i cc):False:=by
 obtain ⟨y,_,rows,goal⟩:=O.way hc neg no;have r0:=rows i0 h0;have rl:=rows l hl;have e:sumTo (λ j=>c j*y j) q=sumTo (λ j=>A i0 j*y j) q+sumTo (λ j=>A l j*y j) q:=by
  rw [<- S9];refine sum_congr λ j hj=>?_;rw [<- hA j hj,fE]
 lia
end
end Lp
namespace Rim
open PySem L2 Fr
section
variable {P:aL} {w:aI} {K:aE} {mg:Str->Option aC} {base:aG} {f Pt d:aA} {fd:aJ} {n:Nat} {C:aA}
end
section
variable {P:aL} {w:aI} {K:aE} {mg:Str->Option aC} {base:aG} {f Pt d:aA} {fd:aJ} {n:Nat} {C:aA}
end
theorem SqT.same1 {K:aE} {P:aA} {pos:Pos} {qual:Str} {H H':Hp} {a:aA} {xs:List V} (T:LamTab P pos qual H) (e:Same1 P H H') (h:SqT K H a xs):SqT K H' a xs:=by
 have ne:∀ o,H a=some o->(∀ ps,o≠.tbl ps)->a≠P:=λ o q n z=>by
  subst z;rcases T with t | ⟨c,t,_⟩
  ·rw [q] at t; exact n _ (bG t)
  ·rw [q] at t; exact n _ (bG t)
 rcases h with (h | ⟨o,h⟩) | h
 ·exact .inl (.inl (e _ _ (ne _ h λ _=>nofun) h))
 ·exact .inl (.inr ⟨o,e _ _ (ne _ h λ _=>nofun) h⟩)
 ·exact .inr h
theorem HS.same1 {K:aE} {Pt:aA} {H H':Hp} {v:V} {h:j3} (T:LT Pt H) (e:Same1 Pt H H') (x:HS K H v h):HS K H' v h:=by
 obtain ⟨a,t,g,h0,h1,h2,h3⟩:=x;exact ⟨a,t,g,h0,SqT.same1 T e h1,SqT.same1 T e h2,SqT.same1 T e h3⟩
theorem Bk.same1 {K:aE} {Pt:aA} {H H':Hp} {vs:List V} {hs:List j3} (T:LT Pt H) (e:Same1 Pt H H') (x:Bk K H vs hs):Bk K H' vs hs:=aS.imp' (λ _ _ r=>HS.same1 T e r) x
theorem D7 {l r:List Int} (j:Nat):(l++r).getD j 0=if j<l.length then l.getD j 0 else r.getD (j - l.length) 0:=by
 rw [aZ,aZ,aZ]
 by_cases h:j<l.length
 ·rw [if_pos h,dB h]
 ·rw [if_neg h,dP (by lia)]
theorem G8 (k j:Nat):(bA k (0:Int)).getD j 0=0:=by
 rw [aZ,fU]
 split <;> rfl
theorem a0W (l:List Int) (j:Nat):(l.map λ x=>-x).getD j 0 = - l.getD j 0:=by
 rw [aZ,aZ,aQ]
 cases l[j]? <;> rfl
theorem a8P {z:Str} {hs:List j3} {h:j3} {i:Nat} (hi:hs[i]?=some h) (j:Nat):U7 (C4 z hs h) i j+U7 (C4 z hs h) hs.length j=J8 (K7 z h) j:=by
 have hil:i<hs.length:=(bP.mp hi).1;have e1:(C4 z hs h)[i]?=some (A4 z h):=by
  unfold C4;rw [dB (by rw [aH]; exact hil),aQ,hi]; rfl
 have e2:(C4 z hs h)[hs.length]?=some (M6 z h):=by
  unfold C4;rw [dP (by rw [aH]; exact aU _),aH,hV]; rfl
 rw [S8 e1,S8 e2];unfold J8 A4 M6 K7;simp only [D7,G8,a0W,bF,aH,bQ]
 by_cases h1:j<h.1.length
 ·rw [if_pos (by lia),if_pos h1,if_pos (by lia),if_pos h1,if_pos (by lia),if_pos h1]; lia
 ·by_cases h2:j<h.1.length+h.2.length
  ·rw [if_pos h2,if_neg h1,if_pos h2,if_neg h1,if_pos h2,if_neg h1,gP]
  ·rw [if_neg h2,if_neg h2,if_neg h2,gP]
section
variable {P:aL} {w:aI} {K:aE} {mg:Str->Option aC} {base:aG} {f Pt d CN:aA} {fd:aJ} {n:Nat} {C:aA}
structure L9 (P:aL) (w:aI) (K:aE) (mg:Str->Option aC) (base:aG) (n:Nat) (x:Str) (ps:List Str) (sp:Sp) (fa:aA) (d:aJ):Prop where
 ok:FnOk P w K mg base (Q7 P w) n fa d ps sp
 b:Binds K d ps []
 k:dL K (.ref fa)=true
 m:mg x=some (.ref fa)
abbrev mE (hs:List j3):Nat:=hs.length+1
abbrev qE (z:Str) (h:j3):Nat:=h.1.length+h.2.length+(M1 z).length
structure BookIn (K:aE) (H:Hp) (ba:aA) (xs:List V) (hs:List j3) (far:Int) (kt kg:Nat):Prop where
 l:SqL K H ba xs
 b:Bk K H xs hs
 g:∀ h∈hs,HG far kt kg h
 far:far<=2 ^ 60
 few:hs.length<=16
 t:kt<=20
 k:kg<=20
def Best (z:Str) (hs:List j3) (h:j3) (S:Lp.Bo):Prop:=OfE z hs h S/\(∀ j,j<qE z h->¬ S.T (mE hs) j<0)/\Sz 4000 (mE hs) (qE z h) S
def a0g (K:aE) (CN Pt:aA):Sp:=λ vs H Q E=>∃ (ba:aA) (xs:List V) (hs:List j3) (number:Int) (z:Str) (far:Int) (kt kg:Nat),vs=[.ref ba,.int number,.str z]/\Szw z/\BookIn K H ba xs hs far kt kg/\number.natAbs.log2<1920/\LT Pt H ∧
 (∀ (i:Nat) (h:j3) (S:Lp.Bo) (H':Hp) (u:V),number=(i:Int)->hs[i]?=some h->Best z hs h S->Same1 Pt H H'->LT Pt H'->FrT H' u (low (S.T (mE hs) (qE z h)) S.d)->Q u H')/\(¬ J4 xs.length number->E (.ref CN) none H)
theorem a7r {z:Str} {hs:List j3} {h:j3} {S:Lp.Bo} (B:Best z hs h S):0<S.d/\S.d<2 ^ 8000:=by
 refine ⟨B.1.w.pos,?_⟩;have h1:S.d.natAbs<2 ^ 4000:=B.2.2.2;have h2:(2:Nat) ^ 4000<=2 ^ 8000:=lV (by decide) (by decide);have h3:S.d=(S.d.natAbs:Int):=by have:=B.1.w.pos; lia
 rw [h3]
 exact_mod_cast bM h1 h2
theorem a7o {m q:Nat} {A:Nat->Nat->Int} {b c:Nat->Int} {S:Lp.Bo} (O:Lp.Of m q A b c S) (sz:Sz 4000 m q S) {v:Nat} (hv:v<q):Big 4000 (Lp.valIn m S q v):=by
 have hv':v<q+m:=by lia
 rcases O.w.all v hv' with ⟨i,hi,e⟩ | ⟨j,hj,e⟩
 ·have:Lp.valIn m S q v=S.T i q:=by
   unfold Lp.valIn;rw [Lp.sum_one hi λ k hk hn=>if_neg λ z=>hn (O.w.ii k i hk hi (z.trans e.symm)),if_pos e]
  rw [this];exact sz.1 i q (by lia) (by lia)
 ·have:Lp.valIn m S q v=0:=Lp.sum_zero λ k hk=>if_neg λ z=>O.w.io k j hk hj (z.trans e.symm)
  rw [this]
  show (0:Int).natAbs<2 ^ 4000
  exact qX (by decide)
def a0E (K:aE) (Pt:aA):Sp:=λ vs H Q _=>∃ (ba:aA) (hv:V) (xs:List V) (hs:List j3) (h:j3) (z:Str) (far:Int) (kt kg:Nat),vs=[.ref ba,hv,.str z]/\Szw z/\BookIn K H ba xs hs far kt kg/\HS K H hv h/\HG far kt kg h/\LT Pt H ∧
 (∀ (S:Lp.Bo) (H':Hp) (u:V),Best z hs h S->Same1 Pt H H'->LT Pt H'->FrT H' u (low (S.T (mE hs) (qE z h)) S.d)->Q u H') ∧
 ∀ (S:Lp.Bo) (H':Hp) (c:Nat),OfE z hs h S->c<qE z h->S.T (mE hs) c<0->(∀ i,i<mE hs->¬ 0<S.T i c)->Same1 Pt H H'->LT Pt H'->Q .non H'
theorem b1R {f2 f3:aA} {d2 d3:aJ} (F:Fun K "held_against" "held_against" a9K f fd) (Ce:P3 P w K mg base n "greatest_earned" ["houses","house","sizes"] (a4r K Pt) f2 d2)
  (Cl:Cal P w K mg base n "lowest" ["top","bottom"] a2K f3 d3):FnOk P w K mg base E1 (n+1) f fd ["houses","house","sizes"] (a0E K Pt):=by
 refine F.ok scHa (λ vs H Q E h=>?_) (λ cdv A outer s H vs Q E hr h=>?_)
 ·obtain ⟨ba,hv,xs,hs,h,z,far,kt,kg,rfl,_⟩:=h
  rfl
 obtain ⟨ba,hv,xs,hs,h,z,far,kt,kg,rfl,hz,B,hH,gh,L,kG,kN⟩:=h;refine ⟨_,j0 (o7 (i:=3) scHa.nd rfl (aM rfl) (j6 Ce.ok hr rfl Ce.m Ce.k Ce.b .nil v5 (d0 (pv 0) (d0 (pv 1) (d0 (pv 2) h8)))))
  (j0 (w8 (r6 a0Z (pv 3) M2 (r8 _)) (j5 (o8 M2)) t7)
  (j0 (K5 (pv 3) (W9 rfl (r9 (m9 (i:=4) scHa.nd rfl (aM rfl)) (r9 (m9 (i:=5) scHa.nd rfl (aM rfl)) (r9 (m9 (i:=6) scHa.nd rfl (aM rfl)) (r9 (m9 (i:=7) scHa.nd rfl (aM rfl)) C2))))))
  (j5 (o8 (j6 Cl.ok hr rfl Cl.m Cl.k Cl.b .nil v5 (d0 (pv 4) (d0 (pv 7) h8))))))),?_⟩
 refine ⟨_,rfl,_,rfl,_,rfl,ba,hv,xs,hs,h,z,far,kt,kg,mE hs,qE z h,rfl,hz,B.l,B.b,hH,gh,B.g,B.far,B.few,B.t,B.k,rfl,rfl,L,λ S H' t aa wa O hn sz e' L' g1 g2 g3=>?_,λ S H' c O hc hneg hno e' L'=>?_⟩
 ·have Bs:Best z hs h S:=⟨O,hn,sz⟩
  obtain ⟨b1,b2⟩:=a7r Bs;refine ⟨_,rfl,rfl,_,rfl,a1Q ?_⟩;refine ⟨_,rfl,t,_,rfl,SqT.of g1,rfl,_,_,rfl,_,_,rfl,_,_,rfl,_,_,rfl,rfl,?_⟩;exact ⟨_,rfl,_,rfl,_,_,rfl,b1,b2,λ u H2 e2 hu=>kG S H2 u Bs (λ b o hb q'=>e2 _ _ (e' b o hb q')) (L'.same e2) hu⟩
 ·refine ⟨_,rfl,rfl,_,rfl,a1N ?_⟩
  exact kN S H' c O hc hneg hno e' L'
theorem a8w {f1 f2:aA} {d1 d2:aJ} (F:Fun K "share" "share" a5S f fd) (Ch:L9 P w K mg base n "house_of" ["book","number"] (V0 K CN) f1 d1) (Ce:P3 P w K mg base n "held_against" ["houses","house","sizes"] (a0E K Pt) f2 d2):FnOk P w K mg base (Q7 P w) (n+1) f fd ["book","number","sizes"] (a0g K CN Pt):=by
 refine F.ok1 b6C (λ vs H Q E h=>?_) (λ cdv A outer s H vs Q E hr h=>?_)
 ·obtain ⟨ba,xs,hs,number,z,far,kt,kg,rfl,_⟩:=h
  rfl
 obtain ⟨ba,xs,hs,number,z,far,kt,kg,rfl,hz,B,lm,L,kG,kE⟩:=h;refine ⟨_,j5 (o8 (j6 Ce.ok hr rfl Ce.m Ce.k Ce.b .nil v5 (d0 (pv 0) (d0 (j6 Ch.ok hr rfl Ch.m Ch.k Ch.b .nil B9 (d0 (pv 0) (d0 (pv 1) h8))) (d0 (pv 2) h8))))),?_⟩;refine ⟨_,rfl,_,rfl,_,rfl,ba,xs,number,rfl,B.l,lm,λ i hv hi hx=>?_,kE⟩;obtain ⟨h,hh,hH⟩:=aS.at B.b hx;have gh:=B.g h (bN hh);refine ⟨_,rfl,ba,hv,xs,hs,h,z,far,kt,kg,rfl,hz,B,hH,gh,L,λ S H' u Bs e' L' hu=>kG i h S H' u hi hh Bs e' L' hu,λ S H' c O hc hneg hno e' L'=>(O.bounded (i0:=i) (l:=hs.length) (by have:=(bP.mp hh).1; lia) (by lia) (λ j _=>a8P hh j) hc hneg hno).elim⟩
end
end Rim
namespace L2
open PySem
theorem Big.mono {n m:Nat} {i:Int} (h:Big n i) (hn:n<=m):Big m i:=Rim.Big.mono h hn
theorem Big.mul {n m:Nat} {i j:Int} (h:Big n i) (k:Big m j):Big (n+m) (i*j):=Rim.Big.mul h k
end L2
namespace Fr
theorem b1z {x D:Int} (hD:0<D):(low x D).2∣D:=⟨gI x D,by rw [bJ]; exact (Q6 (t:=x) hD).2⟩
theorem a8E {t b:Int} (hb:0<b):(low t b).2<=b:=uP hb (b1z hb)
end Fr
namespace Rim
open PySem L2 Fr
section
variable {P:aL} {w:aI} {K:aE} {mg:Str->Option aC} {base:aG} {f:aA} {fd:aJ} {n:Nat}
end
section
variable {P:aL} {w:aI} {K:aE} {mg:Str->Option aC} {base:aG} {f:aA} {fd:aJ} {n:Nat}
def a2C (z:Str) (s D:Int):Prop:=((z="one"\/z="less")->s<=D)/\((z="one"\/z="more")->D<=s)
theorem b1W:∀ {ws:List Int} {m:Nat},(∀ x∈ws,Big m x)->ws.length<=200->Big (m+200) ws.sum:=λ {ws m} h hl=>by
 have key:∀ l:List Int,(∀ x∈l,Big m x)->l.sum.natAbs<=l.length*2 ^ m:=λ l=>by
  induction l with
  | nil=>intro _; exact dA _
  | cons x r ih =>
   intro h;have h1:x.natAbs<2 ^ m:=h x dU;have h2:=ih λ y hy=>h y (cQ _ hy);have h3:=Int.natAbs_add_le x r.sum;rw [dO,fL,pP];lia
 have h1:=key ws h;have h2:ws.length*2 ^ m<=200*2 ^ m:=Nat.mul_le_mul_right _ hl;have h3:200*2 ^ m<2 ^ (m+200):=by
  rw [vK,tG];exact Nat.mul_lt_mul_of_pos_left (by decide) (qX (by decide))
 exact eJ (cO h1 h2) h3
end
def col (rows:List (List Int)) (i:Nat):List Int:=rows.map λ r=>r.getD i 0
section
variable {P:aL} {w:aI} {K:aE} {mg:Str->Option aC} {base:aG} {f g:aA} {fd gd:aJ} {n:Nat}
def G2 (j:Nat) (h:j3):List Int:=if j=0 then h.1 else h.2
end
end Rim
namespace L2
open PySem PySem.Spec PyProof.Rows
section
variable {xs ys:List V} {K:aE} {l1 l2:aA} {σ:St}
end
end L2
namespace Rim
open PySem L2 Fr
section
variable {P:aL} {w:aI} {K:aE} {mg:Str->Option aC} {base:aG} {f:aA} {fd:aJ} {n:Nat}
def F0 (hs:List j3) (ws:List Int) (j i:Nat):Int:=(dQ (·*·) (col (hs.map (G2 j)) i) ws).sum
end
theorem a8s {a b:Nat}:∀ {ns ws:List Int},(∀ x∈ns,Big a x)->(∀ x∈ws,Big b x)->∀ x∈List.zipWith (·*·) ns ws,Big (a+b) x
 | [],_,_,_,x,hx=>by simp at hx
 | _::_,[],_,_,x,hx=>by simp at hx
 | n::ns,w::ws,h1,h2,x,hx=>by
  rw [dX] at hx;rcases bD.mp hx with e | e
  ·rw [e]; exact (h1 n dU).mul (h2 w dU)
  ·exact a8s (λ y hy=>h1 y (cQ _ hy)) (λ y hy=>h2 y (cQ _ hy)) x e
section
variable {P:aL} {w:aI} {K:aE} {mg:Str->Option aC} {base:aG} {f:aA} {fd:aJ} {n:Nat}
end
theorem a3B:∀ {xs ys:List Int} {a b:Int},xs.length=ys.length->(dQ (·*·) (xs++[a]) (ys++[b])).sum=(dQ (·*·) xs ys).sum+a*b
 | [],[],a,b,_=>by simp
 | x::xs,y::ys,a,b,h=>by
  rw [eV,eV,dX,dX,dO,dO,a3B (by simpa using h),Int.add_assoc]
section
variable {P:aL} {w:aI} {K:aE} {mg:Str->Option aC} {base:aG} {f:aA} {fd:aJ} {n:Nat}
structure PrN (pt pg:List Int) (ps D:Int) (kt kg:Nat):Prop where
 lt:pt.length=kt
 lg:pg.length=kg
 bt:∀ x∈pt,0<=x/\Big 5000 x
 bg:∀ x∈pg,0<=x/\Big 5000 x
 bs:Big 5000 ps
 d:0<D
 d2:D<2 ^ 4000
def N3 (h:j3) (pg:List Int) (ps:Int):Int:=(dQ (·*·) h.2 pg).sum+ps
def pay (h:j3) (pt:List Int):Int:=(dQ (·*·) h.1 pt).sum
end
section
variable {P:aL} {w:aI} {K:aE} {mg:Str->Option aC} {base:aG} {f:aA} {fd:aJ} {n:Nat}
def a2E (z:Str) (ps:Int):Prop:=((z="any"\/z="less")->ps<=0)/\((z="any"\/z="more")->0<=ps)
end
mutual
theorem U1:∀ d:eL,d.canLay0=true->dZ d d=true
 | .none,_=>by rw [dZ]
 | .bool b,_=>by rw [dZ]; simp
 | .int i,_=>by rw [dZ]; simp
 | .str x,_=>by rw [dZ]; simp
 | .list xs,h=>by rw [dZ]; exact Z0 xs (by rw [eG] at h; exact h)
 | .tuple xs,h=>by rw [dZ]; exact Z0 xs (by rw [eG] at h; exact h)
 | .dict kvs,h=>by rw [eG] at h; cases h
theorem Z0:∀ ds:List eL,eN ds=true->gQ ds ds=true
 | [],_=>by rw [gQ]
 | d::r,h=>by
  rw [eN,fV] at h;rw [gQ,U1 d h.1,Z0 r h.2]; rfl
end
def dF (x:Q2):eL:=.tuple [.int x.1,.int x.2]
theorem FrV.dp {K:aE} {H:Hp} {v:V} {x:Q2} (h:FrV K H v x):Dp K H v (dF x):=by
 obtain ⟨a,rfl,q⟩:=h;exact .tup q (.cons (.int _) (.cons (.int _) .nil))
theorem a2W (x:Q2):(dF x).canLay0=true:=by
 unfold dF;rw [eG,eN,eG,eN,eG,eN]; rfl
theorem a8S (x:Q2):(dF x).depth<=60:=by
 unfold dF;simp [hZ,fH]
theorem low_cross {x D:Int} (hD:0<D):(low x D).1*D=x*(low x D).2:=by
 obtain ⟨h1,h2⟩:=Q6 (t:=x) hD;generalize (low x D).1=a at *;generalize (low x D).2=b at *;generalize gI x D=g at *;rw [h1,h2]
 ac_rfl
section
variable {P:aL} {w:aI} {K:aE} {mg:Str->Option aC} {base:aG} {f:aA} {fd:aJ} {n:Nat}
end
section
variable {P:aL} {w:aI} {K:aE} {mg:Str->Option aC} {base:aG} {f:aA} {fd:aJ} {n:Nat}
end
end Rim
namespace Lp
section
variable {m q:Nat} {A:Nat->Nat->Int} {b c:Nat->Int} {S S':Bo}
theorem a5t {g h:Nat->Int}:∀ {n:Nat},(∀ k,k<n->g k<=h k)->sumTo g n<=sumTo h n
 | 0,_=>dR _
 | n+1,e=>Int.add_le_add (a5t λ k hk=>e k (by lia)) (e n (by lia))
theorem a6H {g h:Nat->Int}:∀ n:Nat,sumTo (λ k=>g k - h k) n=sumTo g n - sumTo h n
 | 0=>rfl
 | n+1=>by
  show sumTo (λ k=>g k - h k) n+(g n - h n)=(sumTo g n+g n) - (sumTo h n+h n)
  rw [a6H n]; lia
theorem Of.slack (O:Of m q A b c S) (hn:∀ j,j<q->¬ S.T m j<0) {l:Nat} (hl:l<m) (hw:0<valOut m q S (q+l)):sumTo (λ j=>A l j*valIn m S q j) q=b l*S.d:=by
 obtain ⟨p1,p2⟩:=O.primal;have nn:∀ v,0<=valOut m q S v:=Of.valOut_nn λ j hj=>by have:=hn j hj; lia
 have nx:=O.valIn_nn
 by_cases h0:valIn m S q (q+l)=0
 ·have:=p1 l hl
  lia
 ·exfalso
  have hp:0<valIn m S q (q+l):=by have:=nx (q+l); lia
  obtain ⟨D1,D2⟩:=O.dual;have e1:S.d*sumTo (λ j=>c j*valIn m S q j) q<=sumTo (λ i=>valOut m q S (q+i)*sumTo (λ j=>A i j*valIn m S q j) q) m:=by
   have x1:S.d*sumTo (λ j=>c j*valIn m S q j) q=sumTo (λ j=>sumTo (λ i=>A i j*valOut m q S (q+i)) m*valIn m S q j - valOut m q S j*valIn m S q j) q:=by
    rw [<- C8];refine sum_congr λ j hj=>?_;rw [D1 j hj,fE,Int.add_sub_cancel,bJ (c j) S.d,bK]
   have x2:sumTo (λ j=>sumTo (λ i=>A i j*valOut m q S (q+i)) m*valIn m S q j - valOut m q S j*valIn m S q j) q<=sumTo (λ j=>sumTo (λ i=>valOut m q S (q+i)*(A i j*valIn m S q j)) m) q:=by
    refine a5t λ j hj=>?_;have y:=eE (nn j) (nx j);have z:sumTo (λ i=>A i j*valOut m q S (q+i)) m*valIn m S q j=sumTo (λ i=>valOut m q S (q+i)*(A i j*valIn m S q j)) m:=by
     rw [bJ,<- C8];refine sum_congr λ i hi=>?_
     ac_rfl
    lia
   rw [a0N] at x2;have x3:sumTo (λ i=>sumTo (λ j=>valOut m q S (q+i)*(A i j*valIn m S q j)) q) m=sumTo (λ i=>valOut m q S (q+i)*sumTo (λ j=>A i j*valIn m S q j) q) m:=sum_congr λ i hi=>by rw [C8]
   rw [x1,<- x3]; exact x2
  have e2:sumTo (λ i=>valOut m q S (q+i)*sumTo (λ j=>A i j*valIn m S q j) q) m<=sumTo (λ i=>S.d*(b i*valOut m q S (q+i)) - (if i=l then valOut m q S (q+l)*valIn m S q (q+l) else 0)) m:=by
   refine a5t λ i hi=>?_;have y:=p1 i hi;have z:=eE (nn (q+i)) (nx (q+i));have ez:valOut m q S (q+i)*sumTo (λ j=>A i j*valIn m S q j) q=S.d*(b i*valOut m q S (q+i)) - valOut m q S (q+i)*valIn m S q (q+i):=by
    have:sumTo (λ j=>A i j*valIn m S q j) q=b i*S.d - valIn m S q (q+i):=by lia
    rw [this,kS]
    congr 1
    ac_rfl
   rw [ez]
   by_cases hil:i=l
   ·subst hil
    rw [if_pos rfl]; exact dR _
   ·rw [if_neg hil]; lia
  have e3:sumTo (λ i=>S.d*(b i*valOut m q S (q+i)) - (if i=l then valOut m q S (q+l)*valIn m S q (q+l) else 0)) m=S.d*S.T m q - valOut m q S (q+l)*valIn m S q (q+l):=by
   rw [a6H,C8,D2,sum_one hl λ i hi hne=>if_neg hne,if_pos rfl]
  rw [p2] at e1;have:=eF hw hp;lia
end
end Lp
namespace Rim
open PySem L2 Fr
abbrev v9 (l x:List Int):Int:=(dQ (·*·) l x).sum
theorem a3X:∀ (l r x:List Int),v9 (l++r) x=v9 l (x.take l.length)+v9 r (x.drop l.length)
 | [],r,x=>by simp [v9]
 | a::l,r,[]=>by simp [v9]
 | a::l,r,y::x=>by
  have:=a3X l r x;unfold v9 at *;rw [eV,dX,dO,this,fL,List.take_succ_cons,List.drop_succ_cons,dX,dO];lia
theorem a1U:∀ (l x:List Int),v9 (l.map λ y=>-y) x = - v9 l x
 | [],x=>by simp [v9]
 | a::l,[]=>by simp [v9]
 | a::l,y::x=>by
  have:=a1U l x;unfold v9 at *;rw [cJ,dX,dO,this,dX,dO,gZ];lia
theorem Q0:∀ (k:Nat) (x:List Int),v9 (bA k 0) x=0
 | 0,x=>by simp [v9]
 | k+1,[]=>by simp [v9]
 | k+1,y::x=>by
  have:=Q0 k x;unfold v9 at *;rw [iK,dX,dO,this]; lia
theorem O7:∀ (l x:List Int),v9 l x=v9 x l
 | [],x=>by simp [v9]
 | a::l,[]=>by simp [v9]
 | a::l,y::x=>by
  have:=O7 l x;unfold v9 at *;rw [dX,dO,this,dX,dO,bJ]
theorem a9N:∀ {l x:List Int},(∀ y∈l,0<=y)->(∀ y∈x,0<=y)->0<=v9 l x
 | [],x,_,_=>by simp [v9]
 | a::l,[],_,_=>by simp [v9]
 | a::l,y::x,h1,h2=>by
  have:=a9N (l:=l) (x:=x) (λ z hz=>h1 z (.tail _ hz)) (λ z hz=>h2 z (.tail _ hz));unfold v9 at *;rw [dX,dO];have:=eE (h1 a (.head _)) (h2 y (.head _));lia
theorem K6:∀ (n:Nat) (l x:List Int),l.length=n->x.length=n->Lp.sumTo (λ j=>l.getD j 0*x.getD j 0) n=v9 l x
 | 0,l,x,h1,h2=>by
  rw [vN h1]; simp [v9,Lp.sumTo]
 | n+1,l,x,h1,h2=>by
  obtain ⟨l',a,rfl⟩:∃ l' a,l=l'++[a]:=⟨l.dropLast,l.getLast (by intro z; rw [z] at h1; cases h1),(qY _).symm⟩;obtain ⟨x',b,rfl⟩:∃ l' a,x=l'++[a]:=⟨x.dropLast,x.getLast (by intro z; rw [z] at h2; cases h2),(qY _).symm⟩;have l1:l'.length=n:=by simpa using h1
  have l2:x'.length=n:=by simpa using h2
  show Lp.sumTo _ n+_=_
  have e:Lp.sumTo (λ j=>(l'++[a]).getD j 0*(x'++[b]).getD j 0) n=Lp.sumTo (λ j=>l'.getD j 0*x'.getD j 0) n:=Lp.sum_congr λ j hj=>by
   rw [D7,D7,if_pos (by lia),if_pos (by lia)]
  rw [e,K6 n l' x' l1 l2]
  show _=(dQ (·*·) (l'++[a]) (x'++[b])).sum
  rw [a3B (by lia)]
  show v9 l' x'+(l'++[a]).getD n 0*(x'++[b]).getD n 0=_
  rw [D7,D7,if_neg (by lia),if_neg (by lia),l1,l2,hV]; rfl
theorem V8 {n:Nat} {F:Nat->Int} {j:Nat} (h:j<n):((aR n).map F).getD j 0=F j:=by
 rw [aZ,aQ,bZ h]; rfl
theorem a6i:∀ (l:List Int),v9 (l.map λ _=>1) l=l.sum
 | []=>rfl
 | a::l=>by
  have:=a6i l;unfold v9 at *;rw [cJ,dX,dO,this,dO,jJ]
theorem a0F:∀ {l x:List Int},(∀ y∈l,0<=y)->(∀ y∈x,0<=y)->0<v9 l x->∃ j,j<x.length/\0<x.getD j 0
 | [],x,_,_,h=>by simp [v9] at h
 | a::l,[],_,_,h=>by simp [v9] at h
 | a::l,y::x,h1,h2,h=>by
  by_cases hy:0<y
  ·exact ⟨0,by simp,by simpa using hy⟩
  ·have y0:y=0:=by have:=h2 y (.head _); lia
   subst y0;have h':0<v9 l x:=by
    unfold v9 at *;rw [dX,dO] at h; lia
   obtain ⟨j,hj,hp⟩:=a0F (λ z hz=>h1 z (.tail _ hz)) (λ z hz=>h2 z (.tail _ hz)) h';exact ⟨j+1,by simp; lia,by simpa using hp⟩
theorem a0B:∀ {l x:List Int},(∀ y∈l,0<y)->(∀ y∈x,0<=y)->l.length=x.length->(∃ j,j<x.length/\0<x.getD j 0)->0<v9 l x
 | [],[],_,_,_,⟨j,hj,_⟩=>by simp at hj
 | a::l,y::x,h1,h2,hl,⟨j,hj,hp⟩=>by
  have nn:0<=v9 l x:=a9N (λ z hz=>bR (h1 z (.tail _ hz))) (λ z hz=>h2 z (.tail _ hz));have ya:=eE (bR (h1 a (.head _))) (h2 y (.head _))
  cases j with
  | zero =>
   have:0<a*y:=eF (h1 a (.head _)) (by simpa using hp);unfold v9 at *;rw [dX,dO]; lia
  | succ j =>
   have:=a0B (l:=l) (x:=x) (λ z hz=>h1 z (.tail _ hz)) (λ z hz=>h2 z (.tail _ hz)) (by simpa using hl) ⟨j,by simpa using hj,by simpa using hp⟩;unfold v9 at *;rw [dX,dO]; lia
 | [],_::_,_,_,hl,_=>by simp at hl
 | _::_,[],_,_,hl,_=>by simp at hl
theorem a6K {m q:Nat} {A:Nat->Nat->Int} {b c:Nat->Int} {S:Lp.Bo} (O:Lp.Of m q A b c S) (sz:Sz 4000 m q S) {v:Nat} (hv:v<q+m):Big 4000 (Lp.valOut m q S v):=by
 rcases O.w.all v hv with ⟨i,hi,e⟩ | ⟨j,hj,e⟩
 ·have:Lp.valOut m q S v=0:=Lp.sum_zero λ k hk=>if_neg λ z=>O.w.io i k hi hk (e.trans z.symm)
  rw [this]
  show (0:Int).natAbs<2 ^ 4000
  exact qX (by decide)
 ·have:Lp.valOut m q S v=S.T m j:=by
   unfold Lp.valOut;rw [Lp.sum_one hj λ k hk hn=>if_neg λ z=>hn (O.w.oo k j hk hj (z.trans e.symm)),if_pos e]
  rw [this];exact sz.1 m j (by lia) (by lia)
section
variable {m q:Nat} {rows:List (List Int)} {bnd goal:List Int} {S:Lp.Bo}
theorem a6Q (O:Lp.Of m q (U7 rows) (J8 bnd) (J8 goal) S) {i:Nat} {row:List Int} (hi:i<m) (hr:rows[i]?=some row) (hl:row.length=q):v9 row (u9 m q S)<=bnd.getD i 0*S.d:=by
 have h:=O.primal.1 i hi;have nn:=O.valIn_nn (q+i);have e:Lp.sumTo (λ j=>U7 rows i j*Lp.valIn m S q j) q=v9 row (u9 m q S):=by
  rw [<- K6 q row (u9 m q S) hl (by unfold u9; simp)];refine Lp.sum_congr λ j hj=>?_;rw [S8 hr];unfold u9;rw [V8 hj]
 rw [e] at h
 show _<=J8 bnd i*S.d
 lia
theorem a2y (O:Lp.Of m q (U7 rows) (J8 bnd) (J8 goal) S) (hn:∀ j,j<q->¬ S.T m j<0) {i:Nat} {row:List Int} (hi:i<m) (hr:rows[i]?=some row) (hl:row.length=q) (hw:0<Lp.valOut m q S (q+i)):v9 row (u9 m q S)=bnd.getD i 0*S.d:=by
 have h:=O.slack hn hi hw;have e:Lp.sumTo (λ j=>U7 rows i j*Lp.valIn m S q j) q=v9 row (u9 m q S):=by
  rw [<- K6 q row (u9 m q S) hl (by unfold u9; simp)];refine Lp.sum_congr λ j hj=>?_;rw [S8 hr];unfold u9;rw [V8 hj]
 rw [e] at h;exact h
theorem a4G (O:Lp.Of m q (U7 rows) (J8 bnd) (J8 goal) S) (hl:goal.length=q):v9 goal (u9 m q S)=S.T m q:=by
 have h:=O.primal.2;have e:Lp.sumTo (λ j=>J8 goal j*Lp.valIn m S q j) q=v9 goal (u9 m q S):=by
  rw [<- K6 q goal (u9 m q S) hl (by unfold u9; simp)];refine Lp.sum_congr λ j hj=>?_;unfold u9;rw [V8 hj]; rfl
 rw [e] at h;exact h
theorem Z2 (O:Lp.Of m q (U7 rows) (J8 bnd) (J8 goal) S) (hn:∀ j,j<q->¬ S.T m j<0) (hl:rows.length=m) {j:Nat} (hj:j<q):goal.getD j 0*S.d<=v9 (col rows j) (E4 m q S):=by
 have h:=O.dual.1 j hj;have nn:0<=Lp.valOut m q S j:=Lp.Of.valOut_nn (λ j hj=>by have:=hn j hj; lia) j;have e:Lp.sumTo (λ i=>U7 rows i j*Lp.valOut m q S (q+i)) m=v9 (col rows j) (E4 m q S):=by
  rw [<- K6 m (col rows j) (E4 m q S) (by unfold col; rw [aH]; exact hl) (by unfold E4; simp)];refine Lp.sum_congr λ i hi=>?_;unfold E4;rw [V8 hi]
  congr 1
  unfold U7 col;rw [aZ (l:=qZ _ rows),aQ,aZ (l:=rows),aV (by lia)]; rfl
 rw [e] at h
 show J8 goal j*S.d<=_
 lia
theorem a6I (O:Lp.Of m q (U7 rows) (J8 bnd) (J8 goal) S) (hl:bnd.length=m):v9 bnd (E4 m q S)=S.T m q:=by
 have h:=O.dual.2;have e:Lp.sumTo (λ i=>J8 bnd i*Lp.valOut m q S (q+i)) m=v9 bnd (E4 m q S):=by
  rw [<- K6 m bnd (E4 m q S) hl (by unfold E4; simp)];refine Lp.sum_congr λ i hi=>?_;unfold E4;rw [V8 hi]; rfl
 rw [e] at h;exact h
theorem a9O (hn:∀ j,j<q->¬ S.T m j<0):∀ x∈E4 m q S,0<=x:=λ x hx=>by
 unfold E4 at hx;obtain ⟨i,_,rfl⟩:=bL.mp hx;exact Lp.Of.valOut_nn (λ j hj=>by have:=hn j hj; lia) _
theorem a6O {A:Nat->Nat->Int} {b c:Nat->Int} (O:Lp.Of m q A b c S):∀ x∈u9 m q S,0<=x:=λ x hx=>by
 unfold u9 at hx;obtain ⟨i,_,rfl⟩:=bL.mp hx;exact O.valIn_nn i
theorem a3t:E4 (m+1) q S=(E4 (m+1) q S).take m++[Lp.valOut (m+1) q S (q+m)]:=by
 unfold E4;rw [lX,cV,List.take_left' (by simp)]; rfl
end
theorem a9t (a b c xs:List Int):v9 (a++b++c) xs=v9 a (xs.take a.length)+v9 b ((xs.drop a.length).take b.length)+v9 c (xs.drop (a.length+b.length)):=by
 rw [a3X (a++b) c xs,a3X a b,bF,List.take_take,oG (by lia),List.drop_take,jL]
theorem R7 (a b c:List Int) (j:Nat):(a++b++c).getD j 0=if j<a.length then a.getD j 0 else if j<a.length+b.length then b.getD (j - a.length) 0 else c.getD (j - (a.length+b.length)) 0:=by
 rw [D7,bF]
 by_cases h1:j<a.length
 ·rw [if_pos (by lia),if_pos h1,D7,if_pos h1]
 ·by_cases h2:j<a.length+b.length
  ·rw [if_pos h2,if_neg h1,if_pos h2,D7,if_neg h1]
  ·rw [if_neg h2,if_neg h1,if_neg h2]
abbrev ptA (h:j3) (xs:List Int):List Int:=xs.take h.1.length
abbrev pgA (h:j3) (xs:List Int):List Int:=(xs.drop h.1.length).take h.2.length
abbrev psA (z:Str) (h:j3) (xs:List Int):Int:=v9 (xs.drop (h.1.length+h.2.length)) (M1 z)
theorem a4e {z:Str} {g h:j3} (h1:g.1.length=h.1.length) (h2:g.2.length=h.2.length) (xs:List Int):v9 (A4 z g) xs=N3 g (pgA h xs) (psA z h xs) - pay g (ptA h xs):=by
 unfold A4 N3 pay;rw [a9t,aH,a1U,h1,h2,O7 (M1 z)];dsimp only [v9,ptA,pgA,psA];lia
theorem a5e {z:Str} {h:j3} (xs:List Int):v9 (M6 z h) xs=pay h (ptA h xs):=by
 unfold M6 pay;rw [a9t,Q0,Q0];dsimp only [v9,ptA,pgA,psA];lia
theorem a4N {z:Str} {h:j3} (xs:List Int):v9 (K7 z h) xs=N3 h (pgA h xs) (psA z h xs):=by
 unfold K7 N3;rw [a9t,Q0,bQ,O7 (M1 z)];dsimp only [v9,ptA,pgA,psA];lia
theorem a4S (rows:List (List Int)) (r:List Int) (j:Nat):col (rows++[r]) j=col rows j++[r.getD j 0]:=by
 unfold col;rw [cV]; rfl
theorem a0V {a b:List Int} {x y:Int} (h:a.length=b.length):v9 (a++[x]) (b++[y])=v9 a b+x*y:=a3B h
theorem a3j (s:Int):∀ (hs:List j3) (ws:List Int),hs.length=ws.length->v9 (hs.map λ _=>s) ws=s*ws.sum
 | [],[],_=>by simp [v9]
 | _::hs,w::ws,h=>by
  have:=a3j s hs ws (by simpa using h);unfold v9 at *;rw [cJ,dX,dO,this,dO,kQ]
 | [],_::_,h=>by simp at h
 | _::_,[],h=>by simp at h
section
variable {z:Str} {hs:List j3} {h:j3} {kt kg:Nat} (hk:∀ g∈hs,g.1.length=kt/\g.2.length=kg)
include hk
theorem a3c (ws:List Int) {j:Nat} (hj:j<kt):v9 (col (hs.map (A4 z)) j) ws = - F0 hs ws 0 j:=by
 have e:col (hs.map (A4 z)) j=(col (hs.map (G2 0)) j).map λ y=>-y:=by
  unfold col;rw [bO,bO,bO];refine fX λ g hg=>?_
  show (A4 z g).getD j 0 = - (G2 0 g).getD j 0
  have:=hk g hg;unfold A4;rw [R7,aH,if_pos (by lia),a0W]; rfl
 rw [e,a1U]; rfl
theorem a3l (ws:List Int) {j:Nat} (hj:j<kg):v9 (col (hs.map (A4 z)) (kt+j)) ws=F0 hs ws 1 j:=by
 have e:col (hs.map (A4 z)) (kt+j)=col (hs.map (G2 1)) j:=by
  unfold col;rw [bO,bO];refine fX λ g hg=>?_
  show (A4 z g).getD (kt+j) 0=(G2 1 g).getD j 0
  have:=hk g hg;unfold A4;rw [R7,aH,if_neg (by lia),if_pos (by lia),this.1,jL]; rfl
 rw [e]; rfl
theorem a4K {ws:List Int} (hw:hs.length=ws.length) (t:Nat):v9 (col (hs.map (A4 z)) (kt+kg+t)) ws=(M1 z).getD t 0*ws.sum:=by
 have e:col (hs.map (A4 z)) (kt+kg+t)=hs.map λ _=>(M1 z).getD t 0:=by
  unfold col;rw [bO];refine fX λ g hg=>?_
  show (A4 z g).getD (kt+kg+t) 0=_
  have:=hk g hg;unfold A4;rw [R7,aH,if_neg (by lia),if_neg (by lia),this.1,this.2,jL]
 rw [e,a3j _ _ _ hw]
end
structure b6i (z:Str) (hs:List j3) (h:j3) (S:Lp.Bo) (kt kg:Nat) (ws:List Int):Prop where
 lw:ws.length=hs.length
 nn:∀ x∈ws,0<=x/\Big 20000 x
 size:a2C z ws.sum S.d
 takes:∀ j,j<kt->F0 hs ws 0 j<=h.1.getD j 0*S.T (mE hs) (qE z h)
 gives:∀ j,j<kg->h.2.getD j 0*S.d<=F0 hs ws 1 j
 pos:0<S.T (mE hs) (qE z h)
 le:h∈hs->S.T (mE hs) (qE z h)<=S.d
 fair:∀ g∈hs,N3 g (pgA h (u9 (mE hs) (qE z h) S)) (psA z h (u9 (mE hs) (qE z h) S))<=pay g (ptA h (u9 (mE hs) (qE z h) S))
 pays:pay h (ptA h (u9 (mE hs) (qE z h) S))=S.d
 earns:N3 h (pgA h (u9 (mE hs) (qE z h) S)) (psA z h (u9 (mE hs) (qE z h) S))=S.T (mE hs) (qE z h)
 pr:PrN (ptA h (u9 (mE hs) (qE z h) S)) (pgA h (u9 (mE hs) (qE z h) S)) (psA z h (u9 (mE hs) (qE z h) S)) S.d kt kg
 sign:a2E z (psA z h (u9 (mE hs) (qE z h) S))
theorem a3O {z:Str} {xs:List Int} (hz:Szw z) (nn:∀ x∈xs,0<=x):a2E z (v9 xs (M1 z)):=by
 rcases hz with rfl | rfl | rfl | rfl
 ·have:v9 xs (M1 "any")=0:=by show (dQ _ xs []).sum=0; simp
  rw [this]; exact ⟨λ _=>dR _,λ _=>dR _⟩
 ·exact ⟨λ h=>absurd h (by decide),λ h=>absurd h (by decide)⟩
 ·refine ⟨λ _=>?_,λ h=>absurd h (by decide)⟩
  show (dQ _ xs [-1]).sum<=0
  cases xs with
  | nil=>simp
  | cons x r=>have:=nn x (.head _); simp; lia
 ·refine ⟨λ h=>absurd h (by decide),λ _=>?_⟩
  show 0<=(dQ _ xs [1]).sum
  cases xs with
  | nil=>simp
  | cons x r=>have:=nn x (.head _); simp; lia
theorem a4Y {z:Str} {xs:List Int} (h:∀ x∈xs,Big 4000 x) (hl:xs.length<=200):Big 5000 (v9 xs (M1 z)):=by
 have:∀ y∈M1 z,Big 100 y:=λ y hy=>eJ (a0P z y hy) (vO (by decide) (by decide));exact (b1W (a8s h this) (by rw [kH]; lia)).mono (by decide)
theorem a7q {z:Str} {hs:List j3} {h:j3} {S:Lp.Bo} {far:Int} {kt kg:Nat} (hz:Szw z) (B:Best z hs h S) (hG:∀ g∈hs,HG far kt kg g) (gh:HG far kt kg h) (kt1:1<=kt) (kt4:kt<=20) (kg4:kg<=20) :
  b6i z hs h S kt kg ((E4 (mE hs) (qE z h) S).take hs.length):=by
 obtain ⟨O,hn,sz⟩:=B;have hk:∀ g∈hs,g.1.length=kt/\g.2.length=kg:=λ g hg=>⟨(hG g hg).lt,(hG g hg).lg⟩;have sg:=a0M z;generalize hm:mE hs=m at *;generalize hq:qE z h=q at *;have hm':m=hs.length+1:=hm.symm;have hq':q=kt+kg+(M1 z).length:=by rw [<- hq]; show h.1.length+h.2.length+_=_; rw [gh.lt,gh.lg]
 replace O:Lp.Of m q (U7 (C4 z hs h)) (J8 (L8 hs)) (J8 (K7 z h)) S:=by rw [hm',<- hq]; exact O
 have lr:(C4 z hs h).length=m:=by unfold C4; simp [hm']
 have lrow:∀ g∈hs,(A4 z g).length=q:=λ g hg=>by unfold A4; simp [(hk g hg).1,(hk g hg).2,hq']; lia
 have lpaid:(M6 z h).length=q:=by unfold M6; simp [gh.lt,gh.lg,hq']; lia
 have lgoal:(K7 z h).length=q:=by unfold K7; simp [gh.lt,gh.lg,hq']; lia
 have lb:(L8 hs).length=m:=by unfold L8; simp [hm']
 have la:(u9 m q S).length=q:=by unfold u9; simp
 have lw:(E4 m q S).length=m:=by unfold E4; simp
 have hsp:E4 m q S=(E4 m q S).take hs.length++[Lp.valOut m q S (q+hs.length)]:=by rw [hm']; exact a3t
 generalize hws:(E4 m q S).take hs.length=ws at *;generalize hwn:Lp.valOut m q S (q+hs.length)=wn at *;have lws:ws.length=hs.length:=by rw [<- hws,cU,lw]; lia
 have wnn:∀ x∈ws,0<=x/\Big 20000 x:=λ x hx=>by
  have hx':x∈E4 m q S:=by rw [hsp]; exact iC _ hx
  refine ⟨a9O hn x hx',?_⟩;unfold E4 at hx';obtain ⟨k,hk',rfl⟩:=bL.mp hx';exact (a6K O sz (by have:=dY.mp hk'; lia)).mono (by decide)
 have pos:=O.w.pos;have eT:wn=S.T m q:=by
  have:=a6I O lb;rw [hsp] at this;unfold L8 at this;rw [a0V (by rw [bQ]; exact lws.symm),Q0] at this;lia
 have colA:∀ j,v9 (col (C4 z hs h) j) (E4 m q S)=v9 (col (hs.map (A4 z)) j) ws+(M6 z h).getD j 0*wn:=λ j=>by
  rw [hsp];unfold C4;rw [a4S,a0V (by unfold col; rw [aH,aH,lws])]
 have tk:∀ j,j<kt->F0 hs ws 0 j<=h.1.getD j 0*wn:=λ j hj=>by
  have:=Z2 O hn lr (j:=j) (by lia);rw [colA,a3c hk ws hj] at this;unfold K7 M6 at this;rw [R7,R7,bQ,if_pos (by rw [gh.lt]; lia),if_pos (by rw [gh.lt]; lia),G8] at this;lia
 have gv:∀ j,j<kg->h.2.getD j 0*S.d<=F0 hs ws 1 j:=λ j hj=>by
  have:=Z2 O hn lr (j:=kt+j) (by lia);rw [colA,a3l hk ws hj] at this;unfold K7 M6 at this;rw [R7,R7,bQ,bQ,gh.lt,gh.lg,if_neg (by lia),if_pos (by lia),if_neg (by lia),if_pos (by lia),jL,G8] at this;lia
 have szc:∀ t,t<(M1 z).length->(M1 z).getD t 0*S.d<=(M1 z).getD t 0*ws.sum:=λ t ht=>by
  have:=Z2 O hn lr (j:=kt+kg+t) (by lia);rw [colA,a4K hk lws.symm t] at this;unfold K7 M6 at this;rw [R7,R7,bQ,bQ,gh.lt,gh.lg,if_neg (by lia),if_neg (by lia),if_neg (by lia),if_neg (by lia),jL,G8] at this;lia
 have size:a2C z ws.sum S.d:=by
  rcases hz with rfl | rfl | rfl | rfl
  ·exact ⟨λ h=>absurd h (by decide),λ h=>absurd h (by decide)⟩
  ·have s0:(1:Int)*S.d<=1*ws.sum:=szc 0 (by decide)
   have s1:(-1:Int)*S.d <= -1*ws.sum:=szc 1 (by decide);exact ⟨λ _=>by lia,λ _=>by lia⟩
  ·have s1:(-1:Int)*S.d <= -1*ws.sum:=szc 0 (by decide)
   exact ⟨λ _=>by lia,λ h=>absurd h (by decide)⟩
  ·have s0:(1:Int)*S.d<=1*ws.sum:=szc 0 (by decide)
   exact ⟨λ h=>absurd h (by decide),λ _=>by lia⟩
 have posT:0<wn:=by
  obtain ⟨y,hy,y0⟩:=gh.p;obtain ⟨j,hj⟩:=iT hy;have hjl:j<kg:=by have:=(bP.mp hj).1; rw [gh.lg] at this; exact this
  have yD:h.2.getD j 0=y:=by rw [aZ,hj]; rfl
  have g1:=gv j hjl;rw [yD] at g1;have g2:0<F0 hs ws 1 j:=kY (eF y0 pos) g1;have nnc:∀ x∈col (hs.map (G2 1)) j,0<=x:=λ x hx=>by
   unfold col at hx;obtain ⟨r,hr,rfl⟩:=bL.mp hx;obtain ⟨g,hg,rfl⟩:=bL.mp hr;have hg':=hG g hg;have hl:j<(G2 1 g).length:=by show j<g.2.length; rw [hg'.lg]; exact hjl
   rw [aZ,aV hl];exact (hg'.g _ (fB hl)).1
  obtain ⟨k,hk1,hk2⟩:=a0F nnc (λ x hx=>(wnn x hx).1) g2;have pc:∀ x∈col (hs.map (G2 0)) 0,0<x:=λ x hx=>by
   unfold col at hx;obtain ⟨r,hr,rfl⟩:=bL.mp hx;obtain ⟨g,hg,rfl⟩:=bL.mp hr;have hg':=hG g hg;have hl:0<(G2 0 g).length:=by show 0<g.1.length; rw [hg'.lt]; lia
   rw [aZ,aV hl];have:=(hg'.t _ (fB hl)).1
   show 0<(G2 0 g)[0]
   lia
  have g3:0<F0 hs ws 0 0:=a0B pc (λ x hx=>(wnn x hx).1) (by unfold col; rw [aH,aH,lws]) ⟨k,hk1,hk2⟩;have g4:=tk 0 (by lia);have hl:0<h.1.length:=by rw [gh.lt]; lia
  have h0:1<=h.1.getD 0 0:=by
   rw [aZ,aV hl];exact (gh.t _ (fB hl)).1
  have g5:0<h.1.getD 0 0*wn:=kY g3 g4
  by_cases hw:0<wn
  ·exact hw
  ·have:=eE (show 0<=h.1.getD 0 0 by lia) (show 0 <= -wn by lia)
   rw [eY] at this;lia
 have fair:∀ g∈hs,N3 g (pgA h (u9 m q S)) (psA z h (u9 m q S))<=pay g (ptA h (u9 m q S)):=λ g hg=>by
  obtain ⟨k,hk'⟩:=iT hg;have hkl:=(bP.mp hk').1;have hr:(C4 z hs h)[k]?=some (A4 z g):=by
   unfold C4;rw [dB (by rw [aH]; exact hkl),aQ,hk']; rfl
  have:=a6Q O (i:=k) (by lia) hr (lrow g hg);rw [a4e (h:=h) (by rw [(hk g hg).1,gh.lt]) (by rw [(hk g hg).2,gh.lg])] at this;unfold L8 at this;rw [D7,bQ,if_pos hkl,G8,hU] at this;lia
 have hr:(C4 z hs h)[hs.length]?=some (M6 z h):=by
  unfold C4;rw [dP (by rw [aH]; exact aU _),aH,hV]; rfl
 have pays:pay h (ptA h (u9 m q S))=S.d:=by
  have:=a2y O hn (i:=hs.length) (by lia) hr lpaid (by rw [hwn]; exact posT);rw [a5e] at this;unfold L8 at this;rw [D7,bQ,if_neg (by lia),hV] at this;rw [this];exact jJ _
 have earns:N3 h (pgA h (u9 m q S)) (psA z h (u9 m q S))=S.T m q:=by rw [<- a4N]; exact a4G O lgoal
 have anb:∀ x∈u9 m q S,0<=x/\Big 4000 x:=λ x hx=>by
  refine ⟨a6O O x hx,?_⟩;unfold u9 at hx;obtain ⟨k,hk',rfl⟩:=bL.mp hx;exact a7o O sz (dY.mp hk')
 have d4:S.d<2 ^ 4000:=by
  have h1:S.d.natAbs<2 ^ 4000:=sz.2;have h3:S.d=(S.d.natAbs:Int):=by lia
  rw [h3]
  exact_mod_cast h1
 refine ⟨lws,wnn,size,λ j hj=>?_,gv,?_,?_,?_,?_,?_,?_,?_⟩
 ·rw [hm,hq,<- eT]; exact tk j hj
 ·rw [hm,hq,<- eT]; exact posT
 ·intro hin; rw [hm,hq,<- earns,<- pays]; exact fair h hin
 ·rw [hm,hq]; exact fair
 ·rw [hm,hq]; exact pays
 ·rw [hm,hq]; exact earns
 ·rw [hm,hq]
  refine ⟨?_,?_,λ x hx=>?_,λ x hx=>?_,?_,pos,d4⟩
  ·rw [cU,la,gh.lt]; lia
  ·rw [cU,eZ,la,gh.lt,gh.lg]; lia
  ·have:=anb x (gR hx)
   exact ⟨this.1,this.2.mono (by decide)⟩
  ·have:=anb x (gS (gR hx))
   exact ⟨this.1,this.2.mono (by decide)⟩
  ·exact a4Y (λ x hx=>(anb x (gS hx)).2) (by rw [eZ,la]; lia)
 ·rw [hm,hq]
  exact a3O hz λ x hx=>(anb x (gS hx)).1
end Rim
namespace L2
open PySem PySem.Spec PyProof.Rows
theorem a7G {P:aL} {w:aI} {K:aE} {mg mb:Str->Option aC} {CX:CXT} {k:Nat} {fa a:aA} {fd:aJ} {x:Str} {sp:Sp} {s₁:aD} {vs:List aC} {ns:List Int} {Ps:List aA}
  (KX:K.In s₁.heap) (hns:s₁.heap.Ns mainGlobals mg) (hb:s₁.heap.Ns builtinsNs mb) (hbb:∀ x:Str,x≠"__name__"->mb x=bootBuiltins x) (hlim:s₁.heap.NoLimit) (hg:s₁.gens=#[])
  (ha:s₁.heap.get? a=some { cls:=.type "list",data:=.seq vs.toArray }) (hi:lN vs ns) (hl:ns.length<=sizeLine) (hr:Room k callerA)
  (hT:∀ p∈Ps,∃ c,s₁.heap.TableAt c p #[]) (hKP:∀ p∈Ps,K.lookup p=none) (BM:V9 mg s₁.heap)
  (F:∀ base:aG,K.In base->base.Ns mainGlobals mg->V9 mg base->FnOk P w K mg base CX k fa fd [x] sp) (hbind:∀ (s:aD) (u:aC),iJ s fd ⟨[u],[]⟩ [(x,u)])
  (hsp:∀ H:Hp,(∀ p∈Ps,H p=some (.tbl #[]))->SqL K H a (ns.map V.int)->sp [.ref a] H (λ v _=>v=.bl true) λ _ _ _=>False)
  (hCX:∀ H e s',CX [] H s₁ (λ _ _ _=>False) e s'->False) :
  codeAny (model P w) callerA (.call (.ref fa) ⟨[.ref a],[]⟩) (λ r s'=>r=.ok (.ret (.bool true))/\OldK s₁.heap s'.heap/\s'.os=s₁.os/\gA s'.gens) s₁:=by
 have rv:=a3u hi;have lenV:=hi.length;have jM:∀ p∈Ps,s₁.heap.get? p=some { cls:=.none,data:=.fields #[] }:=λ p hp=>by
  obtain ⟨c,z⟩:=hT p hp;exact z.2
 have core:∀ H:Hp,(∀ b,H b=none\/(∃ o xs,H b=some (.frz o (.lst xs)))\/(b∈Ps/\H b=some (.tbl #[])))->(∀ p∈Ps,H p=some (.tbl #[]))->SqL K H a (ns.map V.int)->HOk P w H s₁.heap->(∀ b,H b≠none->b=a\/b∈Ps)->(H a≠none->K.lookup a=none) →
   codeAny (model P w) callerA (.call (.ref fa) ⟨[.ref a],[]⟩) (λ r s'=>r=.ok (.ret (.bool true))/\OldK s₁.heap s'.heap/\s'.os=s₁.os/\gA s'.gens) s₁:=by
  intro H hO hP hS hok hA hK;have base_of:∀ {b:aA} {o:Obj},s₁.heap.get? b=some o->H b=none->(a2U s₁.heap H).get? b=some o:=λ e n=>a9f e n;have noA:∀ {b:aA} {o:Obj} {es:Array DictEntry} {ep:Nat},s₁.heap.get? b=some o->o.data=.dict es ep->H b=none:=λ {b o es ep} e d=>by
   cases q:H b with
   | none=>rfl
   | some u =>
    rcases hA b (by rw [q]; simp) with e' | e'
    ·subst e'
     rw [ha] at e; cases e;have d':Data.seq vs.toArray _=vP es ep:=d
     cases d'
    ·rw [jM b e'] at e; cases e
     have d':rQ #[]=vP es ep:=d
     cases d'
  have nsK:∀ {b:aA} {m:Str->Option aC},s₁.heap.Ns b m->(a2U s₁.heap H).Ns b m:=λ {b m} ⟨o,es,ep,e,d,r⟩=>⟨o,es,ep,base_of e (noA e d),d,r⟩;have hKb:K.In (a2U s₁.heap H):=λ b o e=>base_of (KX b o e) (by
   cases q:H b with
   | none=>rfl
   | some u =>
    rcases hA b (by rw [q]; simp) with e' | e'
    ·subst e'
     rw [hK (by rw [q]; simp)] at e; cases e
    ·rw [hKP b e'] at e; cases e)
  have hM:Mod K mg (a2U s₁.heap H):=⟨hKb,nsK hns,⟨mb,nsK hb,hbb⟩,let ⟨mc,h1,h2⟩:=hlim; ⟨mc,nsK h1,h2⟩⟩;have BM':V9 mg (a2U s₁.heap H):=by
   obtain ⟨bm,ob,b1,b2,b3,b4,b5,b6⟩:=BM;refine ⟨bm,ob,b1,b2,base_of b3 ?_,b4,b5,b6⟩
   cases q:H bm with
   | none=>rfl
   | some u =>
    rcases hA bm (by rw [q]; simp) with e' | e'
    ·subst e'
     rw [ha] at b3; cases b3; exact absurd b4 (by intro z; injection z with z; exact absurd z (by decide))
    ·rw [jM bm e'] at b3; cases b3; cases b4
  have e0:Env0 P w K mg (a2U s₁.heap H) callerA [] s₁ H:=⟨rfl,hM,λ b o e=>b0C e,sC (a7N _ _),trivial,λ b hb=>absurd (show b∈([]:List aA) from hb) (by simp),hok,.of_eq hg⟩;refine jV ((F _ hKb (nsK hns) BM').run callerA [] s₁ H ⟨[.ref a],[]⟩ [.ref a] [.ref a] _ _ hr e0 (hbind s₁ (.ref a)) (.cons rfl .nil) (hsp H hP hS)) λ r s' h=>?_
  cases r with
  | error e=>exact (hCX H e s' h).elim
  | ok fl =>
   cases fl with
   | next=>exact dD h
   | brk=>exact dD h
   | cont=>exact dD h
   | ret u =>
    obtain ⟨v,H',os,bare,un,hok',r',q⟩:=h;have q':v=.bl true:=q;subst q';obtain rfl:u=mK true:=r';refine ⟨rfl,⟨λ b o e=>?_,λ b o e=>un.there b o e (by simp)⟩,os,bare⟩;rcases hO b with q | ⟨ob,xs,z⟩ | ⟨hbP,z⟩
    ·exact .inl (un.keep b o e q (by intro z; exact absurd (show b∈([]:List aA) from z) (by simp)) (by simp))
    ·have z2:=un.frzs b ob _ z
     obtain ⟨e1,_⟩:=hok b _ z;obtain ⟨e2,_⟩:=hok' b _ z2;rw [e] at e1; cases e1;exact .inl e2
    ·obtain ⟨more,z2⟩:=un.tbls b _ z
     have e2:s'.heap.get? b=some { cls:=.none,data:=.fields (#[]++more) }:=hok' b _ z2;rw [jM b hbP] at e; cases e;obtain ⟨c,ht⟩:=hT b hbP;exact .inr (.inl ⟨ht.isCodeTable,rfl,#[],more,rfl,e2⟩)
 have aP:a ∉ Ps:=λ z=>by
  have:=jM a z;rw [ha] at this; cases this
 cases hk:K.lookup a with
 | some o =>
  have e:=KX a o hk;rw [ha] at e
  cases e;refine core (λ b=>if b∈Ps then some (.tbl #[]) else none) (λ b=>?_) (λ p hp=>if_pos hp) (.inr ⟨_,vs.toArray,_,hk,rfl,rfl,rfl,by rw [cG,lenV]; exact hl,by simpa using rv⟩) (λ b u z=>?_) (λ b z=>?_) λ z=>absurd (if_neg aP) z
  ·by_cases hb:b∈Ps
   ·exact .inr (.inr ⟨hb,if_pos hb⟩)
   ·exact .inl (if_neg hb)
  ·by_cases hb:b∈Ps
   ·have z':=(if_pos hb).symm.trans z
    cases z';exact jM b hb
   ·have z':=(if_neg hb).symm.trans z
    cases z'
  ·by_cases hb:b∈Ps
   ·exact .inr hb
   ·exact absurd (if_neg hb) z
 | none =>
  refine core (λ b=>if b=a then some (.frz { cls:=.type "list",data:=.seq vs.toArray } (.lst (ns.map V.int))) else if b∈Ps then some (.tbl #[]) else none) (λ b=>?_) (λ p hp=>?_) (.inl (.inr ⟨{ cls:=.type "list",data:=.seq vs.toArray },if_pos rfl⟩)) (λ b u z=>?_) (λ b z=>?_) λ _=>hk
  ·by_cases hb:b=a
   ·exact .inr (.inl ⟨_,_,if_pos hb⟩)
   ·by_cases hb2:b∈Ps
    ·exact .inr (.inr ⟨hb2,(if_neg hb).trans (if_pos hb2)⟩)
    ·exact .inl ((if_neg hb).trans (if_neg hb2))
  ·have hb:p≠a:=λ z=>aP (z ▸ hp)
   exact (if_neg hb).trans (if_pos hp)
  ·by_cases hb:b=a
   ·have z':=(if_pos hb).symm.trans z
    cases z';subst hb;exact ⟨ha,by rw [aH]; exact hl,vs,_,rv,ha⟩
   ·by_cases hb2:b∈Ps
    ·have z':=((if_neg hb).trans (if_pos hb2)).symm.trans z
     cases z';exact jM b hb2
    ·have z':=((if_neg hb).trans (if_neg hb2)).symm.trans z
     cases z'
  ·by_cases hb:b=a
   ·exact .inl hb
   ·by_cases hb2:b∈Ps
    ·exact .inr hb2
    ·exact absurd ((if_neg hb).trans (if_neg hb2)) z
theorem walk_ofT {l:rA} {n k:Nat} {q:aL} {loose:List Str} {XP:(Str->Option aC)->aG->Prop} {YP:aI->aG->Prop} {d:DefRec} {K:iL->aE} {CX:aI->CXT} {sp:aI->Sp} {x:Str} {Ts:List (aA×Addr)}
  (hn:l.most=some n) (hn2:n<=sizeLine) (hdf:d.params.defaults=[]) (hr:Room k callerA)
  (hY:∀ (w:aI) (h:aG),YP w h->(K w.params).In h/\∀ t∈Ts,h.get? t.2=some (kL #[]))
  (hC:∀ (w:aI),∀ t∈Ts,vQ (K w.params) t.1 t.2=true/\(K w.params).lookup t.2=none)
  (F:∀ (w:aI) (mg:Str->Option aC) (fa:aA) (h:aG),(K w.params).In h->h.Ns mainGlobals mg->mg d.name=some (.ref fa) →
   ∃ fd:aJ,(∀ (s:aD) (u:aC),iJ s fd ⟨[u],[]⟩ [(x,u)]) ∧
    ∀ base:aG,(K w.params).In base->base.Ns mainGlobals mg->V9 mg base->(∀ t∈Ts,kK base t.1 t.2)->FnOk l.prog w (K w.params) mg base (CX w) k fa fd [x] (sp w))
  (hsp:∀ (w:aI) (H:Hp) (a:aA) (ns:List Int),ns.length<=n->(∀ t∈Ts,H t.2=some (.tbl #[]))->SqL (K w.params) H a (ns.map V.int)->sp w [.ref a] H (λ v _=>v=.bl true) λ _ _ _=>False)
  (hCX:∀ (w:aI) (H:Hp) (s:aD) (e:aC) (s':aD),CX w [] H s (λ _ _ _=>False) e s'->False) :
  W.WalkO q loose XP YP l.row.toRowW d [] (λ f vs=>pT f vs):=by
 refine Att.attach_call hn hdf λ w s₀ s₁ mg mb fa o pm cd doc a vs ns G Y ho hd hcd hmg hobj hints hlen hg=>?_;obtain ⟨KX,hTb⟩:=hY w _ Y;obtain ⟨fd,hb,hF⟩:=F w mg fa _ KX G.T.g hmg;have mem:∀ p∈Ts.map (·.2),∃ t∈Ts,t.2=p:=λ p hp=>by
  obtain ⟨t,h1,h2⟩:=bL.mp hp;exact ⟨t,h1,h2⟩
 refine a7G (Ps:=Ts.map (·.2)) KX G.T.g G.T.b G.T.builtins G.T.nolimit hg hobj hints (cO hlen hn2) hr (λ p hp=>?_) (λ p hp=>?_) G.T.bmain (λ base kb nb bm=>hF base kb nb bm λ t ht=>vR kb (hC w t ht).1) hb (λ H hP hS=>hsp w H a ns hlen (λ t ht=>hP _ (List.mem_map_of_mem ht)) hS) λ H e s'=>hCX w H s₁ e s'
 ·obtain ⟨t,h1,rfl⟩:=mem p hp
  exact ⟨t.1,(vR KX (hC w t h1).1).tab (hTb t h1)⟩
 ·obtain ⟨t,h1,rfl⟩:=mem p hp
  exact (hC w t h1).2
end L2
namespace L2
open PySem
theorem a8r {X:Cx} {P:aL} {w:aI}:P6 (Q7 P w) X E0:=λ _ _ _ _ _ _ _ ⟨_,_,_,_,_,_,_,h⟩=>h.elim
theorem Same.to1 {P:aA} {H H':Hp} (e:Same H H'):Same1 P H H':=λ b o _ h=>e b o h
theorem Same1.refl {P:aA} {H:Hp}:Same1 P H H:=λ _ _ _ h=>h
theorem Same1.trans {P:aA} {H H1 H2:Hp} (a:Same1 P H H1) (b:Same1 P H1 H2):Same1 P H H2:=λ c o n h=>b c o n (a c o n h)
theorem Same1.write {P a:aA} {H H':Hp} {o:HO} (e:Same1 P H H') (h:H a=none):Same1 P H (upd H' a o):=λ b u n q=>by
 rw [i7 (i9 q h)]; exact e b u n q
theorem Same1.get {P:aA} {pos:Pos} {qual:Str} {H H':Hp} {b:aA} {o:HO} (T:LamTab P pos qual H) (e:Same1 P H H') (h:H b=some o) (n:∀ ps,o≠.tbl ps):H' b=some o:=e b o (λ z=>by
 subst z;rcases T with t | ⟨c,t,_⟩
 ·rw [h] at t; exact n _ (bG t)
 ·rw [h] at t; exact n _ (bG t)) h
theorem LamTab.write {P a:aA} {pos:Pos} {qual:Str} {H:Hp} {xs:List V} {o:HO} (T:LamTab P pos qual H) (h:H a=some (.lst xs)):LamTab P pos qual (upd H a o):=by
 rcases T with e | ⟨c,e1,e2⟩
 ·exact .inl (by rw [i7 (λ z=>by rw [z,h] at e; cases e)]; exact e)
 ·exact .inr ⟨c,by rw [i7 (λ z=>by rw [z,h] at e1; cases e1)]; exact e1,by rw [i7 (λ z=>by rw [z,h] at e2; cases e2)]; exact e2⟩
end L2
namespace Rim
open PySem L2 Fr
theorem a0y:∀ ns:List Int,fH (ns.map oM)<=3
 | []=>by simp [fH]
 | n::r=>by
  rw [cJ,fH];exact vS.mpr ⟨by simp [hZ],a0y r⟩
theorem a5b (h:j3):(G7 h).depth<=8:=by
 unfold G7 a7b;have h1:=a0y h.1;have h2:=a0y h.2;rw [hZ,fH,hZ,fH,hZ,fH];lia
theorem a2O:∀ hs:List j3,fH (hs.map G7)<=8
 | []=>by simp [fH]
 | h::r=>by
  rw [cJ,fH];exact vS.mpr ⟨a5b h,a2O r⟩
theorem Z8 {j:Nat} (h:j<=1000):((j:Int)).natAbs.log2<1920:=by
 rw [Int.natAbs_natCast]
 by_cases h0:j=0
 ·subst h0; decide
 ·exact Nat.lt_trans ((pZ h0).mpr (eJ h (show 1000<2 ^ 10 by decide))) (by decide)
def M8 (z:Str) (h:j3):List Int:=bA h.1.length 0++h.2++bA (M1 z).length 0
def P8 (z:Str) (h:j3):List Int:=h.1++bA h.2.length 0++(M1 z).map (λ x=>-x)
def E7 (z:Str) (hs:List j3) (h:j3):List (List Int):=hs.map (A4 z)++[P8 z h]
theorem b5U:(["sign"]:List Str).Nodup:=by decide +kernel
section
variable {P:aL} {w:aI} {K:aE} {mg:Str->Option aC} {base:aG} {f Pt d:aA} {fd:aJ} {n:Nat} {C:aA}
abbrev OfG (z:Str) (hs:List j3) (h:j3) (S:Lp.Bo):Prop:=Lp.Of (hs.length+1) (h.1.length+h.2.length+(M1 z).length) (U7 (E7 z hs h)) (J8 (L8 hs)) (J8 (M8 z h)) S
def a7s (K:aE) (Pt:aA):Sp:=λ vs H Q _=>∃ (ba:aA) (hv:V) (xs:List V) (hs:List j3) (h:j3) (z:Str) (far:Int) (kt kg m q:Nat),vs=[.ref ba,hv,.str z]/\Szw z/\SqL K H ba xs/\Bk K H xs hs/\HS K H hv h/\HG far kt kg h/\(∀ h∈hs,HG far kt kg h)/\far<=2 ^ 60 ∧
 hs.length<=16/\kt<=20/\kg<=20/\m=hs.length+1/\q=h.1.length+h.2.length+(M1 z).length/\LT Pt H ∧
 (∀ (S:Lp.Bo) (H':Hp) (t aa wa:aA),OfG z hs h S->(∀ j,j<q->¬ S.T m j<0)->Sz 4000 m q S->Same1 Pt H H'->LT Pt H'->H' t=some (.tup [.int (S.T m q),.ref aa,.ref wa,.int S.d]) →
  H' aa=some (.lst ((u9 m q S).map V.int))->H' wa=some (.lst ((E4 m q S).map V.int))->Q (.ref t) H') ∧
 ∀ (S:Lp.Bo) (H':Hp) (c:Nat),OfG z hs h S->c<q->S.T m c<0->(∀ i,i<m->¬ 0<S.T i c)->Same1 Pt H H'->LT Pt H'->Q .non H'
theorem scGi:m6 ["houses","house","sizes","takes","gives","signs","given","paid"] ["houses","house","sizes"] (j4 a1w):=⟨rfl,rfl,rfl,by decide +kernel,rfl,by decide +kernel,by decide +kernel⟩
noncomputable def giT {cdv:aC} {A:aY} {outer:List Env} {s:aD} {H:Hp} {E:XK} {f1 f2:aA} {d1 d2:aJ} (N:x8 mg) (G:Sg K w.params mg d) (Cg:P3 P w K mg base n "greatest" ["goal","rows","bounds"] (R0 K C Pt) f1 d1) (Ch:P3 P w K mg base n "house_rows" ["houses","sizes"] (O6 K) f2 d2)
  (hr:Room n (A.deeper (fY "greatest_given" (j4 a1w) s.heap.objs.size f cdv))) :
  { t:TS // PSs (M0 E1 P w K mg base ["houses","house","sizes","takes","gives","signs","given","paid"] "greatest_given" (j4 a1w) f cdv A outer s H E).nox (w4 a1w) t } :=
 ⟨_,j0 (K5 (pv 1) (W9 rfl (r9 (m9 (i:=3) scGi.nd rfl (aM rfl)) (r9 (m9 (i:=4) scGi.nd rfl (aM rfl)) C2))))
  (j0 (o7 (i:=5) scGi.nd rfl (aM rfl) (v8 A6 rfl N.list fG (d0 (p7 (a5A K w.params rfl rfl) (E6 (v:=.ref d) rfl G.m rfl) (pv 2) (λ _ _=>rfl)) h8)))
  (v6 (o7 (i:=6) scGi.nd rfl (aM rfl) (j7 B8 (j7 B8 (j7 U0 (v7 (d0 i8 h8)) (j8 m8 rfl N.len cD (d0 (pv 3) h8))) (v8 A6 rfl N.list fG (d0 (pv 4) h8))) (j7 U0 (v7 (d0 i8 h8)) (j8 m8 rfl N.len cD (d0 (pv 5) h8)))))
  (v6 (o7 (i:=7) scGi.nd rfl (aM rfl) (j7 B8 (j7 B8 (v8 A6 rfl N.list fG (d0 (pv 3) h8)) (j7 U0 (v7 (d0 i8 h8)) (j8 m8 rfl N.len cD (d0 (pv 4) h8)))) (R5 ["sign"] [] rfl (J7 (pv 5)) (λ _ _ _ _=>m9 (i:=0) b5U rfl (aM rfl)) (λ _ _ _ _=>R9 K3 (pv 0)))))
  (j5 (o8 (j6 Cg.ok hr rfl Cg.m Cg.k Cg.b .nil v5 (d0 (pv 6) (d0 (j7 B8 (j6 Ch.ok hr rfl Ch.m Ch.k Ch.b .nil v5 (d0 (pv 0) (d0 (pv 2) h8))) (v7 (d0 (pv 7) h8)))
   (d0 (j7 B8 (j7 U0 (v7 (d0 i8 h8)) (j8 m8 rfl N.len cD (d0 (pv 0) h8))) (v7 (d0 i8 h8))) h8)))))))))⟩
theorem b4l {z:Str} {hs:List j3} {h:j3} {far:Int} {kt kg:Nat} (hh:HG far kt kg h) (hhs:∀ h∈hs,HG far kt kg h) (hf:far<=2 ^ 60) (q:Nat) :
  ∀ v,Lp.Fits (2 ^ 60) (hs.length+1+1) (Lp.Vv (hs.length+1) q (U7 (E7 z hs h)) (J8 (L8 hs)) (J8 (M8 z h)) v):=by
 have ht:∀ g:j3,HG far kt kg g->∀ x∈g.1,x.natAbs<=2 ^ 60:=λ g hg x hx=>by have:=hg.t x hx; omega
 have hg':∀ g:j3,HG far kt kg g->∀ x∈g.2,x.natAbs<=2 ^ 60:=λ g hg x hx=>by have:=hg.g x hx; omega
 have z0:∀ k:Nat,∀ x∈List.replicate k (0:Int),x.natAbs<=2 ^ 60:=λ k x hx=>by rw [(vL.mp hx).2]; decide
 have rows:∀ r∈E7 z hs h,∀ x∈r,x.natAbs<=2 ^ 60:=λ r hr x hx=>by
  unfold E7 at hr;rcases bU.mp hr with hr | hr
  ·obtain ⟨g,hg,rfl⟩:=bL.mp hr
   unfold A4 at hx;rcases bU.mp hx with hx | hx
   ·rcases bU.mp hx with hx | hx
    ·obtain ⟨y,hy,rfl⟩:=bL.mp hx
     have:=ht g (hhs g hg) y hy;rw [mI]; exact this
    ·exact hg' g (hhs g hg) x hx
   ·exact a0P z x hx
  ·rw [cX.mp hr] at hx
   unfold P8 at hx;rcases bU.mp hx with hx | hx
   ·rcases bU.mp hx with hx | hx
    ·exact ht h hh x hx
    ·exact z0 _ x hx
   ·obtain ⟨y,hy,rfl⟩:=bL.mp hx
    have:=a0P z y hy;rw [mI]; exact this
 have goal:∀ x∈M8 z h,x.natAbs<=2 ^ 60:=λ x hx=>by
  unfold M8 at hx;rcases bU.mp hx with hx | hx
  ·rcases bU.mp hx with hx | hx
   ·exact z0 _ x hx
   ·exact hg' h hh x hx
  ·exact z0 _ x hx
 have bnds:∀ x∈L8 hs,x.natAbs<=2 ^ 60:=λ x hx=>by
  unfold L8 at hx;rcases bU.mp hx with hx | hx
  ·exact z0 _ x hx
  ·rw [cX.mp hx]; decide
 intro v i _;unfold Lp.Vv
 split
 ·split
  ·unfold U7
   refine U9 (λ x hx=>?_) v;rw [aZ] at hx
   cases e:(E7 z hs h)[i]? with
   | none=>rw [e] at hx; cases hx
   | some r=>rw [e] at hx; exact rows r (bN e) x hx
  ·split
   ·rw [mI]; exact U9 goal v
   ·exact dA _
 ·split
  ·split <;> decide
  ·split
   ·exact U9 bnds i
   ·exact dA _
end
section
variable {P:aL} {w:aI} {K:aE} {mg:Str->Option aC} {base:aG} {f Pt d:aA} {fd:aJ} {n:Nat} {C:aA}
theorem a9c {f1 f2:aA} {d1 d2:aJ} (F:Fun K "greatest_given" "greatest_given" a1w f fd) (N:x8 mg) (G:Sg K w.params mg d) (Cg:P3 P w K mg base n "greatest" ["goal","rows","bounds"] (R0 K C Pt) f1 d1) (Ch:P3 P w K mg base n "house_rows" ["houses","sizes"] (O6 K) f2 d2) :
  FnOk P w K mg base E1 (n+1) f fd ["houses","house","sizes"] (a7s K Pt):=by
 refine F.ok scGi (λ vs H Q E h=>?_) (λ cdv A outer s H vs Q E hr h=>?_)
 ·obtain ⟨ba,hv,xs,hs,h,z,far,kt,kg,m,q,rfl,_⟩:=h
  rfl
 obtain ⟨ba,hv,xs,hs,h,z,far,kt,kg,m,q,rfl,hz,hB,hBk,hHS,hh,hhs,hfar,h16,hkt,hkg,rfl,rfl,L,kT,kN⟩:=h;refine ⟨_,(giT N G Cg Ch hr).2,?_⟩;obtain ⟨ha,ta,ga,rfl,p1,p2,p3⟩:=id hHS;obtain ⟨t,ht,hT⟩:=G.tt z hz;have xl:xs.length=hs.length:=dH hBk;have sg:=a0M z;have s1k:=p6 (show (1000:Nat)<=1000 from aU _);have l1:=hh.lt;have l2:=hh.lg;refine ⟨_,rfl,ha,_,rfl,p1,rfl,_,_,rfl,_,_,rfl,rfl,?_⟩;refine ⟨_,rfl,d,z,t,rfl,rfl,G.k,ht,t,_,rfl,.inr (hT _),λ sl hsl=>?_⟩;have e0:=Same.new hsl (.lst ((M1 z).map V.int));have hS0:upd H sl (.lst ((M1 z).map V.int)) sl=some (.lst ((M1 z).map V.int)):=upd_same;refine ⟨λ σ' H1=>∃ ea:aA,σ'=[some (.ref ba),some (.ref ha),some (.str z),some (.ref ta),some (.ref ga),some (.ref sl),some (.ref ea),none]/\Same (upd H sl (.lst ((M1 z).map V.int))) H1/\H1 ea=some (.lst ((M8 z h).map V.int)),?_,?_⟩
 ·refine ⟨(by show 1<=sizeLine; decide),λ a1 h1=>?_⟩
  have s1:=Same.new h1 (.lst [.int 0]);refine ⟨_,rfl,ta,_,rfl,.inr (s1.tseq (e0.tseq p2)),a1,_,_,rfl,rfl,upd_same,by omega,by rw [aH,l1]; omega,by rw [aH,l1,bW]; simp; omega,λ a2 h2=>?_⟩;rw [aH,bW,O5];have s2:=s1.trans (Same.new h2 (.lst ((bA h.1.length (0:Int)).map V.int)));refine ⟨_,rfl,ga,_,rfl,.inr (s2.tseq (e0.tseq p3)),λ a3 h3=>?_⟩;have s3:=s2.trans (Same.new h3 (.lst (h.2.map V.int)));have n23:a2≠a3:=i9 upd_same h3;refine ⟨a2,a3,_,_,rfl,rfl,(by rw [i7 n23]; exact upd_same),upd_same,?_,λ a4 h4=>?_⟩
  ·rw [aH,aH,bQ,l1,l2]; omega
  have s4:=s3.trans (Same.new h4 (.lst ((bA h.1.length (0:Int)).map V.int++h.2.map V.int)));refine ⟨(by show 1<=sizeLine; decide),λ a5 h5=>?_⟩;have s5:=s4.trans (Same.new h5 (.lst [.int 0]));have lz:((M1 z).map V.int).length=(M1 z).length:=aH _;refine ⟨_,rfl,sl,_,rfl,.inl (SqL.of (s5 _ _ hS0)),a5,_,_,rfl,rfl,upd_same,by omega,by rw [lz]; omega,by rw [lz,bW]; simp; omega,λ a6 h6=>?_⟩;rw [lz,bW,O5];have c4:=(Same.new h6 (.lst ((bA (M1 z).length (0:Int)).map V.int))) a4 _ ((Same.new h5 (.lst [.int 0])) a4 _ upd_same);refine ⟨a4,a6,_,_,rfl,rfl,c4,upd_same,?_,λ a7 h7=>?_⟩
  ·rw [bF,aH,aH,aH,bQ,bQ,l1,l2]; omega
  refine ⟨a7,rfl,(s5.trans (Same.new h6 _)).trans (Same.new h7 _),?_⟩;rw [upd_same];unfold M8;rw [cV,cV]
 rintro σ1 H1 ⟨ea,rfl,e1,he⟩;have e01:=e0.trans e1;refine ⟨λ σ' H2=>∃ pa:aA,σ'=[some (.ref ba),some (.ref ha),some (.str z),some (.ref ta),some (.ref ga),some (.ref sl),some (.ref ea),some (.ref pa)]/\Same H1 H2/\H2 pa=some (.lst ((P8 z h).map V.int)),?_,?_⟩
 ·refine ⟨_,rfl,ta,_,rfl,.inr (e01.tseq p2),λ a1 h1=>?_⟩
  have s1:=Same.new h1 (.lst (h.1.map V.int));refine ⟨(by show 1<=sizeLine; decide),λ a2 h2=>?_⟩;have s2:=s1.trans (Same.new h2 (.lst [.int 0]));have n12:a1≠a2:=i9 upd_same h2;refine ⟨_,rfl,ga,_,rfl,.inr (s2.tseq (e01.tseq p3)),a2,_,_,rfl,rfl,upd_same,by omega,by rw [aH,l2]; omega,by rw [aH,l2,bW]; simp; omega,λ a3 h3=>?_⟩;rw [aH,bW,O5];have s3:=s2.trans (Same.new h3 (.lst ((bA h.2.length (0:Int)).map V.int)));have c1:=(Same.new h3 (.lst ((bA h.2.length (0:Int)).map V.int))) a1 _ ((Same.new h2 (.lst [.int 0])) a1 _ upd_same);refine ⟨a1,a3,_,_,rfl,rfl,c1,upd_same,?_,λ a4 h4=>?_⟩
  ·rw [aH,aH,bQ,l1,l2]; omega
  have s4:=s3.trans (Same.new h4 (.lst (h.1.map V.int++(bA h.2.length (0:Int)).map V.int)));have lz:((M1 z).map V.int).length=(M1 z).length:=aH _;refine ⟨_,rfl,sl,rfl,⟨_,SqL.of (s4 _ _ (e1 _ _ hS0))⟩,λ a5 h5=>?_⟩;refine T8 (D8 (SqL.of (s4 _ _ (e1 _ _ hS0)))) h5 (by rw [lz]; omega) (λ x=>.int (-(vI x))) (λ j x H' N2 hx2 e2 hN2=>?_) ?_
  ·obtain ⟨x',rfl,_⟩:=a0J hx2
   exact ⟨Wk.set (by decide),_,rfl,_,rfl,hN2⟩
  have eg:((M1 z).map V.int).map (λ x=>V.int (-(vI x)))=((M1 z).map λ x=>-x).map V.int:=by rw [bO,bO]; rfl
  rw [eg];have n45:a4≠a5:=i9 upd_same h5;refine ⟨a4,a5,_,_,rfl,rfl,(by rw [i7 n45]; exact upd_same),upd_same,?_,λ a6 h6=>?_⟩
  ·rw [bF,aH,aH,aH,aH,bQ,l1,l2]; omega
  refine ⟨a6,rfl,(s4.trans (Same.new h5 _)).trans (Same.new h6 _),?_⟩;rw [upd_same];unfold P8;rw [cV,cV]
 rintro σ2 H2 ⟨pa,rfl,e2,hp⟩;have e02:=e01.trans e2;refine ⟨_,rfl,_,rfl,_,rfl,?_⟩;refine ⟨ba,xs,hs,z,kt,kg,rfl,hz,e02.seq hB,hBk.same e02,by omega,by omega,by omega,λ g hg=>⟨(hhs g hg).lt,(hhs g hg).lg⟩,λ r H3 rs e3 hr3 lr hrs=>?_⟩;refine ⟨_,rfl,(by show 1<=sizeLine; decide),λ a1 h1=>?_⟩;have s1:=e3.trans (Same.new h1 (.lst [.ref pa]));have nr1:r≠a1:=i9 hr3 h1;refine ⟨r,a1,_,_,rfl,rfl,(by rw [i7 nr1]; exact hr3),upd_same,?_,λ a2 h2=>?_⟩
 ·rw [aH,lr]; simp; omega
 have t2:=(Same.new h1 (.lst [.ref pa])).trans (Same.new h2 (.lst (rs.map V.ref++[.ref pa])));have s2:=s1.trans (Same.new h2 (.lst (rs.map V.ref++[.ref pa])));refine ⟨(by show 1<=sizeLine; decide),λ a3 h3=>?_⟩;have t3:=t2.trans (Same.new h3 (.lst [.int 0]));have s3:=s2.trans (Same.new h3 (.lst [.int 0]));refine ⟨_,rfl,ba,_,rfl,.inl ((e02.trans s3).seq hB),a3,_,_,rfl,rfl,upd_same,by omega,by rw [xl]; omega,by rw [xl,bW]; simp; omega,λ a4 h4=>?_⟩;rw [xl,bW,O5];have t4:=t3.trans (Same.new h4 (.lst ((bA hs.length (0:Int)).map V.int)));have s4:=s3.trans (Same.new h4 (.lst ((bA hs.length (0:Int)).map V.int)));refine ⟨(by show 1<=sizeLine; decide),λ a5 h5=>?_⟩;have t5:=t4.trans (Same.new h5 (.lst [.int 1]));have s5:=s4.trans (Same.new h5 (.lst [.int 1]));have n45:a4≠a5:=i9 upd_same h5;refine ⟨a4,a5,_,_,rfl,rfl,(by rw [i7 n45]; exact upd_same),upd_same,?_,λ a6 h6=>?_⟩
 ·rw [aH,bQ]; simp; omega
 have t6:=t5.trans (Same.new h6 (.lst ((bA hs.length (0:Int)).map V.int++[.int 1])));have s6:=s5.trans (Same.new h6 (.lst ((bA hs.length (0:Int)).map V.int++[.int 1])));have g3:∀ b o,upd (upd H3 a1 (.lst [.ref pa])) a2 (.lst (rs.map V.ref++[.ref pa])) b=some o->upd (upd (upd (upd (upd (upd H3 a1 (.lst [.ref pa])) a2 (.lst (rs.map V.ref++[.ref pa]))) a3 (.lst [.int 0])) a4 (.lst ((bA hs.length (0:Int)).map V.int))) a5 (.lst [.int 1])) a6 (.lst ((bA hs.length (0:Int)).map V.int++[.int 1])) b=some o :=
  (((Same.new h3 (.lst [.int 0])).trans (Same.new h4 (.lst ((bA hs.length (0:Int)).map V.int)))).trans (Same.new h5 (.lst [.int 1]))).trans (Same.new h6 (.lst ((bA hs.length (0:Int)).map V.int++[.int 1])))
 have eb:(bA hs.length (0:Int)).map V.int++[.int 1]=(L8 hs).map V.int:=by unfold L8; rw [cV]; rfl
 have hA:Same H (upd (upd (upd (upd (upd (upd H3 a1 (.lst [.ref pa])) a2 (.lst (rs.map V.ref++[.ref pa]))) a3 (.lst [.int 0])) a4 (.lst ((bA hs.length (0:Int)).map V.int))) a5 (.lst [.int 1])) a6 (.lst ((bA hs.length (0:Int)).map V.int++[.int 1]))):=e02.trans s6;refine ⟨ea,a2,a6,M8 z h,rs.map V.ref++[.ref pa],E7 z hs h,L8 hs,hs.length+1,h.1.length+h.2.length+(M1 z).length,2 ^ 60,rfl,SqL.of (s6 _ _ (e2 _ _ he)),SqL.of (g3 _ _ upd_same),?_,?_,?_,?_,?_,?_,by omega,by omega,?_,b4l hh hhs hfar _,b2f _ (by omega),L.same hA,λ S H' t' aa wa O hn sz e' L' g1 g2 g4=>kT S H' t' aa wa O hn sz (λ b o hb q'=>e' b o hb (hA b o q')) L' g1 g2 g4,λ S H' c O hc hneg hno e' L'=>kN S H' c O hc hneg hno (λ b o hb q'=>e' b o hb (hA b o q')) L'⟩
 ·unfold E7
  refine aS.app ((a6S (K:=K) lr hrs).same t6) (.cons ⟨pa,rfl,SqL.of (s6 _ _ hp)⟩ .nil)
 ·rw [<- eb]; exact SqL.of upd_same
 ·unfold E7; simp
 ·unfold L8; simp
 ·unfold M8; simp [vM]
 ·intro r hr
  unfold E7 at hr;rcases bU.mp hr with hr | hr
  ·obtain ⟨g,hg,rfl⟩:=bL.mp hr
   unfold A4;rw [bF,bF,aH,(hhs g hg).lt,(hhs g hg).lg,l1,l2]
  ·rw [cX.mp hr]
   unfold P8;simp;omega
 ·intro i hi
  unfold J8 L8;rw [aZ]
  by_cases h':i<hs.length
  ·rw [dB (by simpa using h'),fU,if_pos h']; exact dR _
  ·rw [dP (by simp; omega)]
   have:i - (bA hs.length (0:Int)).length=0:=by simp; omega
   rw [this]; decide
end
structure b5s (z:Str) (hs:List j3) (h:j3) (S:Lp.Bo) (kt kg:Nat) (ws:List Int):Prop where
 lw:ws.length=hs.length
 nn:∀ x∈ws,0<=x/\Big 20000 x
 size:a2C z ws.sum (S.T (mE hs) (qE z h))
 takes:∀ j,j<kt->F0 hs ws 0 j<=h.1.getD j 0*S.T (mE hs) (qE z h)
 gives:∀ j,j<kg->h.2.getD j 0*S.d<=F0 hs ws 1 j
 pos:0<S.T (mE hs) (qE z h)
 le:S.T (mE hs) (qE z h)<=S.d
 fair:∀ g∈hs,N3 g (pgA h (u9 (mE hs) (qE z h) S)) (psA z h (u9 (mE hs) (qE z h) S))<=pay g (ptA h (u9 (mE hs) (qE z h) S))
 pays:pay h (ptA h (u9 (mE hs) (qE z h) S)) - psA z h (u9 (mE hs) (qE z h) S)=S.d
 gvs:v9 h.2 (pgA h (u9 (mE hs) (qE z h) S))=S.T (mE hs) (qE z h)
 pr:PrN (ptA h (u9 (mE hs) (qE z h) S)) (pgA h (u9 (mE hs) (qE z h) S)) (psA z h (u9 (mE hs) (qE z h) S)) (S.T (mE hs) (qE z h)) kt kg
 sign:a2E z (psA z h (u9 (mE hs) (qE z h) S))
theorem a7O {z:Str} {h:j3} (xs:List Int):v9 (P8 z h) xs=pay h (ptA h xs) - psA z h xs:=by
 unfold P8 pay;rw [a9t,Q0,a1U,bQ,O7 (M1 z)];dsimp only [v9,ptA,pgA,psA];omega
theorem a8j {z:Str} {h:j3} (xs:List Int):v9 (M8 z h) xs=v9 h.2 (pgA h xs):=by
 unfold M8;rw [a9t,Q0,Q0,bQ];dsimp only [v9,ptA,pgA,psA];omega
def a9L (z:Str) (hs:List j3) (h:j3) (S:Lp.Bo):Prop:=OfG z hs h S/\(∀ j,j<qE z h->¬ S.T (mE hs) j<0)/\Sz 4000 (mE hs) (qE z h) S
theorem a9H {z:Str} {hs:List j3} {h:j3} {S:Lp.Bo} {far:Int} {kt kg i:Nat} (hz:Szw z) (B:a9L z hs h S) (hG:∀ g∈hs,HG far kt kg g) (hh:hs[i]?=some h) (kt1:1<=kt) (kt4:kt<=20) (kg4:kg<=20) :
  b5s z hs h S kt kg ((E4 (mE hs) (qE z h) S).take hs.length):=by
 obtain ⟨O,hn,sz⟩:=B;have gh:=hG h (bN hh);have hil:i<hs.length:=(bP.mp hh).1;have hk:∀ g∈hs,g.1.length=kt/\g.2.length=kg:=λ g hg=>⟨(hG g hg).lt,(hG g hg).lg⟩;have sg:=a0M z;generalize hm:mE hs=m at *;generalize hq:qE z h=q at *;have hm':m=hs.length+1:=hm.symm;have hq':q=kt+kg+(M1 z).length:=by rw [<- hq]; show h.1.length+h.2.length+_=_; rw [gh.lt,gh.lg]
 replace O:Lp.Of m q (U7 (E7 z hs h)) (J8 (L8 hs)) (J8 (M8 z h)) S:=by rw [hm',<- hq]; exact O
 have lr:(E7 z hs h).length=m:=by unfold E7; simp [hm']
 have lrow:∀ g∈hs,(A4 z g).length=q:=λ g hg=>by unfold A4; simp [(hk g hg).1,(hk g hg).2,hq']; omega
 have lpaid:(P8 z h).length=q:=by unfold P8; simp [gh.lt,gh.lg,hq']; omega
 have lgoal:(M8 z h).length=q:=by unfold M8; simp [gh.lt,gh.lg,hq']; omega
 have lb:(L8 hs).length=m:=by unfold L8; simp [hm']
 have la:(u9 m q S).length=q:=by unfold u9; simp
 have lw:(E4 m q S).length=m:=by unfold E4; simp
 have hsp:E4 m q S=(E4 m q S).take hs.length++[Lp.valOut m q S (q+hs.length)]:=by rw [hm']; exact a3t
 generalize hws:(E4 m q S).take hs.length=ws at *;generalize hwn:Lp.valOut m q S (q+hs.length)=wn at *;have lws:ws.length=hs.length:=by rw [<- hws,cU,lw]; omega
 have wnn:∀ x∈ws,0<=x/\Big 20000 x:=λ x hx=>by
  have hx':x∈E4 m q S:=by rw [hsp]; exact iC _ hx
  refine ⟨a9O hn x hx',?_⟩;unfold E4 at hx';obtain ⟨k,hk',rfl⟩:=bL.mp hx';exact (a6K O sz (by have:=dY.mp hk'; omega)).mono (by decide)
 have pos:=O.w.pos;have eT:wn=S.T m q:=by
  have:=a6I O lb;rw [hsp] at this;unfold L8 at this;rw [a0V (by rw [bQ]; exact lws.symm),Q0] at this;omega
 have colA:∀ j,v9 (col (E7 z hs h) j) (E4 m q S)=v9 (col (hs.map (A4 z)) j) ws+(P8 z h).getD j 0*wn:=λ j=>by
  rw [hsp];unfold E7;rw [a4S,a0V (by unfold col; rw [aH,aH,lws])]
 have tk:∀ j,j<kt->F0 hs ws 0 j<=h.1.getD j 0*wn:=λ j hj=>by
  have:=Z2 O hn lr (j:=j) (by omega);rw [colA,a3c hk ws hj] at this;unfold M8 P8 at this;rw [R7,R7,bQ,if_pos (by rw [gh.lt]; omega),if_pos (by rw [gh.lt]; omega),G8] at this;omega
 have gv:∀ j,j<kg->h.2.getD j 0*S.d<=F0 hs ws 1 j:=λ j hj=>by
  have:=Z2 O hn lr (j:=kt+j) (by omega);rw [colA,a3l hk ws hj] at this;unfold M8 P8 at this;rw [R7,R7,bQ,bQ,gh.lt,gh.lg,if_neg (by omega),if_pos (by omega),if_neg (by omega),if_pos (by omega),jL,G8] at this;omega
 have szc:∀ t,t<(M1 z).length->(M1 z).getD t 0*wn<=(M1 z).getD t 0*ws.sum:=λ t ht=>by
  have:=Z2 O hn lr (j:=kt+kg+t) (by omega);rw [colA,a4K hk lws.symm t] at this;unfold M8 P8 at this;rw [R7,R7,bQ,bQ,gh.lt,gh.lg,if_neg (by omega),if_neg (by omega),if_neg (by omega),if_neg (by omega),jL,G8,a0W,gZ] at this;omega
 have size:a2C z ws.sum wn:=by
  rcases hz with rfl | rfl | rfl | rfl
  ·exact ⟨λ h=>absurd h (by decide),λ h=>absurd h (by decide)⟩
  ·have s0:(1:Int)*wn<=1*ws.sum:=szc 0 (by decide)
   have s1:(-1:Int)*wn <= -1*ws.sum:=szc 1 (by decide);exact ⟨λ _=>by omega,λ _=>by omega⟩
  ·have s1:(-1:Int)*wn <= -1*ws.sum:=szc 0 (by decide)
   exact ⟨λ _=>by omega,λ h=>absurd h (by decide)⟩
  ·have s0:(1:Int)*wn<=1*ws.sum:=szc 0 (by decide)
   exact ⟨λ h=>absurd h (by decide),λ _=>by omega⟩
 have posT:0<wn:=by
  obtain ⟨y,hy,y0⟩:=gh.p;obtain ⟨j,hj⟩:=iT hy;have hjl:j<kg:=by have:=(bP.mp hj).1; rw [gh.lg] at this; exact this
  have yD:h.2.getD j 0=y:=by rw [aZ,hj]; rfl
  have g1:=gv j hjl;rw [yD] at g1;have g2:0<F0 hs ws 1 j:=kY (eF y0 pos) g1;have nnc:∀ x∈col (hs.map (G2 1)) j,0<=x:=λ x hx=>by
   unfold col at hx;obtain ⟨r,hr,rfl⟩:=bL.mp hx;obtain ⟨g,hg,rfl⟩:=bL.mp hr;have hg':=hG g hg;have hl:j<(G2 1 g).length:=by show j<g.2.length; rw [hg'.lg]; exact hjl
   rw [aZ,aV hl];exact (hg'.g _ (fB hl)).1
  obtain ⟨k,hk1,hk2⟩:=a0F nnc (λ x hx=>(wnn x hx).1) g2;have pc:∀ x∈col (hs.map (G2 0)) 0,0<x:=λ x hx=>by
   unfold col at hx;obtain ⟨r,hr,rfl⟩:=bL.mp hx;obtain ⟨g,hg,rfl⟩:=bL.mp hr;have hg':=hG g hg;have hl:0<(G2 0 g).length:=by show 0<g.1.length; rw [hg'.lt]; omega
   rw [aZ,aV hl];have:=(hg'.t _ (fB hl)).1
   show 0<(G2 0 g)[0]
   omega
  have g3:0<F0 hs ws 0 0:=a0B pc (λ x hx=>(wnn x hx).1) (by unfold col; rw [aH,aH,lws]) ⟨k,hk1,hk2⟩;have g4:=tk 0 (by omega);have hl:0<h.1.length:=by rw [gh.lt]; omega
  have h0:1<=h.1.getD 0 0:=by
   rw [aZ,aV hl];exact (gh.t _ (fB hl)).1
  have g5:0<h.1.getD 0 0*wn:=kY g3 g4
  by_cases hw:0<wn
  ·exact hw
  ·have:=eE (show 0<=h.1.getD 0 0 by omega) (show 0 <= -wn by omega)
   rw [eY] at this;omega
 have fair:∀ g∈hs,N3 g (pgA h (u9 m q S)) (psA z h (u9 m q S))<=pay g (ptA h (u9 m q S)):=λ g hg=>by
  obtain ⟨k,hk'⟩:=iT hg;have hkl:=(bP.mp hk').1;have hr:(E7 z hs h)[k]?=some (A4 z g):=by
   unfold E7;rw [dB (by rw [aH]; exact hkl),aQ,hk']; rfl
  have:=a6Q O (i:=k) (by omega) hr (lrow g hg);rw [a4e (h:=h) (by rw [(hk g hg).1,gh.lt]) (by rw [(hk g hg).2,gh.lg])] at this;unfold L8 at this;rw [D7,bQ,if_pos hkl,G8,hU] at this;omega
 have hr:(E7 z hs h)[hs.length]?=some (P8 z h):=by
  unfold E7;rw [dP (by rw [aH]; exact aU _),aH,hV]; rfl
 have pays:pay h (ptA h (u9 m q S)) - psA z h (u9 m q S)=S.d:=by
  have:=a2y O hn (i:=hs.length) (by omega) hr lpaid (by rw [hwn]; exact posT);rw [a7O] at this;unfold L8 at this;rw [D7,bQ,if_neg (by omega),hV] at this;rw [this];exact jJ _
 have gvs:v9 h.2 (pgA h (u9 m q S))=S.T m q:=by rw [<- a8j (z:=z)]; exact a4G O lgoal
 have anb:∀ x∈u9 m q S,0<=x/\Big 4000 x:=λ x hx=>by
  refine ⟨a6O O x hx,?_⟩;unfold u9 at hx;obtain ⟨k,hk',rfl⟩:=bL.mp hx;exact a7o O sz (dY.mp hk')
 have d4:S.T m q<2 ^ 4000:=by
  have h1:(S.T m q).natAbs<2 ^ 4000:=sz.1 m q (by omega) (by omega);have h3:S.T m q=((S.T m q).natAbs:Int):=by omega
  rw [h3]
  exact_mod_cast h1
 refine ⟨lws,wnn,?_,λ j hj=>?_,gv,?_,?_,?_,?_,?_,?_,?_⟩
 ·rw [hm,hq,<- eT]; exact size
 ·rw [hm,hq,<- eT]; exact tk j hj
 ·rw [hm,hq,<- eT]; exact posT
 ·rw [hm,hq,<- gvs,<- pays]
  have:=fair h (bN hh);unfold N3 at this;dsimp only [v9] at *;omega
 ·rw [hm,hq]; exact fair
 ·rw [hm,hq]; exact pays
 ·rw [hm,hq]; exact gvs
 ·rw [hm,hq]
  refine ⟨?_,?_,λ x hx=>?_,λ x hx=>?_,?_,by rw [<- eT]; exact posT,d4⟩
  ·rw [cU,la,gh.lt]; omega
  ·rw [cU,eZ,la,gh.lt,gh.lg]; omega
  ·have:=anb x (gR hx)
   exact ⟨this.1,this.2.mono (by decide)⟩
  ·have:=anb x (gS (gR hx))
   exact ⟨this.1,this.2.mono (by decide)⟩
  ·exact a4Y (λ x hx=>(anb x (gS hx)).2) (by rw [eZ,la]; omega)
 ·rw [hm,hq]
  exact a3O hz λ x hx=>(anb x (gS hx)).1
theorem a7S {z:Str} {hs:List j3} {h:j3} {i:Nat} (hi:hs[i]?=some h) (j:Nat):U7 (E7 z hs h) i j+U7 (E7 z hs h) hs.length j=J8 (M8 z h) j:=by
 have hil:i<hs.length:=(bP.mp hi).1;have e1:(E7 z hs h)[i]?=some (A4 z h):=by
  unfold E7;rw [dB (by rw [aH]; exact hil),aQ,hi]; rfl
 have e2:(E7 z hs h)[hs.length]?=some (P8 z h):=by
  unfold E7;rw [dP (by rw [aH]; exact aU _),aH,hV]; rfl
 rw [S8 e1,S8 e2];unfold J8 A4 P8 M8;simp only [D7,G8,a0W,bF,aH,bQ]
 by_cases h1:j<h.1.length
 ·rw [if_pos (by omega),if_pos h1,if_pos (by omega),if_pos h1,if_pos (by omega),if_pos h1]; omega
 ·by_cases h2:j<h.1.length+h.2.length
  ·rw [if_pos h2,if_neg h1,if_pos h2,if_neg h1,if_pos h2,if_neg h1,gP]
  ·rw [if_neg h2,if_neg h2,if_neg h2]; omega
section
variable {P:aL} {w:aI} {K:aE} {mg:Str->Option aC} {base:aG} {f Pt d CN:aA} {fd:aJ} {n:Nat} {C:aA}
theorem scGw:m6 ["book","number","sizes","top","amounts","weights","bottom"] ["book","number","sizes"] (j4 a3E):=⟨rfl,rfl,rfl,by decide +kernel,rfl,by decide +kernel,by decide +kernel⟩
def a4w (K:aE) (CN Pt:aA):Sp:=λ vs H Q E=>∃ (ba:aA) (xs:List V) (hs:List j3) (number:Int) (z:Str) (far:Int) (kt kg:Nat),vs=[.ref ba,.int number,.str z]/\Szw z/\BookIn K H ba xs hs far kt kg/\1<=kt/\number.natAbs.log2<1920/\LT Pt H ∧
 (∀ (i:Nat) (h:j3) (S:Lp.Bo) (H':Hp) (u:V),number=(i:Int)->hs[i]?=some h->a9L z hs h S->Same1 Pt H H'->LT Pt H'->FrT H' u (low S.d (S.T (mE hs) (qE z h)))->Q u H')/\(¬ J4 xs.length number->E (.ref CN) none H)
theorem a7M {f1 f2 f3:aA} {d1 d2 d3:aJ} (F:Fun K "growth" "growth" a3E f fd) (Ch:L9 P w K mg base n "house_of" ["book","number"] (V0 K CN) f1 d1) (Ce:P3 P w K mg base n "greatest_given" ["houses","house","sizes"] (a7s K Pt) f2 d2)
  (Cl:Cal P w K mg base n "lowest" ["top","bottom"] a2K f3 d3):FnOk P w K mg base (Q7 P w) (n+1) f fd ["book","number","sizes"] (a4w K CN Pt):=by
 refine F.ok1 scGw (λ vs H Q E h=>?_) (λ cdv A outer s H vs Q E hr h=>?_)
 ·obtain ⟨ba,xs,hs,number,z,far,kt,kg,rfl,_⟩:=h
  rfl
 obtain ⟨ba,xs,hs,number,z,far,kt,kg,rfl,hz,B,kt1,lm,L,kG,kE⟩:=h;refine ⟨_,j0 (K5 (j6 Ce.ok hr rfl Ce.m Ce.k Ce.b .nil v5 (d0 (pv 0) (d0 (j6 Ch.ok hr rfl Ch.m Ch.k Ch.b .nil B9 (d0 (pv 0) (d0 (pv 1) h8))) (d0 (pv 2) h8))))
   (W9 rfl (r9 (m9 (i:=3) scGw.nd rfl (aM rfl)) (r9 (m9 (i:=4) scGw.nd rfl (aM rfl)) (r9 (m9 (i:=5) scGw.nd rfl (aM rfl)) (r9 (m9 (i:=6) scGw.nd rfl (aM rfl)) C2))))))
  (PSs.nox (j5 (o8 (j6 Cl.ok hr rfl Cl.m Cl.k Cl.b .nil v5 (d0 (pv 6) (d0 (pv 3) h8)))))),?_⟩
 refine ⟨_,rfl,_,rfl,_,rfl,ba,xs,number,rfl,B.l,lm,λ i hv hi hx=>?_,kE⟩;obtain ⟨h,hh,hH⟩:=aS.at B.b hx;have gh:=B.g h (bN hh);refine ⟨_,rfl,ba,hv,xs,hs,h,z,far,kt,kg,mE hs,qE z h,rfl,hz,B.l,B.b,hH,gh,B.g,B.far,B.few,B.t,B.k,rfl,rfl,L,λ S H' t aa wa O hn sz e' L' g1 g2 g3=>?_,λ S H' c O hc hneg hno e' L'=>(O.bounded (i0:=i) (l:=hs.length) (by have:=(bP.mp hh).1; omega) (by omega) (λ j _=>a7S hh j) hc hneg hno).elim⟩;have Bs:a9L z hs h S:=⟨O,hn,sz⟩;have TD:=a9H hz Bs B.g hh kt1 B.t B.k;have b1:=TD.pos;have b2:S.T (mE hs) (qE z h)<2 ^ 8000:=Int.lt_trans TD.pr.d2 (by exact_mod_cast vO (show 1<2 by decide) (show 4000<8000 by decide));refine ⟨t,_,rfl,SqT.of g1,rfl,_,_,rfl,_,_,rfl,_,_,rfl,_,_,rfl,rfl,?_⟩;exact ⟨_,rfl,_,rfl,_,_,rfl,b1,b2,λ u H2 e2 hu=>kG i h S H2 u hi hh Bs (λ b o hb q'=>e2 _ _ (e' b o hb q')) (L'.same e2) hu⟩
end
end Rim
namespace Lp
section
variable {m q:Nat} {A:Nat->Nat->Int} {b c:Nat->Int} {S:Bo}
end
end Lp
namespace Rim
open PySem L2 Fr
section
variable {P:aL} {w:aI} {K:aE} {mg:Str->Option aC} {base:aG} {f Pt d:aA} {fd:aJ} {n:Nat} {C:aA}
end
section
variable {P:aL} {w:aI} {K:aE} {mg:Str->Option aC} {base:aG} {f Pt d:aA} {fd:aJ} {n:Nat} {C:aA}
end
structure b6D (z:Str) (hs:List j3) (h:j3) (pt pg:List Int) (ps:Int):Prop where
 lt:pt.length=h.1.length
 lg:pg.length=h.2.length
 tp:∀ x∈pt,0<x
 gp:∀ x∈pg,0<x
 sign:a2E z ps
 fair:∀ g∈hs,N3 g pg ps<=pay g pt
 firm:N3 h pg ps=pay h pt
theorem a7d:∀ {l x y:List Int},x.length=y.length->v9 l (dQ (·+·) x y)=v9 l x+v9 l y
 | [],x,y,_=>by simp [v9]
 | a::l,[],[],_=>by simp [v9]
 | a::l,b::x,c::y,h=>by
  have:=a7d (l:=l) (x:=x) (y:=y) (by simpa using h);unfold v9 at *;simp only [dX,dO];rw [this,kQ]; omega
 | a::l,[],c::y,h=>by simp at h
 | a::l,b::x,[],h=>by simp at h
section
variable {z:Str} {hs:List j3} {h:j3} {S:Lp.Bo} {kt kg i:Nat}
end
end Rim
namespace L2
open PySem
section
variable {fr:List Nat} {tc:TT} {σ:St} {H1:Hp} {p:aA} {D:Hp->Prop} {P:aA} {pos:Pos} {qual:Str} {n:Nat}
end
end L2
namespace Rim
open PySem L2 Fr
open Classical in
section
variable {P:aL} {w:aI} {K:aE} {mg:Str->Option aC} {base:aG} {f Pt d:aA} {fd:aJ} {n:Nat} {C:aA}
end
end Rim
namespace Rim
open PySem L2 Fr
structure Mx (z:Str) (hs:List j3) (ws:List Int) (D:Int):Prop where
 lw:ws.length=hs.length
 nn:∀ x∈ws,0<=x
 d:0<D
 size:a2C z ws.sum D
structure Px (z:Str) (hs:List j3) (kt kg:Nat) (pt pg:List Int) (ps:Int):Prop where
 lt:pt.length=kt
 lg:pg.length=kg
 tn:∀ x∈pt,0<=x
 gn:∀ x∈pg,0<=x
 sign:a2E z ps
 fair:∀ g∈hs,N3 g pg ps<=pay g pt
theorem C7 (a b:Int) (l x:List Int):v9 (a::l) (b::x)=a*b+v9 l x:=rfl
theorem a2L {f:j3->List Int} {k:Nat}:∀ {hs:List j3} {ws p:List Int},ws.length=hs.length->(∀ g∈hs,(f g).length=k)->p.length=k →
  v9 (hs.map λ g=>v9 (f g) p) ws=v9 ((aR k).map λ j=>v9 (hs.map λ g=>(f g).getD j 0) ws) p
 | [],ws,p,_,_,hp=>by
  have e:∀ (l:List Nat) (p:List Int),v9 (l.map λ _=>(0:Int)) p=0:=λ l=>by
   induction l with
   | nil=>intro p; simp [v9]
   | cons a r ih =>
    intro p
    cases p with
    | nil=>simp [v9]
    | cons b p=>rw [cJ,C7,ih p]; omega
  show (0:Int)=_
  rw [show ((aR k).map λ j=>v9 (([]:List j3).map λ g=>(f g).getD j 0) ws)=(aR k).map λ _=>(0:Int) from fX λ j _=>by simp [v9],e]
 | g::hs,[],p,h,_,_=>by simp at h
 | g::hs,w::ws,p,h,hk,hp=>by
  have ih:=a2L (f:=f) (k:=k) (hs:=hs) (ws:=ws) (p:=p) (by simpa using h) (λ x hx=>hk x (.tail _ hx)) hp;rw [cJ,C7,ih];have e1:((aR k).map λ j=>v9 ((g::hs).map λ g=>(f g).getD j 0) (w::ws))=dQ (·+·) ((f g).map λ x=>x*w) ((aR k).map λ j=>v9 (hs.map λ g=>(f g).getD j 0) ws):=by
   have lg:=hk g (.head _);refine eD λ j=>?_
   by_cases hj:j<k
   ·rw [aQ,bZ hj,vF,aQ,aQ,bZ hj,aV (by rw [lg]; exact hj)]
    simp only [hW];rw [cJ,C7,aZ,aV (by rw [lg]; exact hj)]; rfl
   ·rw [cK (by simp; omega),cK (by simp; omega)]
  rw [e1,O7 (dQ _ _ _) p,a7d (by simp [hk g (.head _)]),O7 p,O7 p]
  congr 1
  have:∀ (l p:List Int),v9 (l.map λ x=>x*w) p=v9 l p*w:=λ l=>by
   induction l with
   | nil=>intro p; simp [v9]
   | cons a r ih =>
    intro p
    cases p with
    | nil=>simp [v9]
    | cons b p =>
     rw [cJ,C7,C7,ih p,fE]
     congr 1
     ac_rfl
  rw [this]
theorem Y3:∀ {l m p:List Int},l.length=m.length->(∀ x∈p,0<=x)->(∀ j,j<l.length->l.getD j 0<=m.getD j 0)->v9 l p<=v9 m p
 | [],[],p,_,_,_=>dR _
 | a::l,b::m,[],_,_,_=>dR _
 | a::l,b::m,c::p,h,hp,hj=>by
  have ih:=Y3 (l:=l) (m:=m) (p:=p) (by simpa using h) (λ x hx=>hp x (.tail _ hx)) λ j hl=>by
   have:=hj (j+1) (by simpa using hl)
   simpa using this
  have h0:a<=b:=by simpa using hj 0 (by simp)
  rw [C7,C7];have:=fP h0 (hp c (.head _));omega
 | [],_::_,_,h,_,_=>by simp at h
 | _::_,[],_,h,_,_=>by simp at h
theorem U8 (s:Int):∀ (l p:List Int),v9 (l.map λ x=>x*s) p=v9 l p*s
 | [],p=>by simp [v9]
 | a::l,[]=>by simp [v9]
 | a::l,b::p=>by
  rw [cJ,C7,C7,U8 s l p,fE]
  congr 1
  ac_rfl
section
variable {z:Str} {hs:List j3} {h:j3} {kt kg:Nat} {ws pt pg:List Int} {D ps:Int}
theorem a3W (j i:Nat):F0 hs ws j i=v9 (hs.map λ g=>(G2 j g).getD i 0) ws:=by
 unfold F0 col;rw [bO]; rfl
theorem a4o (hz:Szw z) (M:Mx z hs ws D) (P:Px z hs kt kg pt pg ps) (hk:∀ g∈hs,g.1.length=kt/\g.2.length=kg) :
  v9 ((aR kg).map λ j=>F0 hs ws 1 j) pg+ps*D<=v9 ((aR kt).map λ j=>F0 hs ws 0 j) pt:=by
 have e0:v9 (hs.map λ g=>pay g pt) ws=v9 ((aR kt).map λ j=>F0 hs ws 0 j) pt:=by
  have:=a2L (f:=λ g=>g.1) (hs:=hs) (ws:=ws) (p:=pt) M.lw (λ g hg=>(hk g hg).1) P.lt;rw [show (λ j=>F0 hs ws 0 j)=λ j=>v9 (hs.map λ g=>g.1.getD j 0) ws from funext λ j=>a3W 0 j];exact this
 have e1:v9 (hs.map λ g=>v9 g.2 pg) ws=v9 ((aR kg).map λ j=>F0 hs ws 1 j) pg:=by
  have:=a2L (f:=λ g=>g.2) (hs:=hs) (ws:=ws) (p:=pg) M.lw (λ g hg=>(hk g hg).2) P.lg;rw [show (λ j=>F0 hs ws 1 j)=λ j=>v9 (hs.map λ g=>g.2.getD j 0) ws from funext λ j=>a3W 1 j];exact this
 have e2:v9 (hs.map λ g=>N3 g pg ps) ws=v9 (hs.map λ g=>v9 g.2 pg) ws+ps*ws.sum:=by
  have:∀ (hs:List j3) (ws:List Int),hs.length=ws.length->v9 (hs.map λ g=>N3 g pg ps) ws=v9 (hs.map λ g=>v9 g.2 pg) ws+ps*ws.sum:=λ hs=>by
   induction hs with
   | nil =>
    intro ws hl;rw [vN hl.symm]; simp [v9]
   | cons g r ih =>
    intro ws hl
    cases ws with
    | nil=>simp at hl
    | cons w ws =>
     have:=ih ws (by simpa using hl);rw [cJ,cJ,C7,C7,this,dO];have e:N3 g pg ps=v9 g.2 pg+ps:=rfl;rw [e,fE,kQ];omega
  exact this hs ws M.lw.symm
 have le:v9 (hs.map λ g=>N3 g pg ps) ws<=v9 (hs.map λ g=>pay g pt) ws:=by
  refine Y3 (by simp) M.nn λ j hj=>?_;have hj':j<hs.length:=by simpa using hj
  rw [aZ,aZ,aQ,aQ,aV hj'];exact P.fair _ (fB hj')
 have sz:ps*D<=ps*ws.sum:=by
  obtain ⟨s1,s2⟩:=M.size;obtain ⟨g1,g2⟩:=P.sign;rcases hz with c | c | c | c
  ·have:=g1 (.inl c); have:=g2 (.inl c)
   have:ps=0:=by omega
   rw [this]; simp
  ·have a1:=s1 (.inl c)
   have a2:=s2 (.inl c);have:ws.sum=D:=by omega
   rw [this]; exact dR _
  ·have a1:=g1 (.inr c)
   have a2:=s1 (.inr c);have:=kU a2 (show 0 <= -ps by omega);rw [gZ,gZ] at this;omega
  ·have a1:=g2 (.inr c)
   have a2:=s2 (.inr c);exact kU a2 a1
 rw [e0,e2,e1] at le;omega
structure Shr (z:Str) (hs:List j3) (h:j3) (kt kg:Nat) (A B:Int) (ws:List Int) (D:Int):Prop where
 m:Mx z hs ws D
 t:∀ j,j<kt->F0 hs ws 0 j*B<=h.1.getD j 0*A*D
 g:∀ j,j<kg->h.2.getD j 0*D<=F0 hs ws 1 j
structure Gro (z:Str) (hs:List j3) (h:j3) (kt kg:Nat) (A B:Int) (ws:List Int) (D:Int):Prop where
 m:Mx z hs ws D
 t:∀ j,j<kt->F0 hs ws 0 j<=h.1.getD j 0*D
 g:∀ j,j<kg->h.2.getD j 0*A*D<=F0 hs ws 1 j*B
theorem a1G {k:Nat} {F:Nat->Int} {j:Nat} (h:j<k):((aR k).map F).getD j 0=F j:=V8 h
theorem Shr.weak {A B:Int} (hz:Szw z) (S:Shr z hs h kt kg A B ws D) (P:Px z hs kt kg pt pg ps) (hk:∀ g∈hs,g.1.length=kt/\g.2.length=kg) (h1:h.1.length=kt) (h2:h.2.length=kg) (hB:0<B):N3 h pg ps*B<=A*pay h pt:=by
 have L:=a4o hz S.m P hk;have dp:=S.m.d;have a1:v9 h.2 pg*D<=v9 ((aR kg).map λ j=>F0 hs ws 1 j) pg:=by
  rw [<- U8];refine Y3 (by simp [h2]) P.gn λ j hj=>?_;have hj':j<kg:=by simpa [h2] using hj
  rw [a1G hj',aZ,aQ,aV (by omega)];have:=S.g j hj';rw [aZ,aV (by omega)] at this;exact this
 have a2:v9 ((aR kt).map λ j=>F0 hs ws 0 j) pt*B<=v9 h.1 pt*(A*D):=by
  rw [<- U8,<- U8];refine Y3 (by simp [h1]) P.tn λ j hj=>?_;have hj':j<kt:=by simpa using hj
  rw [aZ,aQ,aQ,bZ hj',aZ,aQ,aV (by omega)];have:=S.t j hj';rw [aZ,aV (by omega)] at this
  show F0 hs ws 0 j*B<=h.1[j]*(A*D)
  rw [<- bK]; exact this
 refine qQ (a:=D) ?_ dp;have e1:N3 h pg ps=v9 h.2 pg+ps:=rfl;have e2:pay h pt=v9 h.1 pt:=rfl;rw [e1,e2];have b1:=fP L (bR hB);have b2:=fP a1 (bR hB);have x1:(v9 h.2 pg+ps)*B*D=v9 h.2 pg*D*B+ps*D*B:=by rw [fE,fE]; congr 1 <;> ac_rfl
 have x2:A*v9 h.1 pt*D=v9 h.1 pt*(A*D):=by ac_rfl
 rw [fE] at b1;rw [x1,x2];omega
def IsShare (z:Str) (hs:List j3) (h:j3) (kt kg:Nat) (A B:Int):Prop:=0<B/\(∃ ws D,Shr z hs h kt kg A B ws D)/\∃ pt pg ps,Px z hs kt kg pt pg ps/\0<pay h pt/\N3 h pg ps*B=A*pay h pt
def b2D (z:Str) (hs:List j3) (h:j3) (kt kg:Nat) (A B:Int):Prop:=0<B/\(∃ ws D,Gro z hs h kt kg A B ws D)/\∃ pt pg ps,Px z hs kt kg pt pg ps/\0<v9 h.2 pg/\A*v9 h.2 pg=(pay h pt - ps)*B
theorem IsShare.le {A B A' B':Int} (hz:Szw z) (I:IsShare z hs h kt kg A B) (hk:∀ g∈hs,g.1.length=kt/\g.2.length=kg) (h1:h.1.length=kt) (h2:h.2.length=kg) (hB:0<B') {ws:List Int} {D:Int} (S:Shr z hs h kt kg A' B' ws D):A*B'<=A'*B:=by
 obtain ⟨b,_,pt,pg,ps,P,pp,e⟩:=I;have w:=S.weak hz P hk h1 h2 hB;refine qQ (a:=pay h pt) ?_ pp;have x:=fP w (bR b);have y1:N3 h pg ps*B'*B=N3 h pg ps*B*B':=by ac_rfl
 rw [y1,e] at x;have y2:A*pay h pt*B'=A*B'*pay h pt:=by ac_rfl
 have y3:A'*pay h pt*B=A'*B*pay h pt:=by ac_rfl
 omega
theorem IsShare.eq {A B A' B':Int} (hz:Szw z) (I:IsShare z hs h kt kg A B) (J:IsShare z hs h kt kg A' B') (hk:∀ g∈hs,g.1.length=kt/\g.2.length=kg) (h1:h.1.length=kt) (h2:h.2.length=kg):A*B'=A'*B:=by
 obtain ⟨_,⟨ws,D,S⟩,_⟩:=id J;obtain ⟨_,⟨ws',D',S'⟩,_⟩:=id I;have a:=I.le hz hk h1 h2 J.1 S;have b:=J.le hz hk h1 h2 I.1 S';omega
theorem Best.is {S:Lp.Bo} {far:Int} (hz:Szw z) (B:Best z hs h S) (hG:∀ g∈hs,HG far kt kg g) (gh:HG far kt kg h) (kt1:1<=kt) (kt4:kt<=20) (kg4:kg<=20):IsShare z hs h kt kg (S.T (mE hs) (qE z h)) S.d:=by
 have T:=a7q hz B hG gh kt1 kt4 kg4;have dp:=B.1.w.pos;refine ⟨dp,⟨_,_,⟨T.lw,λ x hx=>(T.nn x hx).1,dp,T.size⟩,λ j hj=>?_,T.gives⟩,_,_,_,⟨T.pr.lt,T.pr.lg,λ x hx=>(T.pr.bt x hx).1,λ x hx=>(T.pr.bg x hx).1,T.sign,T.fair⟩,by rw [T.pays]; exact dp,by rw [T.pays,T.earns]⟩;exact fP (T.takes j hj) (bR dp)
end
def S6 (n i:Nat):List Int:=(aR n).map λ k=>if k=i then 1 else 0
theorem a3n:∀ {n i:Nat} {l:List Int},l.length=n->i<n->v9 l (S6 n i)=l.getD i 0:=λ {n i l} hl hi=>by
 rw [<- K6 n l (S6 n i) hl (by unfold S6; simp),Lp.sum_one hi λ k hk hn=>by unfold S6; rw [V8 hk,if_neg hn,cC]];unfold S6;rw [V8 hi,if_pos rfl,iE]
theorem a7X {n i:Nat} (hi:i<n):(S6 n i).sum=1:=by
 have h1:=a6i (S6 n i);rw [<- h1,show (S6 n i).map (λ _=>(1:Int))=bA n 1 by unfold S6; rw [bO]; exact List.eq_replicate_iff.mpr ⟨by simp,λ b hb=>by obtain ⟨_,_,rfl⟩:=bL.mp hb; rfl⟩,a3n (by simp) hi,aZ,fU,if_pos hi]; rfl
section
variable {z:Str} {hs:List j3} {h:j3} {kt kg i:Nat}
theorem b1O (hi:i<hs.length):Mx z hs (S6 hs.length i) 1 :=
 ⟨by unfold S6; simp,λ x hx=>by
  unfold S6 at hx;obtain ⟨k,_,rfl⟩:=bL.mp hx
  split <;> decide,by decide,by rw [a7X hi]; exact ⟨λ _=>dR _,λ _=>dR _⟩⟩
theorem a2Y (hh:hs[i]?=some h) (j k:Nat):F0 hs (S6 hs.length i) j k=(G2 j h).getD k 0:=by
 have hi:i<hs.length:=(bP.mp hh).1;rw [a3W,a3n (by simp) hi,aZ (l:=qZ _ hs),aQ,hh]; rfl
theorem a8u (hh:hs[i]?=some h):Shr z hs h kt kg 1 1 (S6 hs.length i) 1 :=
 ⟨b1O (bP.mp hh).1,λ j _=>by rw [a2Y hh]; show h.1.getD j 0*1<=h.1.getD j 0*1*1; omega,λ j _=>by rw [a2Y hh]; show h.2.getD j 0*1<=h.2.getD j 0; omega⟩
end
def IsNone (z:Str) (hs:List j3) (h:j3) (kt kg:Nat):Prop:=∃ pt pg ps,Px z hs kt kg pt pg ps/\pay h pt<=0/\0<N3 h pg ps
theorem a1C:∀ {l p:List Int} (m:List Int),l.length=p.length->(∀ x∈l,1<=x)->(∀ x∈p,0<=x)->v9 l p<=0->v9 m p=0
 | [],[],m,_,_,_,_=>by rw [O7]; simp [v9]
 | a::l,b::p,m,hl,h1,h2,h=>by
  rw [C7] at h;have nn:0<=v9 l p:=by
   have:∀ (l p:List Int),(∀ x∈l,1<=x)->(∀ x∈p,0<=x)->0<=v9 l p:=λ l=>by
    induction l with
    | nil=>intro p _ _; simp [v9]
    | cons a r ih =>
     intro p h1 h2
     cases p with
     | nil=>simp [v9]
     | cons b p =>
      rw [C7];have:=ih p (λ x hx=>h1 x (.tail _ hx)) λ x hx=>h2 x (.tail _ hx);have:=eE (show 0<=a by have:=h1 a (.head _); omega) (h2 b (.head _));omega
   exact this _ _ (λ x hx=>h1 x (.tail _ hx)) λ x hx=>h2 x (.tail _ hx)
  have hb:=h2 b (.head _);have ha:=h1 a (.head _);have hab:=fP ha hb;have b0:b=0:=by omega
  subst b0
  cases m with
  | nil=>simp [v9]
  | cons c m =>
   rw [C7,a1C m (by simpa using hl) (λ x hx=>h1 x (.tail _ hx)) (λ x hx=>h2 x (.tail _ hx)) (by omega)];omega
 | [],_::_,_,h,_,_,_=>by simp at h
 | _::_,[],_,h,_,_,_=>by simp at h
section
variable {z:Str} {hs hs':List j3} {h:j3} {kt kg:Nat} {far:Int}
theorem none_of {S:Lp.Bo} {c:Nat} (hz:Szw z) (O:OfE z hs h S) (hc:c<qE z h) (neg:S.T (mE hs) c<0) (no:∀ i,i<mE hs->¬ 0<S.T i c) (hG:∀ g∈hs,HG far kt kg g) (gh:HG far kt kg h):IsNone z hs h kt kg:=by
 obtain ⟨y,yn,rows,goal⟩:=O.way hc neg no;have hq:qE z h=h.1.length+h.2.length+(M1 z).length:=rfl;have hk:∀ g∈hs,g.1.length=h.1.length/\g.2.length=h.2.length:=λ g hg=>⟨(hG g hg).lt.trans gh.lt.symm,(hG g hg).lg.trans gh.lg.symm⟩;have lx:((aR (qE z h)).map y).length=qE z h:=by simp
 have sd:∀ l:List Int,l.length=qE z h->Lp.sumTo (λ j=>l.getD j 0*y j) (qE z h)=v9 l ((aR (qE z h)).map y):=λ l hl=>by
  rw [<- K6 _ l _ hl lx];exact Lp.sum_congr λ j hj=>by rw [V8 hj]
 have xn:∀ x∈(aR (qE z h)).map y,0<=x:=λ x hx=>by
  obtain ⟨j,hj,rfl⟩:=bL.mp hx;exact yn j (dY.mp hj)
 have fair:∀ g∈hs,N3 g (pgA h ((aR (qE z h)).map y)) (psA z h ((aR (qE z h)).map y))<=pay g (ptA h ((aR (qE z h)).map y)):=λ g hg=>by
  obtain ⟨k,hk'⟩:=iT hg;have hkl:=(bP.mp hk').1;have hr:(C4 z hs h)[k]?=some (A4 z g):=by
   unfold C4;rw [dB (by rw [aH]; exact hkl),aQ,hk']; rfl
  have r:=rows k (by omega);rw [show (λ j=>U7 (C4 z hs h) k j*y j)=λ j=>(A4 z g).getD j 0*y j from funext λ j=>by rw [S8 hr],sd _ (by unfold A4; simp [(hk g hg).1,(hk g hg).2]; omega),a4e (h:=h) (hk g hg).1 (hk g hg).2] at r;omega
 have hr:(C4 z hs h)[hs.length]?=some (M6 z h):=by
  unfold C4;rw [dP (by rw [aH]; exact aU _),aH,hV]; rfl
 have pd:=rows hs.length (by omega);rw [show (λ j=>U7 (C4 z hs h) hs.length j*y j)=λ j=>(M6 z h).getD j 0*y j from funext λ j=>by rw [S8 hr],sd _ (by unfold M6; simp; omega),a5e] at pd;have gl:0<v9 (K7 z h) ((aR (qE z h)).map y):=by
  rw [<- sd _ (by unfold K7; simp; omega)]; exact goal
 rw [a4N] at gl;refine ⟨_,_,_,⟨?_,?_,λ x hx=>xn x (gR hx),λ x hx=>xn x (gS (gR hx)),a3O hz λ x hx=>xn x (gS hx),fair⟩,pd,gl⟩
 ·rw [cU,lx]
  have:=gh.lt
  show min h.1.length (h.1.length+h.2.length+(M1 z).length)=kt
  omega
 ·rw [cU,eZ,lx]
  have:=gh.lg
  show min h.2.length (h.1.length+h.2.length+(M1 z).length - h.1.length)=kg
  omega
theorem IsNone.no (hz:Szw z) (N:IsNone z hs h kt kg) (hk:∀ g∈hs,g.1.length=kt/\g.2.length=kg) (gh:HG far kt kg h) {ws:List Int} {D:Int} (M:Mx z hs ws D) (g:∀ j,j<kg->h.2.getD j 0*D<=F0 hs ws 1 j):False:=by
 obtain ⟨pt,pg,ps,P,p0,e0⟩:=N;have L:=a4o hz M P hk;have z0:=a1C ((aR kt).map λ j=>F0 hs ws 0 j) (l:=h.1) (p:=pt) (by rw [gh.lt,P.lt]) (λ x hx=>(gh.t x hx).1) P.tn p0;rw [z0] at L;have a1:v9 h.2 pg*D<=v9 ((aR kg).map λ j=>F0 hs ws 1 j) pg:=by
  rw [<- U8];refine Y3 (by simp [gh.lg]) P.gn λ j hj=>?_;have hj':j<kg:=by simpa [gh.lg] using hj
  rw [a1G hj',aZ,aQ,aV (by rw [gh.lg]; exact hj')];have:=g j hj';rw [aZ,aV (by rw [gh.lg]; exact hj')] at this;exact this
 have e1:N3 h pg ps=v9 h.2 pg+ps:=rfl;have:0<N3 h pg ps*D:=eF e0 M.d;rw [e1,fE] at this;omega
theorem IsNone.notShare (hz:Szw z) (N:IsNone z hs h kt kg) (hk:∀ g∈hs,g.1.length=kt/\g.2.length=kg) (gh:HG far kt kg h) {A B:Int} (I:IsShare z hs h kt kg A B):False:=by
 obtain ⟨_,⟨ws,D,S⟩,_⟩:=I;exact N.no hz hk gh S.m S.g
theorem IsNone.notIn (hz:Szw z) (N:IsNone z hs h kt kg) (hG:∀ g∈hs,HG far kt kg g) (hm:h∈hs):False:=by
 obtain ⟨i,hi⟩:=iT hm;have S:=a8u (z:=z) (kt:=kt) (kg:=kg) hi;exact N.no hz (λ g hg=>⟨(hG g hg).lt,(hG g hg).lg⟩) (hG h hm) S.m S.g
end
structure ShU (z:Str) (hs:List j3) (h:j3) (kt kg:Nat) (A B:Int):Prop where
 s:IsShare z hs h kt kg A B
 a:Big 20000 A
 p:0<A
 b:0<B
 c:B<2 ^ 8000
theorem Best.u {z:Str} {hs:List j3} {h:j3} {kt kg:Nat} {S:Lp.Bo} {far:Int} (hz:Szw z) (B:Best z hs h S) (hG:∀ g∈hs,HG far kt kg g) (gh:HG far kt kg h) (kt1:1<=kt) (kt4:kt<=20) (kg4:kg<=20):ShU z hs h kt kg (S.T (mE hs) (qE z h)) S.d:=by
 have T:=a7q hz B hG gh kt1 kt4 kg4;obtain ⟨b1,b2⟩:=a7r B;exact ⟨B.is hz hG gh kt1 kt4 kg4,(B.2.2.1 _ _ (by omega) (by omega)).mono (by decide),T.pos,b1,b2⟩
def U2 {α:Type} (l:List α) (i:Nat):List α:=l.take i++l.drop (i+1)
theorem a4s {α:Type} {l:List α} {i:Nat} {g:α} (h:g∈U2 l i):g∈l:=by
 rcases bU.mp h with h | h
 ·exact gR h
 ·exact gS h
theorem a2g {α:Type} {l:List α} {i:Nat}:(U2 l i).length<=l.length:=by unfold U2; simp; omega
theorem aS.take {α β:Type} {F:α->β->Prop}:∀ {l₁:List α} {l₂:List β} (i:Nat),cW F l₁ l₂->cW F (l₁.take i) (l₂.take i)
 | _,_,0,_=>.nil
 | _,_,_+1,.nil=>.nil
 | _,_,i+1,.cons r t=>.cons r (aS.take i t)
theorem aS.drop {α β:Type} {F:α->β->Prop}:∀ {l₁:List α} {l₂:List β} (i:Nat),cW F l₁ l₂->cW F (l₁.drop i) (l₂.drop i)
 | _,_,0,h=>h
 | _,_,_+1,.nil=>.nil
 | _,_,i+1,.cons _ t=>aS.drop i t
theorem aS.app {α β:Type} {F:α->β->Prop}:∀ {l₁ m₁:List α} {l₂ m₂:List β},cW F l₁ l₂->cW F m₁ m₂->cW F (l₁++m₁) (l₂++m₂)
 | _,_,_,_,.nil,h=>h
 | _,_,_,_,.cons r t,h=>.cons r (aS.app t h)
theorem Bk.out {K:aE} {H:Hp} {xs:List V} {hs:List j3} (i:Nat) (B:Bk K H xs hs):Bk K H (U2 xs i) (U2 hs i):=aS.app (aS.take i B) (aS.drop (i+1) B)
section
variable {P:aL} {w:aI} {K:aE} {mg:Str->Option aC} {base:aG} {f Pt d CN CB:aA} {fd:aJ} {n:Nat} {C:aA}
def b0W (K:aE) (Pt:aA):Sp:=λ vs H Q _=>∃ (ba:aA) (hv:V) (xs:List V) (hs:List j3) (h:j3) (z:Str) (far:Int) (kt kg:Nat),vs=[.ref ba,hv,.str z]/\Szw z/\BookIn K H ba xs hs far kt kg/\1<=kt/\HS K H hv h/\HG far kt kg h/\LT Pt H ∧
 (∀ (A B:Int) (H':Hp) (u:V),ShU z hs h kt kg A B->Same1 Pt H H'->LT Pt H'->FrT H' u (low A B)->Q u H')/\∀ H':Hp,IsNone z hs h kt kg->Same1 Pt H H'->LT Pt H'->Q .non H'
theorem a8Q (F:FnOk P w K mg base E1 n f fd ["houses","house","sizes"] (a0E K Pt)):FnOk P w K mg base E1 n f fd ["houses","house","sizes"] (b0W K Pt):=F.imp λ vs H Q E h=>by
 obtain ⟨ba,hv,xs,hs,h,z,far,kt,kg,rfl,hz,B,kt1,hH,gh,L,kG,kN⟩:=h;exact ⟨ba,hv,xs,hs,h,z,far,kt,kg,rfl,hz,B,hH,gh,L,λ S H' u Bs e L' hu=>kG _ _ H' u (Bs.u hz B.g gh kt1 B.t B.k) e L' hu,λ S H' c O hc hneg hno e L'=>kN H' (none_of hz O hc hneg hno B.g gh) e L'⟩
def a9F (K:aE) (CN Pt:aA):Sp:=λ vs H Q E=>∃ (ba:aA) (xs:List V) (hs:List j3) (number:Int) (z:Str) (far:Int) (kt kg:Nat),vs=[.ref ba,.int number,.str z]/\Szw z/\BookIn K H ba xs hs far kt kg/\1<=kt/\number.natAbs.log2<1920/\LT Pt H ∧
 (∀ (i:Nat) (h:j3) (A B:Int) (H':Hp) (u:V),number=(i:Int)->hs[i]?=some h->ShU z hs h kt kg A B->Same1 Pt H H'->LT Pt H'->FrT H' u (low A B)->Q u H')/\(¬ J4 xs.length number->E (.ref CN) none H)
theorem a3o (F:FnOk P w K mg base (Q7 P w) n f fd ["book","number","sizes"] (a0g K CN Pt)):FnOk P w K mg base (Q7 P w) n f fd ["book","number","sizes"] (a9F K CN Pt):=F.imp λ vs H Q E h=>by
 obtain ⟨ba,xs,hs,number,z,far,kt,kg,rfl,hz,B,kt1,lm,L,kG,kE⟩:=h;exact ⟨ba,xs,hs,number,z,far,kt,kg,rfl,hz,B,lm,L,λ i h S H' u hi hh Bs e L' hu=>kG i h _ _ H' u hi hh (Bs.u hz B.g (B.g h (bN hh)) kt1 B.t B.k) e L' hu,kE⟩
def a1h (K:aE) (CN:aA):Sp:=λ vs H Q E=>∃ (a:aA) (xs:List V) (m:Int),vs=[.ref a,.int m]/\SqL K H a xs/\xs.length<=1000/\m.natAbs.log2<1920 ∧
 (∀ (i:Nat) (l:aA) (H':Hp),m=(i:Int)->i<xs.length->Same H H'->H l=none->H' l=some (.lst (U2 xs i))->Q (.ref l) H')/\(¬ J4 xs.length m->E (.ref CN) none H)
theorem b6g:m6 ["houses","number"] ["houses","number"] (j4 a2u):=⟨rfl,rfl,rfl,by decide +kernel,rfl,by decide +kernel,by decide +kernel⟩
theorem a5P {f1:aA} {d1:aJ} (F:Fun K "without" "without" a2u f fd) (Ch:L9 P w K mg base n "house_of" ["book","number"] (V0 K CN) f1 d1):FnOk P w K mg base (Q7 P w) (n+1) f fd ["houses","number"] (a1h K CN):=by
 refine F.ok1 b6g (λ vs H Q E h=>?_) (λ cdv A outer s H vs Q E hr h=>?_)
 ·obtain ⟨a,xs,m,rfl,_⟩:=h
  rfl
 obtain ⟨a,xs,m,rfl,hS,hl,hm,q,hE⟩:=h;refine ⟨_,j0 (E8 (j6 Ch.ok hr rfl Ch.m Ch.k Ch.b .nil B9 (d0 (pv 0) (d0 (pv 1) h8))))
  (PSs.nox (j5 (o8 (j7 B8 (G1 M3 (pv 0) N8 (K1 (pv 1))) (G1 M3 (pv 0) (K1 (j7 D0 (pv 1) i8)) N8))))),?_⟩
 refine ⟨_,rfl,_,rfl,a,xs,m,rfl,hS,hm,λ i x hi hx=>?_,hE⟩;subst hi;have hil:=(bP.mp hx).1;refine ⟨_,rfl,_,rfl,_,rfl,a,_,rfl,hS,λ a1 h1=>?_⟩;rw [a3F _ _ (by omega)];have s1:=Same.new h1 (.lst (xs.take i));refine ⟨_,rfl,_,rfl,_,_,rfl,rfl,_,rfl,a,_,rfl,s1.seq hS,λ a2 h2=>?_⟩;rw [show ((i:Int)+1)=((i+1:Nat):Int) by omega,a2k _ _ (by omega)];have s2:=Same.new h2 (.lst (xs.drop (i+1)));refine ⟨a1,a2,_,_,rfl,rfl,s2 _ _ upd_same,upd_same,?_,λ p hp=>?_⟩
 ·have:=p6 (show (1000:Nat)<=1000 from aU _)
  simp; omega
 have s3:=Same.new hp (.lst (xs.take i++xs.drop (i+1)));refine q i p _ rfl hil ((s1.trans s2).trans s3) ?_ upd_same
 cases e:H p with
 | none=>rfl
 | some o=>rw [s2 _ _ (s1 _ _ e)] at hp; cases hp
def a4F (K:aE) (CN Pt:aA):Sp:=λ vs H Q E=>∃ (ba:aA) (xs:List V) (hs:List j3) (number:Int) (z:Str) (far:Int) (kt kg:Nat),vs=[.ref ba,.int number,.str z]/\Szw z/\BookIn K H ba xs hs far kt kg/\1<=kt/\number.natAbs.log2<1920/\LT Pt H ∧
 (∀ (i:Nat) (h:j3) (A B:Int) (H':Hp) (u:V),number=(i:Int)->hs[i]?=some h->ShU z (U2 hs i) h kt kg A B->Same1 Pt H H'->LT Pt H'->FrT H' u (low A B)->Q u H') ∧
 (∀ (i:Nat) (h:j3) (H':Hp),number=(i:Int)->hs[i]?=some h->IsNone z (U2 hs i) h kt kg->Same1 Pt H H'->LT Pt H'->Q .non H')/\(¬ J4 xs.length number->E (.ref CN) none H)
theorem scOt:m6 ["book","number","sizes","house"] ["book","number","sizes"] (j4 a4m):=⟨rfl,rfl,rfl,by decide +kernel,rfl,by decide +kernel,by decide +kernel⟩
theorem a8b {f1 f2 f3:aA} {d1 d2 d3:aJ} (F:Fun K "share_of_others" "share_of_others" a4m f fd) (Ch:L9 P w K mg base n "house_of" ["book","number"] (V0 K CN) f1 d1) (Cw:L9 P w K mg base n "without" ["houses","number"] (a1h K CN) f2 d2)
  (Ce:P3 P w K mg base n "held_against" ["houses","house","sizes"] (a0E K Pt) f3 d3):FnOk P w K mg base (Q7 P w) (n+1) f fd ["book","number","sizes"] (a4F K CN Pt):=by
 have Ce':=a8Q Ce.ok;refine F.ok1 scOt (λ vs H Q E h=>?_) (λ cdv A outer s H vs Q E hr h=>?_)
 ·obtain ⟨ba,xs,hs,number,z,far,kt,kg,rfl,_⟩:=h
  rfl
 obtain ⟨ba,xs,hs,number,z,far,kt,kg,rfl,hz,B,kt1,lm,L,kG,kN,kE⟩:=h;refine ⟨_,j0 (o7 (i:=3) scOt.nd rfl (aM rfl) (j6 Ch.ok hr rfl Ch.m Ch.k Ch.b .nil B9 (d0 (pv 0) (d0 (pv 1) h8))))
  (j5 (o8 (j6 Ce' hr rfl Ce.m Ce.k Ce.b .nil v5 (d0 (j6 Cw.ok hr rfl Cw.m Cw.k Cw.b .nil B9 (d0 (pv 0) (d0 (pv 1) h8))) (d0 (pv 3) (d0 (pv 2) h8)))))),?_⟩
 have xl:xs.length=hs.length:=dH B.b;have few:=B.few;refine ⟨_,rfl,_,rfl,ba,xs,number,rfl,B.l,lm,λ i hv hi hx=>?_,kE⟩;obtain ⟨h,hh,hH⟩:=aS.at B.b hx;have gh:=B.g h (bN hh);have hil:=(bP.mp hx).1;refine ⟨_,rfl,_,rfl,ba,xs,number,rfl,B.l,by omega,lm,λ i' l H1 hi' _ e1 hl hl'=>?_,λ bad=>absurd ⟨by omega,by omega⟩ bad⟩;have:i'=i:=by omega
 subst this;have L1:=L.same e1;refine ⟨_,rfl,_,rfl,l,hv,_,U2 hs i',h,z,far,kt,kg,rfl,hz,⟨SqL.of hl',Bk.same e1 (B.b.out i'),λ g hg=>B.g g (a4s hg),B.far,cO a2g few,B.t,B.k⟩,kt1,hH.same e1,gh,L1,λ A B H' u x e' L' hu=>kG i' h A B H' u hi hh x (e1.to1.trans e') L' hu,λ H' x e' L'=>kN i' h H' hi hh x (e1.to1.trans e') L'⟩
def a5Z (K:aE):Sp:=λ vs H Q _=>∃ (u v:V) (g h:j3),vs=[u,v]/\HS K H u g/\HS K H v h/\Q (.bl (decide (g.1.length=h.1.length/\g.2.length=h.2.length))) H
theorem b5Q:m6 ["house","other"] ["house","other"] (j4 a9M):=⟨rfl,rfl,rfl,by decide +kernel,rfl,by decide +kernel,by decide +kernel⟩
theorem b0I (F:Fun K "are_like_counts" "are_like_counts" a9M f fd) (T:x8 mg):FnOk P w K mg base E1 (n+1) f fd ["house","other"] (a5Z K):=by
 refine F.ok b5Q (λ vs H Q E h=>?_) (λ cdv A outer s H vs Q E hr h=>?_)
 ·obtain ⟨u,v,g,h,rfl,_⟩:=h
  rfl
 obtain ⟨u,v,g,h,rfl,⟨a,t,e,rfl,a0,a1,a2⟩,⟨a',t',e',rfl,b0,b1,b2⟩,q⟩:=h;refine ⟨_,j5 (o8 (a3C (M7 K8 (j8 m8 rfl T.len cD (d0 (p7 A9 (pv 0) i8 (λ _ _=>rfl)) h8)) (j8 m8 rfl T.len cD (d0 (p7 A9 (pv 1) i8 (λ _ _=>rfl)) h8)) (r8 _))
  (a3P (M7 K8 (j8 m8 rfl T.len cD (d0 (p7 A9 (pv 0) i8 (λ _ _=>rfl)) h8)) (j8 m8 rfl T.len cD (d0 (p7 A9 (pv 1) i8 (λ _ _=>rfl)) h8)) (r8 _))))),?_⟩
 have l1:∀ l:List Int,((l.map V.int).length:Int)=(l.length:Int):=λ l=>by rw [aH]
 refine ⟨_,rfl,a,_,0,_,rfl,rfl,a0,U4 _ _,t,_,rfl,.inr a1,_,rfl,a',_,0,_,rfl,rfl,b0,U4 _ _,t',_,rfl,.inr b1,rfl,_,rfl,?_⟩;rw [l1,l1];refine w6 (λ c=>?_) (λ c=>?_)
 ·have c':g.1.length=h.1.length:=by have:=V.int.inj (of_decide_eq_true c); omega
  refine ⟨_,rfl,a,_,1,_,rfl,rfl,a0,W8 _ _,e,_,rfl,.inr a2,_,rfl,a',_,1,_,rfl,rfl,b0,W8 _ _,e',_,rfl,.inr b2,rfl,?_⟩;rw [l1,l1];refine a6o q ?_;simp [c'];omega
 ·have c':¬ g.1.length=h.1.length:=λ z=>c (decide_eq_true (by rw [z]))
  refine a6o q ?_;simp [c']
end
theorem b2e (x y:Q2):dZ (dF x) (dF y)=decide (x=y):=by
 unfold dF;rw [dZ,gQ,gQ,gQ,dZ,dZ,vT];obtain ⟨a,b⟩:=x;obtain ⟨c,d⟩:=y
 by_cases h1:a=c
 ·by_cases h2:b=d
  ·subst h1 h2; simp
  ·simp [h1,h2]
 ·simp [h1]
theorem FrT.to1 {Pt:aA} {H H':Hp} {v:V} {x:Q2} (L:LT Pt H) (e:Same1 Pt H H') (h:FrT H v x):FrT H' v x:=by
 obtain ⟨a,rfl,ha⟩:=h;exact ⟨a,rfl,e.get L ha nofun⟩
structure GrU (z:Str) (hs:List j3) (h:j3) (kt kg:Nat) (A B:Int):Prop where
 s:b2D z hs h kt kg A B
 a:Big 20000 A
 p:0<A
 b:0<B
 c:B<2 ^ 8000
section
variable {P:aL} {w:aI} {K:aE} {mg:Str->Option aC} {base:aG} {f Pt d CN CB:aA} {fd:aJ} {n:Nat} {C:aA}
end
inductive Scl (hs:List j3) (h:j3) (kt kg:Nat):Str->Prop
 | just {A B A1 B1:Int}:ShU "any" hs h kt kg A B->ShU "one" hs h kt kg A1 B1->low A B=low A1 B1->Scl hs h kt kg "just"
 | small {A B A1 B1 A2 B2:Int}:ShU "any" hs h kt kg A B->ShU "one" hs h kt kg A1 B1->low A B≠low A1 B1->ShU "less" hs h kt kg A2 B2->low A B=low A2 B2->Scl hs h kt kg "small"
 | great {A B A1 B1 A2 B2:Int}:ShU "any" hs h kt kg A B->ShU "one" hs h kt kg A1 B1->low A B≠low A1 B1->ShU "less" hs h kt kg A2 B2->low A B≠low A2 B2->Scl hs h kt kg "great"
section
variable {P:aL} {w:aI} {K:aE} {mg:Str->Option aC} {base:aG} {f Pt CN:aA} {fd:aJ} {n:Nat}
def a6Y (K:aE) (CN Pt:aA):Sp:=λ vs H Q E=>∃ (ba:aA) (xs:List V) (hs:List j3) (number:Int) (far:Int) (kt kg:Nat),vs=[.ref ba,.int number]/\BookIn K H ba xs hs far kt kg/\1<=kt/\number.natAbs.log2<1920/\LT Pt H ∧
 (∀ (i:Nat) (h:j3) (H':Hp) (t:Str),number=(i:Int)->hs[i]?=some h->Scl hs h kt kg t->Same1 Pt H H'->LT Pt H'->Q (.str t) H')/\(¬ J4 xs.length number->E (.ref CN) none H)
theorem scScl:m6 ["book","number","by_any"] ["book","number"] (j4 a3z):=⟨rfl,rfl,rfl,by decide +kernel,rfl,by decide +kernel,by decide +kernel⟩
theorem a9A {f1:aA} {d1:aJ} (F:Fun K "scale" "scale" a3z f fd) (Cs:L9 P w K mg base n "share" ["book","number","sizes"] (a0g K CN Pt) f1 d1):FnOk P w K mg base (Q7 P w) (n+1) f fd ["book","number"] (a6Y K CN Pt):=by
 have Cs':=a3o Cs.ok;refine F.ok1 scScl (λ vs H Q E h=>?_) (λ cdv A outer s H vs Q E hr h=>?_)
 ·obtain ⟨ba,xs,hs,number,far,kt,kg,rfl,_⟩:=h
  rfl
 obtain ⟨ba,xs,hs,number,far,kt,kg,rfl,B,kt1,lm,L,q,hE⟩:=h;refine ⟨_,j0 (o7 (i:=2) scScl.nd rfl (aM rfl) (j6 Cs' hr rfl Cs.m Cs.k Cs.b .nil B9 (d0 (pv 0) (d0 (pv 1) (d0 C5 h8)))))
  (j0 (w8 (r6 (a3L hr) (pv 2) (j6 Cs' hr rfl Cs.m Cs.k Cs.b .nil B9 (d0 (pv 0) (d0 (pv 1) (d0 C5 h8)))) (r8 _)) (j5 (o8 C5)) t7)
  (j0 (w8 (r6 (a3L hr) (pv 2) (j6 Cs' hr rfl Cs.m Cs.k Cs.b .nil B9 (d0 (pv 0) (d0 (pv 1) (d0 C5 h8)))) (r8 _)) (j5 (o8 C5)) t7)
  (j5 (o8 C5)))),?_⟩
 have xl:xs.length=hs.length:=dH B.b;refine ⟨_,rfl,_,rfl,ba,xs,hs,number,"any",far,kt,kg,rfl,.inl rfl,B,kt1,lm,L,λ i h A0 B0 H1 u0 hi hh X0 e1 L1 hu0=>?_,hE⟩;have bin:∀ {H':Hp},Same1 Pt H H'->BookIn K H' ba xs hs far kt kg:=λ e=>⟨SqL.same1 L e B.l,Bk.same1 L e B.b,B.g,B.far,B.few,B.t,B.k⟩;have hil:=(bP.mp hh).1;have gd:J4 xs.length number:=⟨by omega,by omega⟩;refine ⟨_,rfl,_,rfl,_,rfl,ba,xs,hs,number,"one",far,kt,kg,rfl,.inr (.inl rfl),bin e1,kt1,lm,L1,λ i' h' A1 B1 H2 u1 hi' hh' X1 e2 L2 hu1=>?_,λ bad=>absurd gd bad⟩;have:i'=i:=by omega
 subst this;rw [hh] at hh'; cases hh';have hu2:=hu0.to1 L1 e2;refine ⟨dF _,dF _,FrV.dp hu2.v,FrV.dp hu1.v,a2W _,a2W _,cO (mJ _ _) (a8S _),_,rfl,?_⟩;rw [b2e];refine w6 (λ c=>?_) (λ c=>?_)
 ·exact q i' h H2 "just" hi hh (.just X0 X1 (of_decide_eq_true c)) (e1.trans e2) L2
 have c':=of_decide_eq_false (eW.mpr c);refine ⟨_,rfl,_,rfl,_,rfl,ba,xs,hs,number,"less",far,kt,kg,rfl,.inr (.inr (.inl rfl)),bin (e1.trans e2),kt1,lm,L2,λ i2 h' A2 B2 H3 u2 hi' hh' X2 e3 L3 hu3=>?_,λ bad=>absurd gd bad⟩;have:i2=i':=by omega
 subst this;rw [hh] at hh'; cases hh';have hu4:=hu2.to1 L2 e3;refine ⟨dF _,dF _,FrV.dp hu4.v,FrV.dp hu3.v,a2W _,a2W _,cO (mJ _ _) (a8S _),_,rfl,?_⟩;rw [b2e];refine w6 (λ d=>?_) (λ d=>?_)
 ·exact q i2 h H3 "small" hi hh (.small X0 X1 c' X2 (of_decide_eq_true d)) (e1.trans (e2.trans e3)) L3
 ·exact q i2 h H3 "great" hi hh (.great X0 X1 c' X2 (of_decide_eq_false (eW.mpr d))) (e1.trans (e2.trans e3)) L3
end
end Rim
namespace L2
open PySem PySem.Spec PyProof.Rows
abbrev en2 (b:Bool) (h:aG) (t:aA):aG:=(zg1 b h t).push { cls:=.type "enumerate",data:=.fields #[.none,.bool false,.ref h.objs.size,rawInt 0,.none,.none] }
theorem a6N {prog:aL} {w:aI} {A:aY} {E:aC->aD->Prop} {s:aD} {c:aC} {Q:Bool->aD->Prop} (h:∀ b,Q b s):wpAny (model prog w) A (vU c) Q E s:=by
 unfold vU;exact aF (wpAny_stack_any λ st=>aT (h _))
theorem b3G (b:Bool) (t:aA) (xs:Array aC) :
  Meets (gH.«enumerate.__new__» ⟨[.type "enumerate",.ref t],[]⟩) (λ _ R s=>IsB b s.heap t xs/\R (.ok (.ret (.ref (zg1 b s.heap t).objs.size))) { s with heap:=en2 b s.heap t }) :=
 .of_wp λ prog w A R s h=>by
  obtain ⟨hp,g,d,tk,os⟩:=s;obtain ⟨e1,h⟩:=h;have hsub:=vV;have m1:IsB b (oA ⟨hp,g,d,tk,os⟩) t xs:=e1
  wp_walk using a4A m1,a6N
  intro c
  cases c
  ·wp_walk using a4A m1
   exact ⟨_,rfl,h⟩
  ·wp_walk using a4A m1
   exact ⟨_,rfl,h⟩
section
variable {prog:aL} {w:aI} {A:aY} {E:aC->aD->Prop} {s:aD}
theorem b0Y {b:Bool} {t:aA} {xs:Array aC} {Q:aC->aD->Prop} (l1:IsB b s.heap t xs)
  (q:∀ h',eX h' (s.heap.objs.size+1) s.heap.objs.size 0 .none->ItB b h' s.heap.objs.size t 0->(∀ c o,s.heap.get? c=some o->h'.get? c=some o)->Q (.ref (s.heap.objs.size+1)) { s with heap:=h' }) :
  wpAny (model prog w) A (call (.type "enumerate") [.ref t]) Q E s:=by
 refine qF vW (by decide) (vX _) (vY _) (λ ob=>vZ ob _) wA (b3G b t xs) ⟨l1,?_⟩;have n1:(zg1 b s.heap t).objs.size=s.heap.objs.size+1:=eQ ..;have p2:(en2 b s.heap t).get? (zg1 b s.heap t).objs.size=some _:=cI _ rfl;have p1:(en2 b s.heap t).get? s.heap.objs.size=some _:=bE _ (cI _ rfl);rw [n1] at p2
 show _/\_
 rw [n1];exact ⟨⟨_,p2,rfl⟩,q _ p2 (ItB.mk p1) λ c o m=>bE _ (bE _ m)⟩
theorem a9j {b:Bool} (hh:A.handled=none) (it t:aA) (hne:t≠it) (xs:Array aC):Draws prog w A it [it,t] xs.size (λ i v=>xs[i]?=some v) (λ i h=>ItB b h it t i/\IsB b h t xs) where
 live:=λ i h st=>by obtain ⟨o,e,_⟩:=st.1.obj; exact ⟨o,e⟩
 frame:=λ i h h' st k=>⟨st.1.at' λ o e=>k it (by simp) o e,st.2.at' λ o e=>k t (by simp) o e⟩
 item:=λ i s Q E hi st q=>by
  refine J3 st.1 st.2 (x:=xs[i]) (wB hi) λ h' a1 a2=>?_;exact q _ h' s.toks (wB hi) ⟨a1,st.2.extBut a2.extBut hne⟩ a2
 done:=λ s Q E st q=>S5 hh st.1 st.2 (by simp) λ h' e a1 a2=>q h' e a1 a2
end
def Itn (b:Bool) (K:aE) (l:aA):It :=
  ⟨λ i H=>∃ xs x,SqB b K H l xs/\xs[i]?=some x,
   λ i H x H'=>∃ p a,H p=none/\x=.ref p/\H'=upd H p (.tup [.int (i:Int),a])/\∀ xs,SqB b K H l xs->xs[i]?=some a,
   λ i H=>∃ xs,SqB b K H l xs/\xs.length<=i⟩
theorem b1p {b:Bool} {P:aL} {w:aI} {K:aE} {elts:List aN} {x1:Nat} {pos:Pos} {e it l:aA} (hne:e≠it) (hle:l≠e) (hli:l≠it) :
  a4E P w K (.Tuple elts x1 pos) (Itn b K l) [e,it] e (λ i h=>(∃ old,eX h e it (i:Int) old)/\ItB b h it l i) where
 mem:=by simp
 obj:=λ i h st c hb=>by
  obtain ⟨⟨old,he⟩,h1⟩:=st;obtain ⟨o1,e1,v1,d1⟩:=h1.obj;simp only [bD,bX,or_false] at hb;rcases hb with rfl | rfl
  ·exact ⟨_,he,λ v q=>by cases q⟩
  ·exact ⟨o1,e1,λ v q=>by rw [d1] at q; cases q⟩
 keep:=λ i h h' st k=>by
  obtain ⟨⟨old,he⟩,h1⟩:=st;exact ⟨⟨old,k e (by simp) _ he⟩,h1.at' λ o q=>k it (by simp) o q⟩
 item:=by
  intro X hP hw hK hc i pins s σ H E I hf st hg;subst hP hw hK;obtain ⟨xs,x,hq,hx⟩:=hg;obtain ⟨⟨old,he⟩,h1⟩:=st;obtain ⟨its,rv,p,_⟩:=I.sqB hq;obtain ⟨u,hu,ru⟩:=rv.get hx;have hu':its.toArray[i]?=some u:=by simpa using hu
  have il:i<its.toArray.size:=(oO.mp hu').1;refine wpAny_pyNext_enum_itemD (a9j (A:=X.A.in1) (b:=b) (show X.A.in1.handled=none from I.ok.hd hc) it l hli its.toArray) he ⟨h1,p⟩ il hne (by simp; exact ⟨hne,bI hle⟩) λ v h' tk hv a1 a2 a3 a4 a5=>?_;rw [hu'] at hv
  cases hv;refine ⟨_,rfl,qG (s:={ s with heap:=h',toks:=tk+1 }) a1 λ h'' he'' hs''=>?_⟩;have ie:s.heap.get? e=_:=he;obtain ⟨o1,ei,_⟩:=h1.obj;have neT:∀ c∈[e,it],c≠s.heap.objs.size:=λ c hb q=>by
   have:∃ o,s.heap.get? c=some o:=by
    simp only [bD,bX,or_false] at hb;rcases hb with rfl | rfl
    ·exact ⟨_,ie⟩
    ·exact ⟨_,ei⟩
   obtain ⟨o,ho⟩:=this;exact absurd (bC ho) (by rw [q]; exact cN _)
  have kk:∀ c o,c ∉ [e,it]->s.heap.get? c=some o->h''.get? c=some o:=λ c o hb q=>by
   simp only [bD,bX,or_false,not_or] at hb;exact hs''.extBut c o hb.1 (a5 c o hb.1 hb.2 q)
  have it'':ItB b h'' it l (i+1):=a2.1.extBut hs''.extBut (bI hne);have hoF:∀ c∈[e,it],∃ o,h''.get? c=some o:=λ c hb=>by
   obtain ⟨o2,e2,_⟩:=it''.obj;simp only [bD,bX,or_false] at hb;rcases hb with rfl | rfl
   ·exact ⟨_,he''⟩
   ·exact ⟨_,e2⟩
  have es:e≠s.heap.objs.size:=neT e (by simp);have tup:fT h'' s.heap.objs.size [fR (i:Int) tk,u].toArray:=⟨_,hs''.extBut _ _ (bI es) a3,rfl,0,rfl⟩;refine ⟨.ref s.heap.objs.size,upd H s.heap.objs.size (.tup [.int (i:Int),x]),(I.turnedLaid (h':=h'') hf kk hoF (aU _) (by show 2<=sizeLine; decide) (show Vals [.int (i:Int),x] [fR (i:Int) tk,u] from .cons ⟨_,rfl⟩ (.cons ru .nil)) tup).tok _,rfl,⟨_,x,I.fresh,rfl,rfl,λ xs' q1=>?_⟩,⟨⟨_,he''⟩,it''⟩,λ c hb=>?_⟩
  ·rw [I.sqB_inj q1 hq]; exact hx
  ·rw [i7 (neT c hb)]; exact (hf c hb).1
 done:=by
  intro X hP hw hK hc i pins s σ H E I hf st hg;subst hP hw hK;obtain ⟨xs,hq,hend⟩:=hg;obtain ⟨⟨old,he⟩,h1⟩:=st;obtain ⟨its,rv,p,_⟩:=I.sqB hq;have hl:=rv.length
  by_cases hi:i=its.length
  ·subst hi
   refine wC (a9j (A:=X.A.in1) (b:=b) (show X.A.in1.handled=none from I.ok.hd hc) it l hli its.toArray) he ⟨by simpa using h1,p⟩ λ h' k=>⟨rfl,I.turnedAll hf λ c o hb q=>?_⟩;simp only [bD,bX,or_false,not_or] at hb;exact k c o hb.2 q
  ·have d:Draws X.prog X.w X.A.in1 it [it,l] 0 (λ _ _=>True) (λ _ h=>ItB b h it l i/\IsB b h l its.toArray):=⟨λ j h st=>by obtain ⟨o,e,_⟩:=st.1.obj; exact ⟨o,e⟩,λ j h h' st k=>⟨st.1.at' λ o e=>k it (by simp) o e,st.2.at' λ o e=>k l (by simp) o e⟩,λ j s Q E hj=>absurd hj (qS _),λ s Q E st q=>S5 (show X.A.in1.handled=none from I.ok.hd hc) st.1 st.2 (by simp; omega) λ h' e a1 a2=>q h' e a1 a2⟩
   refine wC d he ⟨h1,p⟩ λ h' k=>⟨rfl,I.turnedAll hf λ c o hb q=>?_⟩;simp only [bD,bX,or_false,not_or] at hb;exact k c o hb.2 q
 self:=λ _ _ _ _ _ st h=>by
  obtain ⟨⟨old,he⟩,_⟩:=st;exact kJ he h
def iEn (b:Bool) (K:aE) (ta:TA):TI:=λ σ H R=>ta σ H λ vs H1=>∃ l,vs=[.ref l]/\(∃ xs,SqB b K H1 l xs)/\R (Itn b K l) H1
theorem b4A (b:Bool) (K:aE) {X:Cx} {a:aN} {ta:TA} {p pos pos':Pos} {elts:List aN} {x1:Nat} (hK:X.K=K) (hg:Gl X "enumerate") (hm:X.mg "enumerate"=none) (ha:PA X [a] ta) (hs:starEach [a] X.env=[(false,eval a X.env)]:=by rfl) (hs2:starEach ([]:List aN) X.env=[]:=by rfl) :
  PI X (.Tuple elts x1 pos') (.Call (.Name "enumerate" p) [a] [] pos) (iEn b K ta):=by
 subst hK;intro pins s σ H R I h;refine jQ (T9 I hg hm qH (iZ (A7 (ha pos pins s σ H _ I h) λ us s1 ⟨vs,H1,I1,r1,q1⟩=>?_) (by rw [hs,hs2]) (by rw [hs2]; rfl)));obtain ⟨l,e,⟨xs,q1⟩,q⟩:=q1;subst e;obtain ⟨u,rfl,ru⟩:=P7 r1
 cases ru;obtain ⟨its,rv,p,_⟩:=I1.sqB q1;have lt1:l<s1.heap.objs.size:=p.lt;refine b0Y p λ h' z1 z2 k=>?_;have I2:Inv X pins σ H1 { s1 with heap:=h' }:=I1.kept (t':=s1.toks) k;refine kJ z1 ?_;refine ⟨s1.heap.objs.size+1,[s1.heap.objs.size+1,s1.heap.objs.size],_,_,H1,rfl,I2,b1p (b:=b) (l:=l) (e:=s1.heap.objs.size+1) (it:=s1.heap.objs.size) (uO _) (cF (jZ lt1)) (cF lt1),⟨⟨_,z1⟩,z2⟩,λ b hb=>?_,q⟩;have hb':s1.heap.objs.size<=b:=by
  simp only [bD,bX,or_false] at hb;rcases hb with rfl | rfl
  ·exact mX _
  ·exact aU _
 exact I1.fpOk hb' (I1.hok.fresh hb')
section
variable {b:Bool} {xs:List V} {K:aE} {l:aA} {fr:List Nat} {te:TE} {σ:St} {H1:Hp} {p:aA} {D:Hp->Prop}
end
def X8 (q:Nat->Bool) (F:Nat->V->V) (xs:List V) (n:Nat):List V:=((aR n).filter q).filterMap λ i=>(xs[i]?).map (F i)
theorem a5E (q:Nat->Bool) (F:Nat->V->V) (xs:List V) (n:Nat):(X8 q F xs n).length<=n:=by
 unfold X8;have h1:=List.length_filterMap_le (λ i=>(xs[i]?).map (F i)) ((aR n).filter q);have h2:=qP q (aR n);rw [fF] at h2;omega
theorem a1K {q:Nat->Bool} {F:Nat->V->V} {xs:List V} {n:Nat} {x:V} (h:xs[n]?=some x):X8 q F xs (n+1)=X8 q F xs n++(if q n=true then [F n x] else []):=by
 unfold X8;rw [lX,qO,wD]
 congr 1
 cases e:q n with
 | true=>simp [e,h]
 | false=>simp [e]
section
variable {b:Bool} {xs:List V} {K:aE} {l:aA} {fr:List Nat} {tc:TT} {te:TE} {σ:St} {H1:Hp} {p:aA} {D:Hp->Prop}
theorem b2M (hl:SqB b K H1 l xs) (hp:H1 p=none) (hz:xs.length<sizeLine) (q:Nat->Bool) (F:Nat->V->V)
  (test:∀ (i:Nat) x H ys (N:Bool->Hp->Prop),xs[i]?=some x->Same H1 H->H p=some (.lst ys)->(∀ H3,Same H H3->N (q i) H3)->tc (((blkσ 2 fr σ).set 0 (some (.int (i:Int)))).set 1 (some x)) H N)
  (step:∀ (i:Nat) x H (N:VK),xs[i]?=some x->q i=true->Same H1 H->N (F i x) H->te (((blkσ 2 fr σ).set 0 (some (.int (i:Int)))).set 1 (some x)) H N)
  (hd:∀ H,Same H1 H->H p=some (.lst (X8 q F xs xs.length))->D H):lcI 2 fr (a4j K 2 (R6 (K9 0) (R6 (K9 1) a4J))) tc te σ (Itn b K l) H1 p D:=by
 refine ⟨λ i m ys H=>m=xs.length - i/\i<=xs.length/\Same H1 H/\H p=some (.lst ys)/\ys=X8 q F xs i,⟨xs.length,by simp,dA _,Same.new hp _,upd_same,rfl⟩,?_⟩;rintro i m ys H ⟨rfl,hi,e,hH,rfl⟩
 by_cases hlt:i<xs.length
 ·refine .inr ⟨⟨xs,xs[i],e.sqB hl,aV hlt⟩,λ u H' y=>?_⟩
  obtain ⟨z,a,hz',rfl,rfl,hab⟩:=y;have ha:=hab xs (e.sqB hl);have s1:=Same.new hz' (.tup [.int (i:Int),a]);refine ⟨z,_,rfl,SqT.of upd_same,rfl,_,_,rfl,_,_,rfl,rfl,?_,?_⟩
  ·refine ⟨by simp,λ k w ek=>?_⟩
   have:¬ k<2:=λ hk=>by
    unfold blkσ at ek;rw [dB (by simpa using hk),fU] at ek
    split at ek <;> cases ek
   rw [bY (by omega),bY (by omega)]; exact ek
  ·refine test i a _ _ _ ha (e.trans s1) (s1 _ _ hH) λ H3 s3=>?_
   have hH3:=s3 _ _ (s1 _ _ hH)
   cases hq:q i with
   | false =>
    rw [if_neg cS];exact ⟨xs.length - (i+1),by omega,rfl,hlt,e.trans (s1.trans s3),hH3,by rw [a1K ha,hq]; simp⟩
   | true =>
    rw [if_pos rfl];refine step i a _ _ ha hq (e.trans (s1.trans s3)) ⟨hH3,?_,xs.length - (i+1),by omega,rfl,hlt,(e.trans (s1.trans s3)).write hp,upd_same,by rw [a1K ha,hq]; simp⟩;have:=a5E q F xs i;omega
 ·have:i=xs.length:=by omega
  subst this;exact .inl ⟨⟨xs,e.sqB hl,by omega⟩,hd H e hH⟩
end
end L2
namespace L2
open PySem
end L2
namespace Rim
open PySem L2 Fr
section
variable {P:aL} {w:aI} {K:aE} {mg:Str->Option aC} {base:aG} {f:aA} {fd:aJ} {n:Nat}
structure b6U (pt pg:List Int) (ps D L:Int):Prop where
 l:0<L
 d:L∣D
 t:∀ x∈pt,(low x D).2∣L
 g:∀ x∈pg,(low x D).2∣L
 s:(low ps D).2∣L
end
section
variable {P:aL} {w:aI} {K:aE} {mg:Str->Option aC} {base:aG} {f:aA} {fd:aJ} {n:Nat}
end
section
variable {P:aL} {w:aI} {K:aE} {mg:Str->Option aC} {base:aG} {f:aA} {fd:aJ} {n:Nat}
def b4V (x y:Q2):Int:=if x.1*y.2<y.1*x.2 then -1 else if x.1*y.2>y.1*x.2 then 1 else 0
def a2h (K:aE):Sp:=λ vs H Q _=>∃ (u v:V) (x y:Q2),vs=[u,v]/\FrV K H u x/\FrV K H v y/\(Big 1000000 x.1/\Big 1000000 x.2/\Big 1000000 y.1/\Big 1000000 y.2)/\Q (.int (b4V x y)) H
theorem scCmp:m6 ["one","other","left","right"] ["one","other"] (j4 a0A):=⟨rfl,rfl,rfl,by decide +kernel,rfl,by decide +kernel,by decide +kernel⟩
theorem b1S (F:Fun K "compared" "compared" a0A f fd):FnOk P w K mg base E1 (n+1) f fd ["one","other"] (a2h K):=by
 refine F.ok scCmp (λ vs H Q E h=>?_) (λ cdv A outer s H vs Q E hr h=>?_)
 ·obtain ⟨u,v,x,y,rfl,_⟩:=h
  rfl
 obtain ⟨u,v,x,y,rfl,⟨a,rfl,ha⟩,⟨b,rfl,hb⟩,⟨b1,b2,b3,b4⟩,q⟩:=h;refine ⟨_,j0 (o7 (i:=2) scCmp.nd rfl (aM rfl) (j7 N9 (p7 A9 (pv 0) i8 (λ _ _=>rfl)) (p7 A9 (pv 1) i8 (λ _ _=>rfl))))
  (j0 (o7 (i:=3) scCmp.nd rfl (aM rfl) (j7 N9 (p7 A9 (pv 1) i8 (λ _ _=>rfl)) (p7 A9 (pv 0) i8 (λ _ _=>rfl))))
  (j0 (w8 (r6 a0q (pv 2) (pv 3) (r8 _)) (j5 (o8 (R9 K3 i8))) t7)
  (j0 (w8 (r6 a0s (pv 2) (pv 3) (r8 _)) (j5 (o8 i8)) t7)
  (j5 (o8 i8))))),?_⟩
 refine ⟨_,rfl,a,_,0,_,rfl,rfl,ha,U4 _ _,_,rfl,b,_,1,_,rfl,rfl,hb,W8 _ _,_,_,rfl,rfl,⟨b1,b4⟩,?_⟩;refine ⟨_,rfl,b,_,0,_,rfl,rfl,hb,U4 _ _,_,rfl,a,_,1,_,rfl,rfl,ha,W8 _ _,_,_,rfl,rfl,⟨b3,b2⟩,?_⟩;unfold b4V at q;refine ⟨_,rfl,_,rfl,_,_,rfl,rfl,_,rfl,?_⟩;refine w6 (λ c=>?_) (λ c=>?_)
 ·rw [if_pos (of_decide_eq_true c)] at q
  exact ⟨_,rfl,q⟩
 have c':=of_decide_eq_false (eW.mpr c);rw [if_neg c'] at q;refine ⟨_,rfl,_,rfl,_,_,rfl,rfl,_,rfl,?_⟩;refine w6 (λ d=>?_) (λ d=>?_)
 ·rw [if_pos (of_decide_eq_true d)] at q
  exact q
 ·rw [if_neg (of_decide_eq_false (eW.mpr d))] at q
  exact q
def ltQ (x y:Q2):Bool:=decide (x.1*y.2<y.1*x.2)
structure b5K (l:List (Option Q2)) (o:Option Q2):Prop where
 n:o=none->∀ y,some y ∉ l
 m:∀ b,o=some b->some b∈l/\∀ y,some y∈l->ltQ b y=false
end
section
variable {P:aL} {w:aI} {K:aE} {mg:Str->Option aC} {base:aG} {f g:aA} {fd gd:aJ} {n:Nat}
def a9I (a b:Int):Int:=if a<b then -1 else if a>b then 1 else 0
def Sml (x:Q2):Prop:=Big 1000000 x.1/\Big 1000000 x.2
def a7p (K:aE):Sp:=λ vs H Q _=>∃ (u v:V) (x y:Q2),vs=[u,v]/\FrV K H u x/\FrV K H v y/\Sml x/\Sml y/\Q (.int (a9I (x.1*y.2) (y.1*x.2))) H
theorem b1U (F:FnOk P w K mg base E1 n f fd ["one","other"] (a2h K)):FnOk P w K mg base E1 n f fd ["one","other"] (a7p K):=F.imp λ vs H Q E h=>by
 obtain ⟨u,v,x,y,rfl,hu,hv,sx,sy,q⟩:=h;exact ⟨u,v,x,y,rfl,hu,hv,⟨sx.1,sx.2,sy.1,sy.2⟩,q⟩
def Cov (h o:j3):Prop:=∀ i,i<h.2.length->o.2.getD i 0<=h.2.getD i 0
theorem a6L:∀ (hs os:List Int),hs.length=os.length->((dQ (λ x y=>decide (y<=x)) hs os).all id=true ↔ ∀ i,i<hs.length->os.getD i 0<=hs.getD i 0)
 | [],[],_=>⟨λ _ i hi=>absurd hi (qS _),λ _=>rfl⟩
 | [],_::_,h=>by simp at h
 | _::_,[],h=>by simp at h
 | a::r,b::t,h=>by
  have ih:=a6L r t (by simpa using h);rw [dX,pK,fV,ih];constructor
  ·rintro ⟨h0,h1⟩ i hi
   cases i with
   | zero=>exact of_decide_eq_true h0
   | succ j=>exact h1 j (by simpa using hi)
  ·intro h0
   exact ⟨decide_eq_true (h0 0 (by simp)),λ i hi=>h0 (i+1) (by simpa using hi)⟩
def a6T (K:aE):Sp:=λ vs H Q _=>∃ (u v:V) (h o:j3),vs=[u,v]/\HS K H u h/\HS K H v o/\h.2.length=o.2.length/\h.2.length<=900/\∀ (b:Bool) (H':Hp),Same H H'->(b=true ↔ Cov h o)->Q (.bl b) H'
theorem b4u:m6 ["house","other"] ["house","other"] (j4 P4):=⟨rfl,rfl,rfl,by decide +kernel,rfl,by decide +kernel,by decide +kernel⟩
theorem b2s:(["give","wanted"]:List Str).Nodup:=by decide +kernel
theorem b2N (F:Fun K "gives_no_less" "gives_no_less" P4 f fd) (T:x8 mg):FnOk P w K mg base E1 (n+1) f fd ["house","other"] (a6T K):=by
 refine F.ok b4u (λ vs H Q E h=>?_) (λ cdv A outer s H vs Q E hr h=>?_)
 ·obtain ⟨u,v,h,o,rfl,_⟩:=h
  rfl
 obtain ⟨u,v,h,o,rfl,⟨a1,t1,g1,rfl,e1,e2,e3⟩,⟨a2,t2,g2,rfl,d1,d2,d3⟩,hl,hz,q⟩:=h;refine ⟨_,j5 (o8 (j8 (a5i rfl) rfl T.all wE (d0
  (R5 ["give","wanted"] [] rfl (a7j false false K rfl rfl T.zip (d0 (p7 A9 (pv 0) i8 (λ _ _=>rfl)) (d0 (p7 A9 (pv 1) i8 (λ _ _=>rfl)) h8)))
   (λ _ _ _ _=>Q8 (n:=2) K rfl rfl (r9 (m9 (i:=0) b2s rfl (aM rfl)) (r9 (m9 (i:=1) b2s rfl (aM rfl)) C2)))
   (λ _ _ _ _=>M7 a4W (pv 0) (pv 1) (r8 _))) h8))),?_⟩
 refine ⟨_,rfl,a1,_,1,_,rfl,rfl,e1,W8 _ _,_,rfl,a2,_,1,_,rfl,rfl,d1,W8 _ _,g1,g2,rfl,⟨_,e3⟩,⟨_,d3⟩,λ p hp=>?_⟩;have lh:(h.2.map V.int).length=h.2.length:=aH _;refine b1Z (b1:=false) (b2:=false) e3 d3 hp (by rw [lh]; exact p6 (by omega)) (λ x y=>.bl (decide (vI y<=vI x))) (λ i x y H' N hx hy e hN=>?_) (λ H' e hp'=>?_)
 ·obtain ⟨k,rfl⟩:=G3 hx
  obtain ⟨j,rfl⟩:=G3 hy;exact ⟨_,rfl,_,rfl,_,_,rfl,rfl,a6o hN rfl⟩
 ·refine ⟨p,(dQ (λ x y=>decide (y<=x)) h.2 o.2),rfl,.inl (SqL.of ?_),?_⟩
  ·rw [hp',List.zipWith_map,List.map_zipWith]
   rfl
  ·exact q _ _ ((Same.refl _).trans e) (a6L h.2 o.2 hl)
end
theorem b4C {t b:Int} (ht:0<=t) (hb:0<b):0<=(low t b).1/\(low t b).1<=t:=by
 obtain ⟨h1,_⟩:=Q6 (t:=t) hb;have hg:=a2I (a:=t) hb;generalize (low t b).1=x at h1;generalize gI t b=g at h1 hg;have hx:0<=x:=by
  by_cases z:0<=x
  ·exact z
  ·have:=eF hg (show 0 < -x by omega)
   rw [eY] at this;omega
 refine ⟨hx,?_⟩;have:=fP (show (1:Int)<=g by omega) hx;rw [jJ,<- h1] at this;exact this
def stp (a:Q2) (p:Int×Int):Q2:=if a.1*p.2<p.1*a.2 then low p.1 p.2 else a
def ltm (ts os:List Int):Q2:=(iA ts os).foldl stp (0,1)
structure AOk (a:Q2):Prop where
 t0:0<=a.1
 t1:a.1<=1000000000
 b1:a.2<=1000000000
 c:a6C a
def Amt (x:Int):Prop:=1<=x/\x<=1000000000
theorem AOk.low {t o:Int} (ht:Amt t) (ho:Amt o):AOk (low t o):=by
 have hb:0<o:=by have:=ho.1; omega
 have h:=b4C (t:=t) (b:=o) (by have:=ht.1; omega) hb;exact ⟨h.1,qR h.2 ht.2,qR (a8E hb) ho.2,a1f hb⟩
theorem AOk.sml {a:Q2} (h:AOk a):Sml a:=by
 have h1:=h.t1;have h2:=h.b1;exact ⟨(a1Y (n:=60) h.t0 (by omega)).mono (by decide),(a1Y (n:=60) (bR h.c.1) (by omega)).mono (by decide)⟩
theorem AOk.one:AOk (0,1):=⟨by decide,by decide,by decide,⟨by decide,by decide⟩⟩
theorem a9o {a b c:Int} (h:0<c):a*c<b*c ↔ a<b:=⟨λ z=>Int.lt_of_mul_lt_mul_right z (bR h),λ z=>Int.mul_lt_mul_of_pos_right z h⟩
theorem a8q {a:Q2} {t o:Int} (ho:0<o):a.1*(low t o).2<(low t o).1*a.2 ↔ a.1*o<t*a.2:=by
 have hc:=Fr.low_cross (t:=t) ho;have hp:=a3Y (t:=t) ho;generalize (low t o).1=t' at *;generalize (low t o).2=o' at *;rw [<- a9o (a:=a.1*o') ho,<- a9o (a:=a.1*o) hp];have e1:a.1*o'*o=a.1*o*o':=by rw [bK,bJ o' o,<- bK]
 have e2:t'*a.2*o=t*a.2*o':=by rw [bK,bJ a.2 o,<- bK,hc,bK,bJ o' a.2,<- bK]
 rw [e1,e2]
theorem a9n (a b:Int):(0<a9I a b) ↔ b<a:=by
 unfold a9I
 split
 ·omega
 ·split <;> omega
theorem b0g (a b:Int):(a9I a b<0) ↔ a<b:=by
 unfold a9I
 split
 ·omega
 ·split <;> omega
theorem b2P {α β:Type} {xs:List α} {ys:List β} {i:Nat} {x:α} {y:β} (h1:xs[i]?=some x) (h2:ys[i]?=some y):(iA xs ys)[i]?=some (x,y):=by
 rw [List.getElem?_zip_eq_some];exact ⟨h1,h2⟩
theorem a7I {α β:Type} (g:β->α->β) (b:β) {l:List α} {i:Nat} {x:α} (h:l[i]?=some x):(l.take (i+1)).foldl g b=g ((l.take i).foldl g b) x:=by
 rw [lP,h,List.foldl_append];rfl
theorem b0y {ns:List Int} {i:Nat} {x:V} (h:(ns.map V.int)[i]?=some x):∃ k,x=.int k/\ns[i]?=some k:=by
 rw [aQ] at h
 cases e:ns[i]? with
 | none=>rw [e] at h; cases h
 | some k=>rw [e] at h; cases h; exact ⟨k,rfl,rfl⟩
section
variable {P:aL} {w:aI} {K:aE} {mg:Str->Option aC} {base:aG} {f g:aA} {fd gd:aJ} {n:Nat}
def b2z (K:aE) (CN:aA):Sp:=λ vs H Q E=>∃ (a:aA) (xs:List V) (hs:List j3) (m k:Int) (kg:Nat),vs=[.ref a,.int m,.int k]/\SqL K H a xs/\Bk K H xs hs/\(∀ h∈hs,h.2.length=kg)/\kg<=900/\m.natAbs.log2<1920/\k.natAbs.log2<1920 ∧
 (∀ (i j:Nat) h o,m=(i:Int)->k=(j:Int)->hs[i]?=some h->hs[j]?=some o->∀ (b:Bool) (H':Hp),Same H H'->(b=true ↔ Cov h o)->Q (.bl b) H')/\(¬ J4 xs.length m\/¬ J4 xs.length k->E (.ref CN) none H)
theorem b4f:m6 ["book","one","other"] ["book","one","other"] (j4 R3):=⟨rfl,rfl,rfl,by decide +kernel,rfl,by decide +kernel,by decide +kernel⟩
theorem b3q {CN fa fb:aA} {da db:aJ} (F:Fun K "covers_house" "covers_house" R3 f fd) (Cg:Cal P w K mg base n "gives_no_less" ["house","other"] (a6T K) fa da) (Ch:L9 P w K mg base n "house_of" ["book","number"] (V0 K CN) fb db) :
  FnOk P w K mg base (Q7 P w) (n+1) f fd ["book","one","other"] (b2z K CN):=by
 refine F.ok1 b4f (λ vs H Q E h=>?_) (λ cdv A outer s H vs Q E hr h=>?_)
 ·obtain ⟨a,xs,hs,m,k,kg,rfl,_⟩:=h
  rfl
 obtain ⟨a,xs,hs,m,k,kg,rfl,hS,hB,hkg,hk9,lm,lk,q,hE⟩:=h;refine ⟨_,j5 (o8 (j6 Cg.ok hr rfl Cg.m Cg.k Cg.b .nil v5 (d0 (j6 Ch.ok hr rfl Ch.m Ch.k Ch.b .nil B9 (d0 (pv 0) (d0 (pv 1) h8)))
  (d0 (j6 Ch.ok hr rfl Ch.m Ch.k Ch.b .nil B9 (d0 (pv 0) (d0 (pv 2) h8))) h8)))),?_⟩
 refine ⟨_,rfl,_,rfl,a,xs,m,rfl,hS,lm,λ i x hi hx=>?_,λ bad=>hE (.inl bad)⟩;refine ⟨_,rfl,_,rfl,a,xs,k,rfl,hS,lk,λ j y hj hy=>?_,λ bad=>hE (.inr bad)⟩;obtain ⟨h,hh,hH⟩:=aS.at hB hx;obtain ⟨o,ho,hO⟩:=aS.at hB hy;have l1:=hkg h (bN hh);have l2:=hkg o (bN ho);exact ⟨x,y,h,o,rfl,hH,hO,by rw [l1,l2],by omega,λ b H' e i'=>q i j h o hi hj hh ho b H' e i'⟩
structure a6b (K:aE) (mg:Str->Option aC) (o:aA):Prop where
 m:mg "NOUGHT"=some (.ref o)
 s:∀ H,SqT K H o [.int 0,.int 1]
def b1X (K:aE):Sp:=λ vs H Q _=>∃ (t1 t2:aA) (ts os:List Int),vs=[.ref t1,.ref t2]/\SqT K H t1 (ts.map V.int)/\SqT K H t2 (os.map V.int)/\ts.length=os.length/\1<=ts.length/\(∀ x∈ts,Amt x)/\(∀ x∈os,Amt x) ∧
 ∀ (v:V) (H':Hp),Same H H'->FrT H' v (ltm ts os)->AOk (ltm ts os)->Q v H'
theorem scLt:m6 ["takes","others","least","take","other","times"] ["takes","others"] (j4 O4):=⟨rfl,rfl,rfl,by decide +kernel,rfl,by decide +kernel,by decide +kernel⟩
theorem b4D {oN fa fb:aA} {da db:aJ} (F:Fun K "least_times" "least_times" O4 f fd) (T:x8 mg) (N:a6b K mg oN) (Cl:Cal P w K mg base n "lowest" ["top","bottom"] a2K fa da) (Cc:Cal P w K mg base n "compared" ["one","other"] (a7p K) fb db) :
  FnOk P w K mg base E1 (n+1) f fd ["takes","others"] (b1X K):=by
 refine F.ok scLt (λ vs H Q E h=>?_) (λ cdv A outer s H vs Q E hr h=>?_)
 ·obtain ⟨t1,t2,ts,os,rfl,_⟩:=h
  rfl
 obtain ⟨t1,t2,ts,os,rfl,h1,h2,hl,h0,at1,at2,q⟩:=h;refine ⟨_,j0 (o7 (i:=2) scLt.nd rfl (aM rfl) (E6 (v:=.ref oN) rfl N.m rfl))
  (j0 (T6 fQ rfl (a7j false false K rfl rfl T.zip (d0 (pv 0) (d0 (pv 1) h8))) (Q8 K (n:=2) rfl rfl (r9 (m9 (i:=3) scLt.nd rfl (aM rfl)) (r9 (m9 (i:=4) scLt.nd rfl (aM rfl)) C2)))
   (j0 (o7 (i:=5) scLt.nd rfl (aM rfl) (j6 Cl.ok hr rfl Cl.m Cl.k Cl.b .nil v5 (d0 (pv 3) (d0 (pv 4) h8))))
   (j5 (w8 (r6 a0s (j6 Cc.ok hr rfl Cc.m Cc.k Cc.b .nil v5 (d0 (pv 5) (d0 (pv 2) h8))) i8 (r8 _)) (j5 (o7 (i:=2) scLt.nd rfl (aM rfl) (pv 5))) t7))))
  (j5 (o8 (pv 2)))),?_⟩
 refine ⟨_,rfl,_,rfl,t1,t2,rfl,⟨_,h1⟩,⟨_,h2⟩,?_⟩;refine b3m (b1:=false) (b2:=false) (xs:=ts.map V.int) (ys:=os.map V.int) (i1:=3) (i2:=4) (λ i σ H'=>∃ (v:V) (o3 o4 o5:Option V),σ=[some (.ref t1),some (.ref t2),some v,o3,o4,o5]/\Same H H'/\FrV K H' v (((iA ts os).take i).foldl stp (0,1))/\AOk (((iA ts os).take i).foldl stp (0,1))/\(1<=i->FrT H' v (((iA ts os).take i).foldl stp (0,1))))
  ⟨_,_,_,_,rfl,Same.refl _,⟨oN,rfl,N.s _⟩,AOk.one,λ z=>absurd z (by decide)⟩ (λ i σ H' ⟨_,_,_,_,_,e,_⟩=>⟨e.tseq h1,e.tseq h2⟩) ?_ ?_
 ·rintro i x y σ H1 qq hx hy ⟨v,o3,o4,o5,rfl,e1,hv,hA,hT⟩ hq
  obtain ⟨t,rfl,ht⟩:=b0y hx;obtain ⟨o,rfl,ho⟩:=b0y hy;have A1:=at1 t (bN ht);have A2:=at2 o (bN ho);have s1:=Same.new hq (.tup [V.int t,V.int o]);have o0:0<o:=by have:=A2.1; omega
  refine ⟨_,rfl,_,rfl,t,o,rfl,o0,mG A2.2 (by decide),λ u H2 e2 hu=>?_⟩;have e12:=s1.trans e2;rw [a7I stp (0,1) (b2P ht ho)];have hz:i=0->((iA ts os).take i).foldl stp (0,1)=(0,1):=by rintro rfl; rfl
  generalize ((iA ts os).take i).foldl stp (0,1)=a at hv hA hT hz;have AL:=AOk.low A1 A2;refine ⟨_,rfl,_,rfl,u,v,low t o,a,rfl,hu.v,hv.same e12,AL.sml,hA.sml,_,_,rfl,rfl,_,rfl,?_⟩;refine w6 (λ c=>?_) (λ c=>?_)
  ·have c':=of_decide_eq_true c
   rw [a9n,a8q o0] at c';have es:stp a (t,o)=low t o:=by unfold stp; rw [if_pos c']
   refine ⟨_,rfl,u,_,_,_,rfl,e1.trans e12,?_,?_,?_⟩
   ·rw [es]; exact hu.v
   ·rw [es]; exact AL
   ·intro _; rw [es]; exact hu
  ·have c':=of_decide_eq_false (eW.mpr c)
   rw [a9n,a8q o0] at c';have es:stp a (t,o)=a:=by unfold stp; rw [if_neg c']
   refine ⟨v,_,_,_,rfl,e1.trans e12,?_,?_,?_⟩
   ·rw [es]; exact hv.same e12
   ·rw [es]; exact hA
   ·intro _
    rw [es]
    by_cases hi:1<=i
    ·exact (hT hi).same e12
    ·exfalso
     have ea:=hz (by omega);rw [ea] at c';have:=A1.1;simp only [hU,iE] at c';omega
 ·rintro σ H1 ⟨v,o3,o4,o5,rfl,e1,hv,hA,hT⟩
  have lm:min (ts.map V.int).length (os.map V.int).length=(iA ts os).length:=by rw [aH,aH,wF]
  have lz:1<=(iA ts os).length:=by rw [wF]; omega
  rw [lm,gF (aU _)] at hA hT;exact ⟨_,rfl,q v H1 e1 (hT lz) hA⟩
end
def a8I (h o:j3):Bool:=(aR h.2.length).all λ i=>decide (o.2.getD i 0<=h.2.getD i 0)
theorem a9p (h o:j3):a8I h o=true ↔ Cov h o:=by
 unfold a8I Cov;rw [jG];exact ⟨λ z i hi=>of_decide_eq_true (z i (dY.mpr hi)),λ z i hi=>decide_eq_true (z i (dY.mp hi))⟩
theorem b1B {b:Bool} {h o:j3} (i:b=true ↔ Cov h o):b=a8I h o:=by
 rw [<- a9p] at i
 cases b <;> cases e:a8I h o
 ·rfl
 ·exact absurd (i.mpr e) (by decide)
 ·exact absurd (i.mp rfl) (by rw [e]; decide)
 ·rfl
def a4V (o:j3) (b:Option (Q2×Nat)) (k:Nat) (h:j3):Option (Q2×Nat) :=
 if a8I h o=true then (match b with | none=>some (ltm h.1 o.1,k) | some (q,j)=>if (ltm h.1 o.1).1*q.2<q.1*(ltm h.1 o.1).2 then some (ltm h.1 o.1,k) else some (q,j)) else b
def a2d (hs:List j3) (o:j3):Nat->Option (Q2×Nat)
 | 0=>none
 | i+1=>a4V o (a2d hs o i) i (hs.getD i ([],[]))
def BV (H:Hp) (v:V) (b:Option (Q2×Nat)):Prop:=match b with
 | none=>v=.non
 | some (q,k)=>∃ a u,v=.ref a/\H a=some (.tup [u,.int (k:Int)])/\FrT H u q/\AOk q
theorem BV.same {H H':Hp} {v:V} {b:Option (Q2×Nat)} (e:Same H H') (h:BV H v b):BV H' v b:=by
 match b,h with
 | none,h=>exact h
 | some (q,k),⟨a,u,h1,h2,h3,h4⟩=>exact ⟨a,u,h1,e _ _ h2,h3.same e,h4⟩
abbrev Far:Int:=1000000000
section
variable {P:aL} {w:aI} {K:aE} {mg:Str->Option aC} {base:aG} {f g:aA} {fd gd:aJ} {n:Nat}
def b2L (K:aE) (CN:aA):Sp:=λ vs H Q E=>∃ (a:aA) (xs:List V) (hs:List j3) (m:Int) (kt kg:Nat),vs=[.ref a,.int m]/\SqL K H a xs/\Bk K H xs hs/\(∀ h∈hs,HG Far kt kg h)/\1<=kt/\kg<=900/\m.natAbs.log2<1920 ∧
 (∀ (i:Nat) h,m=(i:Int)->hs[i]?=some h->∀ (v:V) (H':Hp),Same H H'->BV H' v (a2d hs h hs.length)->Q v H')/\(¬ J4 xs.length m->E (.ref CN) none H)
theorem scAl:m6 ["book","number","house","best","other","single","times"] ["book","number"] (j4 O3):=⟨rfl,rfl,rfl,by decide +kernel,rfl,by decide +kernel,by decide +kernel⟩
theorem b5j {CN fa fb fc fe:aA} {da db dc de:aJ} (F:Fun K "share_alone" "share_alone" O3 f fd) (T:x8 mg) (Ch:L9 P w K mg base n "house_of" ["book","number"] (V0 K CN) fa da) (Cg:Cal P w K mg base n "gives_no_less" ["house","other"] (a6T K) fb db)
  (Cl:Cal P w K mg base n "least_times" ["takes","others"] (b1X K) fc dc) (Cc:Cal P w K mg base n "compared" ["one","other"] (a7p K) fe de):FnOk P w K mg base (Q7 P w) (n+1) f fd ["book","number"] (b2L K CN):=by
 refine F.ok1 scAl (λ vs H Q E h=>?_) (λ cdv A outer s H vs Q E hr h=>?_)
 ·obtain ⟨a,xs,hs,m,kt,kg,rfl,_⟩:=h
  rfl
 obtain ⟨a,xs,hs,m,kt,kg,rfl,hS,hB,hG,hkt,hkg,lm,q,hE⟩:=h;refine ⟨_,j0 (o7 (i:=2) scAl.nd rfl (aM rfl) (j6 Ch.ok hr rfl Ch.m Ch.k Ch.b .nil B9 (d0 (pv 0) (d0 (pv 1) h8))))
  (PSs.nox (j0 (o7 (i:=3) scAl.nd rfl (aM rfl) M2)
  (j0 (T6 fQ rfl (a4b K rfl rfl T.enum (d0 (pv 0) h8)) (Q8 K (n:=2) rfl rfl (r9 (m9 (i:=4) scAl.nd rfl (aM rfl)) (r9 (m9 (i:=5) scAl.nd rfl (aM rfl)) C2)))
   (j5 (w8 (X9 (j6 Cg.ok hr rfl Cg.m Cg.k Cg.b .nil v5 (d0 (pv 5) (d0 (pv 2) h8))))
    (j0 (o7 (i:=6) scAl.nd rfl (aM rfl) (j6 Cl.ok hr rfl Cl.m Cl.k Cl.b .nil v5 (d0 (p7 A9 (pv 5) i8 (λ _ _=>rfl)) (d0 (p7 A9 (pv 2) i8 (λ _ _=>rfl)) h8))))
    (j5 (w8 (PW.pt (a2l (r6 a0Z (pv 3) M2 (r8 _)) (a0t (r6 a0q (j6 Cc.ok hr rfl Cc.m Cc.k Cc.b .nil v5 (d0 (pv 6) (d0 (p7 A9 (pv 3) i8 (λ _ _=>rfl)) h8))) i8 (r8 _)))))
     (j5 (o7 (i:=3) scAl.nd rfl (aM rfl) (D3 (d0 (pv 6) (d0 (pv 4) h8))))) t7))) t7)))
  (j5 (o8 (pv 3)))))),?_⟩
 have xl:xs.length=hs.length:=dH hB;refine ⟨_,rfl,_,rfl,a,xs,m,rfl,hS,lm,λ i hv hi hx=>?_,hE⟩;obtain ⟨o,ho,hO⟩:=aS.at hB hx;have gO:=hG o (bN ho);refine ⟨_,rfl,a,rfl,⟨_,hS⟩,?_⟩;refine a2o (xs:=xs) (i1:=4) (i2:=5) (λ j σ H'=>∃ (bv:V) (o4 o5 o6:Option V),σ=[some (.ref a),some (.int m),some hv,some bv,o4,o5,o6]/\Same H H'/\BV H' bv (a2d hs o j))
  ⟨_,_,_,_,rfl,Same.refl _,rfl⟩ (λ j σ H' ⟨_,_,_,_,_,e,_⟩=>e.seq hS) ?_ ?_
 ·rintro j x σ H1 qq hx' ⟨bv,o4,o5,o6,rfl,e1,hb⟩ hq
  obtain ⟨h,hh,hH⟩:=aS.at hB hx';have gh:=hG h (bN hh);have s1:=Same.new hq (.tup [V.int (j:Int),x]);have e2:=e1.trans s1;have ej:a2d hs o (j+1)=a4V o (a2d hs o j) j h:=by
   show a4V o (a2d hs o j) j (hs.getD j ([],[]))=_
   rw [aZ,hh]; rfl
  refine ⟨_,rfl,_,rfl,x,hv,h,o,rfl,hH.same e2,hO.same e2,by rw [gh.lg,gO.lg],by rw [gh.lg]; omega,λ b H2 e3 ib=>?_⟩;have hb2:=b1B ib;subst hb2;have e4:=e2.trans e3;have hb3:=(hb.same s1).same e3;refine ⟨_,rfl,?_⟩;refine w6 (λ c=>?_) (λ c=>?_)
  ·obtain ⟨a1,t1,g1,rfl,p1,p2,p3⟩:=hH.same e4
   obtain ⟨a2,t2,g2,rfl,r1,r2,r3⟩:=hO.same e4;refine ⟨_,rfl,a1,_,0,_,rfl,rfl,p1,U4 _ _,_,rfl,a2,_,0,_,rfl,rfl,r1,U4 _ _,t1,t2,h.1,o.1,rfl,p2,r2,by rw [gh.lt,gO.lt],by rw [gh.lt]; exact hkt,gh.t,gO.t,λ u H3 e5 hu hA=>?_⟩;have hb4:=hb3.same e5;have e6:=e4.trans e5;rw [ej];unfold a4V;rw [if_pos c]
   cases hbb:a2d hs o j with
   | none =>
    rw [hbb] at hb4
    cases (show bv=.non from hb4);refine ⟨_,rfl,rfl,_,rfl,w6 (λ _=>a1N ?_) (λ d=>absurd (decide_eq_true rfl) d)⟩;refine ⟨_,rfl,_,rfl,(by show 2<=sizeLine; decide),λ p hp=>?_⟩;have s2:=Same.new hp (.tup [u,V.int (j:Int)]);exact ⟨_,_,_,_,rfl,e6.trans s2,p,u,rfl,upd_same,hu.same s2,hA⟩
   | some pr =>
    obtain ⟨q1,k1⟩:=pr;rw [hbb] at hb4;obtain ⟨ab,ub,rfl,hab,hub,hAq⟩:=hb4;refine ⟨_,rfl,rfl,_,rfl,w6 (λ d=>absurd (of_decide_eq_true d) (by intro z; cases z)) (λ _=>?_)⟩;refine ⟨_,rfl,_,rfl,ab,_,0,_,rfl,rfl,SqT.of hab,U4 _ _,u,ub,ltm h.1 o.1,q1,rfl,hu.v,hub.v,hA.sml,hAq.sml,_,_,rfl,rfl,_,rfl,?_⟩;refine w6 (λ d=>?_) (λ d=>?_)
    ·have d':=of_decide_eq_true d
     rw [b0g] at d';dsimp only;rw [if_pos d'];refine ⟨_,rfl,_,rfl,(by show 2<=sizeLine; decide),λ p hp=>?_⟩;have s2:=Same.new hp (.tup [u,V.int (j:Int)]);exact ⟨_,_,_,_,rfl,e6.trans s2,p,u,rfl,upd_same,hu.same s2,hA⟩
    ·have d':=of_decide_eq_false (eW.mpr d)
     rw [b0g] at d';dsimp only;rw [if_neg d'];exact ⟨_,_,_,_,rfl,e6,ab,ub,rfl,hab,hub,hAq⟩
  ·refine ⟨_,_,_,_,rfl,e4,?_⟩
   rw [ej];unfold a4V;rw [if_neg c];exact hb3
 ·rintro σ H1 ⟨bv,o4,o5,o6,rfl,e1,hb⟩
  rw [xl] at hb;exact ⟨_,rfl,q i o hi ho bv H1 e1 hb⟩
theorem Cal.cmpS {fa:aA} {da:aJ} (C:Cal P w K mg base n "compared" ["one","other"] (a2h K) fa da):Cal P w K mg base n "compared" ["one","other"] (a7p K) fa da:=⟨b1U C.ok,C.b,C.k,C.m⟩
theorem b2X {oN fa fb:aA} {da db:aJ} (F:Fun K "least_times" "least_times" O4 f fd) (T:x8 mg) (N:a6b K mg oN) (Cl:Cal P w K mg base n "lowest" ["top","bottom"] a2K fa da) (Cc:Cal P w K mg base n "compared" ["one","other"] (a2h K) fb db):FnOk P w K mg base E1 (n+1) f fd ["takes","others"] (b1X K):=b4D F T N Cl Cc.cmpS
theorem b3l {CN fa fb fc fe:aA} {da db dc de:aJ} (F:Fun K "share_alone" "share_alone" O3 f fd) (T:x8 mg) (Ch:L9 P w K mg base n "house_of" ["book","number"] (V0 K CN) fa da) (Cg:Cal P w K mg base n "gives_no_less" ["house","other"] (a6T K) fb db)
  (Cl:Cal P w K mg base n "least_times" ["takes","others"] (b1X K) fc dc) (Cc:Cal P w K mg base n "compared" ["one","other"] (a2h K) fe de):FnOk P w K mg base (Q7 P w) (n+1) f fd ["book","number"] (b2L K CN):=b5j F T Ch Cg Cl Cc.cmpS
end
end Rim
namespace L2
open PySem PySem.W
theorem a0z {K:eU} {C:aA} {B:List aC} {nid:String} (q:excIn K C B nid=true):∃ nm qn N bs bm hdct sn sub ab col dd k0 k1 k2 k3 k5,K.lookup C=some (excClassObj nm qn C N bs bm hdct sn sub ab col dd k0 k1 k2 k3 k5 nid)/\nsOkIn K N=true/\nsIn K N "__init__"=some none/\tailIn K B bm=true:=by
 unfold excIn at q
 split at q
 ·rename_i e1 e2 e3 lk
  split at q
  ·rename_i C' bm w0 w1 w2 w3 nn w5 em es
   simp only [fV,beq_iff_eq,Bool.not_eq_true'] at q;obtain ⟨⟨⟨⟨⟨u1,u2⟩,u3⟩,u4⟩,u5⟩,u6⟩:=q
   cases u1
   cases u2;obtain ⟨n1,n2,n3,n4,n5,n6,n7,n8,n9,n10,n11⟩:=e2;obtain ⟨ls⟩:=e3
   replace em:n3=_:=em
   replace u3:n11=false:=u3
   replace es:ls=_:=es
   subst em u3 es;exact ⟨n1,n5,n4,n2,bm,n6,n7,n8,n9,n10,e1,w0,w1,w2,w3,w5,lk,u5,u6,u4⟩
  ·cases q
 ·cases q
def FunI (K:eU) (x qual:Str) (st:aO) (f:aA) (cd:aC):Prop:=∃ oc od kV dc pm an ct sl,K.lookup f=some ⟨oc,od,.func (jN x qual (G5 st) (w4 st) (j4 st) .none kV dc pm an cd ct),sl⟩/\codeIn K cd qual=true/\keepIn K (.ref f)=true
theorem fun_in {K:eU} {x qual:Str} {st:aO} {f:aA} {cd oc kV dc pm ct:aC} {od an:Option aA} {sl:Array (Option aC)} (l:K.lookup f=some ⟨oc,od,.func (jN x qual (G5 st) (w4 st) (j4 st) .none kV dc pm an cd ct),sl⟩) (c:codeIn K cd qual=true) (k:keepIn K (.ref f)=true):FunI K x qual st f cd:=⟨_,_,_,_,_,_,_,_,l,c,k⟩
theorem FunI.fn {K:eU} {x qual:Str} {st:aO} {f:aA} {cd:aC} (h:FunI K x qual st f cd):∃ fd,Fun K x qual st f fd/\fd.code=cd/\keepIn K (.ref f)=true:=by
 obtain ⟨_,_,_,_,_,_,_,_,l,c,k⟩:=h;exact ⟨_,a9g l c k,rfl,k⟩
theorem Fun.b1 {K:eU} {x qual:Str} {st:aO} {f:aA} {fd:aJ} {p0:Str} (F:Fun K x qual st f fd) (h:∀ (kV doc pm:aC) (an:Option aA) (cdv ct v0:aC),bindArgs (jN x qual (G5 st) (w4 st) (j4 st) .none kV doc pm an cdv ct) ⟨[v0],[]⟩=pure [(p0,v0)]):Binds K fd [p0] [] :=
 F.binds λ a b c d e g us hl=>match us,hl with | [v0],_=>h a b c d e g v0
theorem Fun.b2 {K:eU} {x qual:Str} {st:aO} {f:aA} {fd:aJ} {p0 p1:Str} (F:Fun K x qual st f fd) (h:∀ (kV doc pm:aC) (an:Option aA) (cdv ct v0 v1:aC),bindArgs (jN x qual (G5 st) (w4 st) (j4 st) .none kV doc pm an cdv ct) ⟨[v0,v1],[]⟩=pure [(p0,v0),(p1,v1)]):Binds K fd [p0,p1] [] :=
 F.binds λ a b c d e g us hl=>match us,hl with | [v0,v1],_=>h a b c d e g v0 v1
theorem Fun.b3 {K:eU} {x qual:Str} {st:aO} {f:aA} {fd:aJ} {p0 p1 p2:Str} (F:Fun K x qual st f fd) (h:∀ (kV doc pm:aC) (an:Option aA) (cdv ct v0 v1 v2:aC),bindArgs (jN x qual (G5 st) (w4 st) (j4 st) .none kV doc pm an cdv ct) ⟨[v0,v1,v2],[]⟩=pure [(p0,v0),(p1,v1),(p2,v2)]):Binds K fd [p0,p1,p2] [] :=
 F.binds λ a b c d e g us hl=>match us,hl with | [v0,v1,v2],_=>h a b c d e g v0 v1 v2
theorem Fun.b4 {K:eU} {x qual:Str} {st:aO} {f:aA} {fd:aJ} {p0 p1 p2 p3:Str} (F:Fun K x qual st f fd) (h:∀ (kV doc pm:aC) (an:Option aA) (cdv ct v0 v1 v2 v3:aC),bindArgs (jN x qual (G5 st) (w4 st) (j4 st) .none kV doc pm an cdv ct) ⟨[v0,v1,v2,v3],[]⟩=pure [(p0,v0),(p1,v1),(p2,v2),(p3,v3)]):Binds K fd [p0,p1,p2,p3] [] :=
 F.binds λ a b c d e g us hl=>match us,hl with | [v0,v1,v2,v3],_=>h a b c d e g v0 v1 v2 v3
theorem Fun.b5 {K:eU} {x qual:Str} {st:aO} {f:aA} {fd:aJ} {p0 p1 p2 p3 p4:Str} (F:Fun K x qual st f fd) (h:∀ (kV doc pm:aC) (an:Option aA) (cdv ct v0 v1 v2 v3 v4:aC),bindArgs (jN x qual (G5 st) (w4 st) (j4 st) .none kV doc pm an cdv ct) ⟨[v0,v1,v2,v3,v4],[]⟩=pure [(p0,v0),(p1,v1),(p2,v2),(p3,v3),(p4,v4)]):Binds K fd [p0,p1,p2,p3,p4] [] :=
 F.binds λ a b c d e g us hl=>match us,hl with | [v0,v1,v2,v3,v4],_=>h a b c d e g v0 v1 v2 v3 v4
end L2
namespace Rim
open PySem L2 Fr
structure b3s (K:aE) (mg:Str->Option aC) (cE cB cH cR cT cM cL:aA):Prop where
 mE:mg "RimError"=some (.ref cE)
 mB:mg "NoBook"=some (.ref cB)
 mH:mg "NoHouse"=some (.ref cH)
 mR:mg "NoRow"=some (.ref cR)
 mT:mg "NoText"=some (.ref cT)
 mM:mg "TooMany"=some (.ref cM)
 mL:mg "NothingLeft"=some (.ref cL)
 kE:S4 K cE
structure a4v (K:aE) (c cE cB cH cR cT cM cL:aA) (b1 b2 b3 b4 b5 b6:Bool):Prop where
 k:S4 K c
 sub:dM K c (.ref cE)=some true
 i1:bV K (.ref c) (.ref cB)=some b1
 i2:bV K (.ref c) (.ref cH)=some b2
 i3:bV K (.ref c) (.ref cR)=some b3
 i4:bV K (.ref c) (.ref cT)=some b4
 i5:bV K (.ref c) (.ref cM)=some b5
 i6:bV K (.ref c) (.ref cL)=some b6
 v:bV K (.ref c) (.type "ValueError")=some true
abbrev b0S (b1 b2 b3 b4 b5 b6:Bool):List V:=[.bl b1,.bl b2,.bl b3,.bl b4,.bl b5,.bl b6,.bl true]
section
variable {P:aL} {w:aI} {K:aE} {mg:Str->Option aC} {base:aG} {f g:aA} {fd gd:aJ} {n:Nat}
def a8t (K:aE) (cE cB cH cR cT cM cL:aA):Sp:=λ vs H Q _=>∃ (ea c:aA) (b1 b2 b3 b4 b5 b6:Bool),vs=[.ref ea]/\H ea=some (a8c ea c)/\a4v K c cE cB cH cR cT cM cL b1 b2 b3 b4 b5 b6/\∀ (r:aA) (H':Hp),Same H H'->H' r=some (.lst (b0S b1 b2 b3 b4 b5 b6))->Q (.ref r) H'
theorem scKin:m6 ["e","kin"] ["e"] (j4 V3):=⟨rfl,rfl,rfl,by decide +kernel,rfl,by decide +kernel,by decide +kernel⟩
theorem b1C:bootBuiltins "ValueError"=some (.type "ValueError"):=by decide +kernel
theorem b1T {cE cB cH cR cT cM cL:aA} (F:Fun K "_law_a_kin" "_law_a_kin" V3 f fd) (T:x8 mg) (R:b3s K mg cE cB cH cR cT cM cL):FnU P w K mg base (n+1) f fd ["e"] (a8t K cE cB cH cR cT cM cL):=by
 refine F.okU scKin (λ vs H Q E h=>?_) (λ cdv A outer s H vs Q E hr h=>?_)
 ·obtain ⟨ea,c,b1,b2,b3,b4,b5,b6,rfl,_⟩:=h
  rfl
 obtain ⟨ea,c,b1,b2,b3,b4,b5,b6,rfl,he,M,q⟩:=h;refine ⟨_,j0 (o7 (i:=1) scKin.nd rfl (aM rfl) (v7 (d0 (j8 D9 rfl T.isi fZ (d0 (pv 0) (d0 (E6 (v:=.ref cB) rfl R.mB rfl) h8)))
   (d0 (j8 D9 rfl T.isi fZ (d0 (pv 0) (d0 (E6 (v:=.ref cH) rfl R.mH rfl) h8)))
   (d0 (j8 D9 rfl T.isi fZ (d0 (pv 0) (d0 (E6 (v:=.ref cR) rfl R.mR rfl) h8)))
   (d0 (j8 D9 rfl T.isi fZ (d0 (pv 0) (d0 (E6 (v:=.ref cT) rfl R.mT rfl) h8))) h8))))))
  (j5 (o8 (j7 B8 (pv 1) (v7 (d0 (j8 D9 rfl T.isi fZ (d0 (pv 0) (d0 (E6 (v:=.ref cM) rfl R.mM rfl) h8)))
   (d0 (j8 D9 rfl T.isi fZ (d0 (pv 0) (d0 (E6 (v:=.ref cL) rfl R.mL rfl) h8)))
   (d0 (j8 D9 rfl T.isi fZ (d0 (pv 0) (d0 (a0R (v:=.ty "ValueError") rfl T.ve b1C rfl) h8))) h8))))))),?_⟩
 refine ⟨_,rfl,ea,c,_,b1,rfl,he,M.k,λ u ru=>by cases ru; exact M.i1,_,rfl,ea,c,_,b2,rfl,he,M.k,λ u ru=>by cases ru; exact M.i2,_,rfl,ea,c,_,b3,rfl,he,M.k,λ u ru=>by cases ru; exact M.i3,
  _,rfl,ea,c,_,b4,rfl,he,M.k,λ u ru=>by cases ru; exact M.i4,(by show 4<=sizeLine; decide),λ l1 hl1=>?_⟩
 have s1:=Same.new hl1 (.lst [V.bl b1,V.bl b2,V.bl b3,V.bl b4]);have he1:=s1 _ _ he;refine ⟨_,rfl,_,rfl,ea,c,_,b5,rfl,he1,M.k,λ u ru=>by cases ru; exact M.i5,_,rfl,ea,c,_,b6,rfl,he1,M.k,λ u ru=>by cases ru; exact M.i6,_,rfl,ea,c,_,true,rfl,he1,M.k,λ u ru=>by cases ru; exact M.v,(by show 3<=sizeLine; decide),λ l2 hl2=>?_⟩;have s2:=Same.new hl2 (.lst [V.bl b5,V.bl b6,V.bl true]);refine ⟨l1,l2,_,_,rfl,rfl,s2 _ _ upd_same,upd_same,(by show 7<=sizeLine; decide),λ l3 hl3=>?_⟩;exact q l3 _ (s1.trans (s2.trans (Same.new hl3 _))) upd_same
abbrev b5l (x:Str):List V:=b0S (decide (V.str "NoBook"=V.str x)) (decide (V.str "NoHouse"=V.str x)) (decide (V.str "NoRow"=V.str x)) (decide (V.str "NoText"=V.str x)) (decide (V.str "TooMany"=V.str x)) (decide (V.str "NothingLeft"=V.str x))
def b0w:Sp:=λ vs H Q _=>∃ x:Str,vs=[.str x]/\∀ (r:aA) (H':Hp),Same H H'->H' r=some (.lst (b5l x))->Q (.ref r) H'
theorem scDue:m6 ["name","names"] ["name"] (j4 R8):=⟨rfl,rfl,rfl,by decide +kernel,rfl,by decide +kernel,by decide +kernel⟩
theorem b4S:(["one","name"]:List Str).Nodup:=by decide +kernel
theorem b1a (F:Fun K "_law_due_kin" "_law_due_kin" R8 f fd) (T:x8 mg):FnOk P w K mg base E1 (n+1) f fd ["name"] b0w:=by
 refine F.ok scDue (λ vs H Q E h=>?_) (λ cdv A outer s H vs Q E hr h=>?_)
 ·obtain ⟨x,rfl,_⟩:=h
  rfl
 obtain ⟨nm,rfl,q⟩:=h;refine ⟨_,j0 (o7 (i:=1) scDue.nd rfl (aM rfl) (v7 (d0 C5 (d0 C5 (d0 C5 (d0 C5 (d0 C5 (d0 C5 h8))))))))
  (j5 (o8 (j7 B8 (R5 ["one"] [0] rfl (J7 (pv 1)) (λ _ _ _ _=>m9 (i:=0) b4S rfl (aM rfl)) (λ _ _ _ _=>M7 K8 (pv 0) (pv 1) (r8 _))) (v7 (d0 a1E h8))))),?_⟩
 refine ⟨(by show 6<=sizeLine; decide),λ l1 hl1=>?_⟩;have s1:=Same.new hl1 (.lst [.str "NoBook",.str "NoHouse",.str "NoRow",.str "NoText",.str "TooMany",.str "NothingLeft"]);refine ⟨_,rfl,l1,rfl,⟨_,SqL.of upd_same⟩,λ p hp=>?_⟩;refine T8 (D8 (SqL.of upd_same)) hp (by decide) (λ x=>.bl (decide (x=.str nm))) (λ i x H' N hx e hN=>?_) ?_
 ·have hy:∃ y,x=.str y:=by
   have:=bN hx;simp only [bD,bX,or_false] at this;rcases this with rfl | rfl | rfl | rfl | rfl | rfl <;> exact ⟨_,rfl⟩
  obtain ⟨y,rfl⟩:=hy;exact ⟨Wk.set (by decide),_,rfl,_,rfl,rfl,hN⟩
 ·have s2:=Same.new hp (.lst (qZ (λ x=>V.bl (decide (x=V.str nm))) [.str "NoBook",.str "NoHouse",.str "NoRow",.str "NoText",.str "TooMany",.str "NothingLeft"]))
  refine ⟨(by show 1<=sizeLine; decide),λ l2 hl2=>?_⟩;have s3:=Same.new hl2 (.lst [V.bl true]);refine ⟨p,l2,_,_,rfl,rfl,s3 _ _ upd_same,upd_same,(by show 7<=sizeLine; decide),λ l3 hl3=>?_⟩;exact q l3 _ (s1.trans (s2.trans (s3.trans (Same.new hl3 _)))) (by rw [upd_same]; congr 2)
structure b6A (P:aL) (w:aI) (K:aE) (mg:Str->Option aC) (base:aG) (n:Nat) (x:Str) (ps:List Str) (sp:Sp) (fa:aA) (d:aJ):Prop where
 ok:FnU P w K mg base n fa d ps sp
 b:Binds K d ps []
 k:dL K (.ref fa)=true
 m:mg x=some (.ref fa)
def a6x (b1 b2 b3 b4 b5 b6:Bool):eL:=.list [.bool b1,.bool b2,.bool b3,.bool b4,.bool b5,.bool b6,.bool true]
theorem a6G {K:aE} {H:Hp} {a:aA} {b1 b2 b3 b4 b5 b6:Bool} (h:H a=some (.lst (b0S b1 b2 b3 b4 b5 b6))):Dp K H (.ref a) (a6x b1 b2 b3 b4 b5 b6) :=
 .lst (SqL.of h) (.cons (.bl _) (.cons (.bl _) (.cons (.bl _) (.cons (.bl _) (.cons (.bl _) (.cons (.bl _) (.cons (.bl _) .nil)))))))
end
end Rim
namespace L2
open PySem PySem.Spec PyProof.Rows
section
variable {M:iW} {A:aY} {E:aC->aD->Prop} {s:aD} {B:aG} {l outer:List Env} {env:Env} {L e:aA} {cls a0 fl:aC} {Q:Unit->aD->Prop}
theorem UpToSlots.refl (h:aG):h.UpToSlots h:=λ _ o e _=>⟨o.slots,e⟩
theorem a0l {h:aG} {T:aA} {oT:Obj} {ts:Array aC} {g:Obj->Obj} (hT:h.get? T=some oT) (hd:oT.data=.fields ts) {b:aA} {o:Obj} (q:h.get? b=some o) (hn:∀ vs,o.data≠.fields vs):(h.update T g).get? b=some o:=by
 have:T≠b:=λ z=>by
  rw [<- z,hT] at q
  cases q;exact hn ts hd
 rw [jY _ _ this]; exact q
theorem a2X {h:aG} {T:aA} {g:Obj->Obj} (k:B.StaysIn h) (hn:B.get? T=none):B.StaysIn (h.update T g):=λ b o q=>by
 have:T≠b:=λ z=>by rw [<- z,hn] at q; cases q
 rw [jY _ _ this]; exact k b o q
theorem a2b (fr:Option aA) (k1:B.StaysIn s.heap) (k2:s.heap.FunFrames B l) (k3:s.heap.TracedAtW B e cls a0 fl)
  (h:∀ h',B.StaysIn h'->h'.FunFrames B l->h'.TracedAtW B e cls a0 (fr.elim gT λ f=>rawInt f)->s.heap.UpToSlots h'->Q () { s with heap:=h' }):wpAny M A (setFlight (.ref e) fr) Q E s:=by
 obtain ⟨oe,vs,T,oT,ts,he,hc,hd,h1,hn,ne,hT,hdT,h3⟩:=k3;have sz:3<ts.size:=(oO.mp h3).1;unfold setFlight;refine aF (cA he hd h1 ?_);rw [if_pos (by simp)];refine nN hT hdT sz (h _ (a2X k1 hn) (k2.of_keeps λ b o q z=>⟨o,a0l hT hdT q z,rfl⟩) ?_ λ b o q z=>⟨o.slots,a0l hT hdT q z⟩);refine ⟨oe,vs,T,_,_,?_,hc,hd,h1,hn,ne,pJ _ hT (uL (nQ hdT _)),nQ hdT _,by simp [sz]⟩;rw [jY _ _ ne]; exact he
theorem b0n (hfr:A.frames=some (env::outer)) (hf:env.frame=some L) (k1:B.StaysIn s.heap) (kn:B.get? e=none) (k2:s.heap.FunFrames B (env::outer)) (k3:s.heap.TracedAtW B e cls a0 fl)
  (h:∀ h',Heap.HeldW B (env::outer) e cls a0 L h'->s.heap.UpToSlots h'->Q () { s with heap:=h' }):wpAny M A (noteFrame (.ref e) env) Q E s:=by
 by_cases ef:(fl==rawInt L)=true
 ·have ef':fl=rawInt L:=by
   simpa using ef
  subst ef';exact wpAny_noteFrame_againW hf k3 (h s.heap ⟨k1,kn,k2,k3⟩ (UpToSlots.refl _))
 obtain ⟨oe,vs,T,oT,ts,he,⟨hc,h0⟩,hd,h1,hn,ne,hT,hdT,h3⟩:=k3;subst hc;have sz:3<ts.size:=(oO.mp h3).1;unfold noteFrame;simp only [hf];refine aF (cA he hd h1 ?_);rw [if_pos (by simp)];refine aF (cA hT hdT h3 ?_);rw [if_neg ef];refine aF (nN hT hdT sz ?_);refine wpAny_entryW hfr (k2.of_keeps λ b o q z=>⟨o,a0l hT hdT q z,rfl⟩) hf (by rw [jY _ _ ne]; exact he) (a2X k1 hn) kn hd (oO.mp h1).1 h0 λ h' N=>?_;exact h h' ⟨N.1,kn,N.2.1,N.2.2.1⟩ λ b o q z=>N.2.2.2 b o (a0l hT hdT q z) z
theorem a7Q (hfr:A.frames=some (env::outer)) (hf:env.frame=some L) (k1:B.StaysIn s.heap) (kn:B.get? e=none) (k2:s.heap.FunFrames B (env::outer)) (k3:s.heap.TracedAtW B e cls a0 fl)
  (h:∀ h',B.FlyingW outer e cls a0 h'->s.heap.UpToSlots h'->Q () { s with heap:=h' }):wpAny M A (leaving env (.ref e)) Q E s:=by
 unfold leaving;refine aF (b0n hfr hf k1 kn k2 k3 λ h1 ⟨c1,c2,c3,c4⟩ u1=>?_);refine a2b (s:={ s with heap:=h1 }) none c1 c3 c4 λ h2 d1 d2 d3 u2=>h h2 ⟨d1,kn,d2.2.2,d3⟩ λ b o q z=>?_;obtain ⟨sl,q1⟩:=u1 b o q z;obtain ⟨sl2,q2⟩:=u2 b { o with slots:=sl } q1 z;exact ⟨sl2,q2⟩
theorem a5J {what:String} {cenv:Env} (k1:B.StaysIn s.heap) (k2:s.heap.FunFrames B l) (k3:s.heap.TracedAtW B e cls a0 fl)
  (h:∀ h' fl',B.StaysIn h'->h'.FunFrames B l->h'.TracedAtW B e cls a0 fl'->s.heap.UpToSlots h'->E (.ref e) { s with heap:=h' }):wpAny M A (wG (α:=aC) what (.ref e) cenv) (λ _ _=>False) E s:=by
 obtain ⟨oe,vs,T,oT,ts,he,hc,hd,h1,hn,ne,hT,hdT,h3⟩:=id k3;unfold wG;refine aF (cA he hd h1 ?_);rw [if_neg (by simp)];exact aF (a2b cenv.frame k1 k2 k3 λ h' d1 d2 d3 u=>wpAny_throw (h h' _ d1 d2 d3 u))
end
theorem a5U {prog:aL} {w:aI} {A:aY} {R:iG->aD->Prop} {s:aD} {elt target iter:aN} {scope:bS} {pos:Pos} {it acc:aC} {env:Env} (I:Nat->aD->Prop)
  (turn:∀ n s,I n s->wpAny (model prog w) A (pyNext it) (λ r s₁=>match r with
   | none=>R (.ok .next) s₁
   | some v=>wpAny (model prog w) A (letOwnedTupleGo target it v) (λ _ s₀=>wpAny (model prog w) A (assign target env v) (λ _ s₂ =>
     wpAny (model prog w) A (eval elt env) (λ x s₄ =>
       wpAny (model prog w) A (call (.builtin "list.append") [acc,x]) (λ _ s₅=>∃ m,m<n/\I m s₅) (λ _ _=>False) s₄) (notedBy (model prog w) A env λ x s'=>R (.error x) s') s₂) (λ _ _=>False) s₀) (λ _ _=>False) s₁) (λ _ _=>False) s)
  (n:Nat) (h:I n s) :
  codeAny (model prog w) A (.compLoop (.ListComp elt [⟨target,iter,[],0⟩] scope pos) 0 it acc env) R s:=by
 refine tN rfl I (λ n s hI=>?_) n h
 show wpAny _ A ((compTurn (.ListComp elt [⟨target,iter,[],0⟩] scope pos) 0 it acc env).onRaise (λ x=>do noteFrame x env; theTreesLotGoes x)) _ _ s
 refine wpAny_noted ?_;rw [tO];refine aF (gU (aF (cZ (turn n s hI) (λ r s₁ h₁=>?_) λ _ _ h'=>h'.elim)))
 cases r with
 | none=>exact aT h₁
 | some v =>
  refine aF (cZ h₁ (λ _ s₀ h₀=>?_) λ _ _ h'=>h'.elim);refine aF (cZ h₀ (λ _ s₂ h₂=>?_) λ _ _ h'=>h'.elim);refine aF (tM ?_);exact aF (aF (cZ h₂ (λ x s₄ h₄=>aF (cZ h₄ (λ _ s₅ h₅=>aT (aT ⟨rfl,h₅⟩)) λ _ _ h'=>h'.elim)) λ _ _ h'=>h'))
section
variable {X:Cx} {os:List Str} {fr:List Nat} {scope:bS} {elt tg iter:aN} {pos:Pos} {wi:TI} {g:TG} {te:TE} {E:XK}
structure a3y (X:Cx) (E:XK):Prop where
 st:X.stack=X.env::X.outer
 fr:X.env.frame=some X.env.locals
 ex:X.ex=[]
 xe:∀ e s',wpAny (model X.prog X.w) X.A (leaving X.env e) (λ _ s''=>Q7 X.prog X.w X.outer X.H₀ X.s₀ E e s'') (λ e' s''=>Q7 X.prog X.w X.outer X.H₀ X.s₀ E e' s'') s'->X.xe e s'
theorem a4f {pins:List (aA×Obj)} {σ:St} {H H':Hp} {s s':aD} {ea t D C:aA} {B:aG} {acc:aC} {use:Option (aC->Sem Unit)} {Q:aC->aD->Prop} {m0:Str->Option aC} (Lv:a3y X E) (I:Inv X pins σ H s) (hC:X.s₀.heap.objs.size<=C) (hCf:C ∉ frs X.stack) (hCH:H' C=none) (hCs:∃ o,s.heap.get? C=some o) (hN:s'.heap.Ns C m0)
  (F:Fly X.prog X.w X.stack H s ea t D B H' s') (hE:E (.ref D) none H') {cenv:Env} (hce:cenv.frame=X.env.frame) :
  notedBy (model X.prog X.w) X.A cenv (λ x s''=>compPost (model X.prog X.w) X.A X.xe use Q acc C (.error x) s'') (.ref ea) s':=by
 have hfr:X.A.frames=some (X.env::X.outer):=by rw [<- Lv.st]; exact I.ok.frames
 have Ff:=F.fly;rw [Lv.st] at Ff
 show wpAny _ _ (noteFrame (.ref ea) cenv) _ _ s'
 have en:noteFrame (.ref ea) cenv=noteFrame (.ref ea) X.env:=by
  unfold noteFrame PySem.frameOf;rw [hce]
 rw [en];refine uI hfr Lv.fr Ff λ h1 Hd1 u1=>?_;obtain ⟨c1,c2,c3,c4⟩:=Hd1;obtain ⟨oC,es,ep,gC,dC,kC,fC⟩:=hN;obtain ⟨slC,gC1⟩:=u1 C oC gC (λ vs z=>by rw [dC] at z; cases z);refine ⟨m0,⟨_,es,ep,gC1,dC,kC,fC⟩,λ h2 sb cenv2 _=>?_⟩;have toB2:∀ {b o},B.get? b=some o->b≠C->(eP B [C]).get? b=some o:=λ q z=>mO [C] q (by simpa using z);have ofB2:∀ {b o},(eP B [C]).get? b=some o->B.get? b=some o:=λ q=>oV [C] q;have noC:(eP B [C]).get? C=none:=rG [C] (by simp);have neC:∀ {b o},(eP B [C]).get? b=some o->b≠C:=λ q z=>by rw [z,noC] at q; cases q
 have kn:(eP B [C]).get? ea=none:=by
  cases q:(eP B [C]).get? ea with
  | none=>rfl
  | some o=>have:=ofB2 q; rw [c2] at this; cases this
 have h2of:∀ {b o},h1.get? b=some o->b≠C->h2.get? b=some o:=λ q z=>(sb.2 _ z).trans q;have mem1:∀ {b},b∈frs (X.env::X.outer)->b≠C:=λ hb z=>hCf (by rw [Lv.st,<- z]; exact hb);have k1:(eP B [C]).StaysIn h2:=λ b o q=>h2of (c1 b o (ofB2 q)) (neC q);have k2:h2.FunFrames (eP B [C]) (X.env::X.outer):=by
  have mv:∀ l:List Env,(∀ b∈frs l,b≠C)->h1.FunFrames B l->h2.FunFrames (eP B [C]) l:=by
   intro l
   induction l with
   | nil=>intro _ _; rw [wH]; trivial
   | cons e0 r ih =>
    intro hm hx;rw [wH] at hx ⊢;obtain ⟨x1,⟨L0,o0,y1,y2,y3,y4⟩,x3⟩:=hx;have hL:L0∈frs (e0::r):=iF.mpr ⟨e0,dU,y1⟩;refine ⟨x1,⟨L0,o0,y1,?_,h2of y3 (hm L0 hL),y4⟩,ih (λ b hb=>hm b ?_) x3⟩
    ·cases q:(eP B [C]).get? L0 with
     | none=>rfl
     | some o=>have:=ofB2 q; rw [y2] at this; cases this
    ·obtain ⟨e1,z1,z2⟩:=iF.mp hb
     exact iF.mpr ⟨e1,cQ _ z1,z2⟩
  exact mv _ (λ b hb=>mem1 hb) c3
 have eaC:ea≠C:=λ z=>by
  obtain ⟨oe,vs,T,oT,ts,he,hc,hd,_⟩:=Ff.2.2.2;rw [z,gC] at he; cases he;rw [dC] at hd; cases hd
 have k3:h2.TracedAtW (eP B [C]) ea (.ref D) (.ref t) (rawInt X.env.locals):=by
  obtain ⟨oe,vs,T,oT,ts,he,hc,hd,x1,hn,ne,hT,hdT,h3⟩:=c4;have TC:T≠C:=λ z=>by
   rw [z,gC1] at hT; cases hT;rw [show ({ oC with slots:=slC }:Obj).data=oC.data from rfl,dC] at hdT; cases hdT
  refine ⟨oe,vs,T,oT,ts,h2of he eaC,hc,hd,x1,?_,ne,h2of hT TC,hdT,h3⟩
  cases q:(eP B [C]).get? T with
  | none=>rfl
  | some o=>have:=ofB2 q; rw [hn] at this; cases this
 refine a5J k1 k2 k3 λ h3 fl' d1 d2 d3 u3=>Lv.xe _ _ ?_;refine a7Q hfr Lv.fr d1 kn d2 d3 λ h4 fl u4=>?_;have I':=F.inv I;have st:∀ b o,B.get? b=some o->b≠C->h4.get? b=some o:=λ b o q z=>fl.1 b o (toB2 q z);have s0C:∀ {b o0},X.s₀.heap.get? b=some o0->b≠C:=λ q z=>by
  have:=bC q;rw [z] at this;exact absurd this (wI.mpr hC)
 have bin:∀ b o,s'.heap.get? b=some o->(∃ o0,X.s₀.heap.get? b=some o0)->b ∉ frs X.outer->B.get? b=some o:=λ b o q ⟨o0,z⟩ hn=>by
  obtain ⟨o1,q1⟩:=I.base.there b o0 z (by rw [Lv.ex]; simp);exact F.inb b o q (.inl ⟨⟨o1,q1⟩,a0k I z hn⟩)
 have hHC:∀ {b u},H' b=some u->b≠C:=λ q z=>by rw [z,hCH] at q; cases q
 have un:=I'.base;rw [Lv.ex] at un;refine ⟨ea,t,D,eP B [C],H',rfl,⟨I'.os,F.bare,un.slots (λ b o q z hn=>st b o (bin b o q z hn) (s0C z.choose_spec)) (λ b hb o q=>?_),F.hok.slots (λ b u o e q=>st b o (F.inb b o q (.inr (by rw [e]; simp))) (hHC e)),fl,λ b o q z=>?_⟩,hE⟩
 ·have hb':b∈frs (X.env::X.outer):=by
   obtain ⟨e1,z1,z2⟩:=iF.mp hb;exact iF.mpr ⟨e1,cQ _ z1,z2⟩
  obtain ⟨_,o',ho',hd⟩:=Ff.2.2.1.mem hb';rw [q] at ho'; cases ho';obtain ⟨sl1,q1⟩:=u1 b o q hd;obtain ⟨sl3,q3⟩:=u3 b _ (h2of q1 (mem1 hb')) hd;obtain ⟨sl4,q4⟩:=u4 b _ q3 hd;exact ⟨sl4,q4⟩
 ·have:∃ o1,B.get? b=some o1/\b≠C:=by
   rcases z with ⟨⟨o0,z⟩,hn⟩ | z
   ·obtain ⟨o1,q1⟩:=I'.base.there b o0 z (by rw [Lv.ex]; simp)
    exact ⟨o1,bin b o1 q1 ⟨o0,z⟩ hn,s0C z⟩
   ·cases e:H' b with
    | none=>exact absurd e z
    | some u =>
     obtain ⟨o1,q1⟩:=(F.hok b u e).got;exact ⟨o1,F.inb b o1 q1 (.inr z),hHC e⟩
  obtain ⟨o1,b1,nc⟩:=this;have:=st b o1 b1 nc;rw [show h4.get? b=some o from q] at this
  cases this;exact toB2 b1 nc
theorem a7A {pins:List (aA×Obj)} {σ:St} {s2:aD} {D:aA->Hp->Prop} {itv:aC} {use:Option (aC->Sem Unit)} {QQ:aC->aD->Prop}
  (Lv:a3y X E) (hc:X.calm=true) (hg:∀ C fp s₀ H₀,PG (W3 X os fr scope C fp s₀ H₀) tg g) (he:∀ C fp s₀ H₀ xe,P6 (Q7 X.prog X.w) ((W3 X os fr scope C fp s₀ H₀).wish xe) E->PE ((W3 X os fr scope C fp s₀ H₀).wish xe) elt te)
  (hk:scope.kind=.function) (hok:a0n X.env.scope scope X.N fr=true)
  (h2:PIE X pins σ tg (λ J H1=>∀ p,H1 p=none->lcW os.length fr g te σ J H1 p (D p)) itv s2)
  (hRR:∀ p C s3 H3 s' H',Inv X pins σ H3 s3->s3.heap.objs.size=C->H' C=none->Inv X pins σ H' s'->(∃ m,s'.heap.Ns C m)->D p H'->compPost (model X.prog X.w) X.A X.xe use QQ (.ref p) C (.ok .next) s') :
  wpAny (model X.prog X.w) X.A (newList []) (λ acc s₃=>wpAny (model X.prog X.w) X.A (newFunctionEnv scope X.env.globals (clo X.env scope.names []) [] X.env.qual none .none (some X.env)) (λ cenv s₄ =>
   codeAny (model X.prog X.w) X.A (.compStart (.ListComp elt [⟨tg,iter,[],0⟩] scope pos) 0 itv acc { cenv with scope:=relabel scope X.env }) (compPost (model X.prog X.w) X.A X.xe use QQ acc cenv.locals) s₄) X.xe s₃) X.xe s2:=by
 obtain ⟨it,fp,tn,J,H2,e,I2,T,st2,f2,hR⟩:=h2;subst e;refine lE ?_;have fresh:H2 s2.heap.objs.size=none:=I2.fresh;obtain ⟨W,⟨m0,w0⟩,turn⟩:=hR s2.heap.objs.size fresh;have I3:Inv X pins σ (upd H2 s2.heap.objs.size (.lst [])) { s2 with heap:=s2.heap.push { cls:=.type "list",dict:=none,data:=.seq ([]:List aC).toArray } }:=I2.lnew (ys:=[]) (its:=[]) (t':=s2.toks) .nil (dA _);have obj2:=T.obj _ _ st2;have ne2:∀ b∈fp,b≠s2.heap.objs.size:=λ b hb=>by
  obtain ⟨o,e,_⟩:=obj2 b hb;exact cF (bC e)
 have st3:tn 0 (s2.heap.push { cls:=.type "list",dict:=none,data:=.seq ([]:List aC).toArray }):=T.keep _ _ _ st2 λ b hb o e=>bE _ e;have f3:∀ b∈fp,T3 X pins (upd H2 s2.heap.objs.size (.lst [])) b:=λ b hb=>⟨by rw [i7 (ne2 b hb)]; exact (f2 b hb).1,(f2 b hb).2⟩;generalize hs3:({ s2 with heap:=s2.heap.push { cls:=.type "list",dict:=none,data:=.seq ([]:List aC).toArray } }:aD)=s3 at I3 ⊢;have st3':tn 0 s3.heap:=by rw [<- hs3]; exact st3
 generalize s2.heap.objs.size=p at *;refine a0O ?_;have hns:(pushCells (s3.heap.push { cls:=.type "dict",data:=.dict #[] }) scope.names).Ns s3.heap.objs.size λ _=>none:=(tQ s3.heap (.type "dict")).keeps (nD _ _);have hkeep:∀ b o,s3.heap.get? b=some o->(pushCells (s3.heap.push { cls:=.type "dict",data:=.dict #[] }) scope.names).get? b=some o:=λ b o e=>nD _ _ b o (bE _ e);have hcl:=tR scope.names (s3.heap.push { cls:=.type "dict",data:=.dict #[] }) (s3.heap.objs.size+1) [] ⟨λ _ _ hm=>(nomatch hm),tS⟩ (by rw [eQ]; exact aU _);rw [eQ] at hcl;generalize pushCells (s3.heap.push { cls:=.type "dict",data:=.dict #[] }) scope.names=h₁ at hns hkeep hcl ⊢;have obj3:∀ b∈fp,∃ o,s3.heap.get? b=some o:=λ b hb=>by
  obtain ⟨o,e,_⟩:=T.obj _ _ st3' b hb;exact ⟨o,e⟩
 have J0:=I3.block (os:=os) (t':=s3.toks) hk hok f3 obj3 (h₁:=h₁) hns hkeep hcl;have ok0:=J0.ok;have fpY:∀ {H':Hp},(∀ b∈fp,H' b=none)->∀ b∈fp,T3 (W3 X os fr scope s3.heap.objs.size fp s3 (upd H2 p (.lst []))) [] H' b:=λ hn b hb =>
  ⟨hn b hb,(ok0.exf b hb).1,ok0.exfs b hb,.inl hb,(ok0.exf b hb).2,λ q hq=>nomatch hq⟩
 have st4:tn 0 h₁:=T.keep _ _ _ st3' λ b hb o e=>hkeep b o e;have fr0:∀ b∈fp,upd H2 p (.lst []) b=none:=λ b hb=>(f3 b hb).1;have hC0:X.s₀.heap.objs.size<=s3.heap.objs.size:=I3.sz;have pass:P6 (Q7 X.prog X.w) ((W3 X os fr scope s3.heap.objs.size fp s3 (upd H2 p (.lst []))).wish (notedBy (model X.prog X.w) X.A (compEnvC scope (P5 X.env scope s3.heap.objs.size) s3.heap.objs.size X.env) λ x s''=>compPost (model X.prog X.w) X.A X.xe use QQ (.ref p) s3.heap.objs.size (.error x) s'')) E:=by
  intro pins' σ' H s e s' J' h;obtain ⟨ea,t,D',B,H',rfl,Fl,hE⟩:=h;have J:=J'.unwish;have JF:Inv (W3 X os fr scope s3.heap.objs.size fp s3 (upd H2 p (.lst []))) pins' σ' H' s':=Fl.inv J;obtain ⟨mC,nC,_⟩:=JF.loc;obtain ⟨mC0,nC0,_⟩:=J.loc;have J0':Inv (W3 X os fr scope s3.heap.objs.size fp s3 (upd H2 p (.lst []))) [] σ' H s:=⟨J.ok,J.os,J.bare,J.base,J.loc,J.cell,J.free,J.freeC,λ q hq=>(nomatch hq),J.hok,J.len⟩;obtain ⟨oC,_,_,gC,_⟩:=nC0;exact a4f Lv (I3.unblock f3 J0') hC0 (λ hm=>by
   obtain ⟨_,o,ho,_⟩:=I3.stack.mem hm;exact cN _ (bC ho)) JF.free ⟨oC,gC⟩ nC Fl hE rfl
 have loop:∀ s4:aD,s4={ s3 with heap:=h₁,toks:=s3.toks } →
   codeAny (model X.prog X.w) X.A (.compLoop (.ListComp elt [⟨tg,iter,[],0⟩] scope pos) 0 (.ref it) (.ref p) (compEnvC scope (P5 X.env scope s3.heap.objs.size) s3.heap.objs.size X.env)) (compPost (model X.prog X.w) X.A X.xe use QQ (.ref p) s3.heap.objs.size) s4:=by
  rintro s4 rfl;refine a5U (λ n s'=>∃ i ys H',Inv (W3 X os fr scope s3.heap.objs.size fp s3 (upd H2 p (.lst []))) [] (blkσ os.length fr σ) H' s'/\tn i s'.heap/\(∀ b∈fp,H' b=none)/\W i n ys H') ?_ m0 ⟨0,[],_,J0,st4,fr0,w0⟩;rintro n s5 ⟨i,ys,H5,I5,st5,fr5,w5⟩;rcases turn i n ys H5 w5 with ⟨stop',qd⟩ | ⟨go,step⟩
  ·refine A7 (T.done (W3 X os fr scope s3.heap.objs.size fp s3 (upd H2 p (.lst []))) rfl rfl rfl hc i [] s5 _ H5 (λ _ _=>False) I5 (fpY fr5) st5 stop') λ r s6 ⟨hr,I6⟩=>?_
   subst hr;exact hRR p _ s3 _ s6 H5 I3 rfl I6.free (I3.unblock f3 I6) (let ⟨m,hm,_⟩:=I6.loc; ⟨m,hm⟩) qd
  ·refine A7 (T.item (W3 X os fr scope s3.heap.objs.size fp s3 (upd H2 p (.lst []))) rfl rfl rfl hc i [] s5 _ H5 (λ _ _=>False) I5 (fpY fr5) st5 go) λ r s6 ⟨u,hr,h6⟩=>?_
   subst hr;refine A7 h6 λ _ s7 ⟨x,H7,I7,r7,y7,st7,fr7⟩=>?_;have I7':=I7.pinned (fpY fr7) (T.obj _ _ st7);refine A7 (hg _ _ _ _ _ s7 _ H7 x u _ I7' r7 (step x H7 y7)) λ _ s8 ⟨σ8,H8,I8,wk8,q8⟩=>?_;have again:∀ {H':Hp} {s':aD} {zs:List V} {m':Nat},Inv (W3 X os fr scope s3.heap.objs.size fp s3 (upd H2 p (.lst []))) ([]++a1A fp s7.heap) σ8 H' s'->m'<n->W (i+1) m' zs H' →
     ∃ m,m<n/\∃ i ys H',Inv (W3 X os fr scope s3.heap.objs.size fp s3 (upd H2 p (.lst []))) [] (blkσ os.length fr σ) H' s'/\tn i s'.heap/\(∀ b∈fp,H' b=none)/\W i m ys H':=λ {H' s' zs m'} J' hm' w'=>by
    refine ⟨m',hm',i+1,zs,H',(J'.weak wk8.1.symm λ i v e=>wk8.2 i v e).unpinned,T.keep _ _ _ st7 λ b hb o e=>(J'.pin (b,o) (dJ _ (dJ _ (N6 hb e)))).1,λ b hb=>?_,w'⟩;obtain ⟨o,e,d⟩:=T.obj _ _ st7 b hb;exact (J'.pin (b,o) (dJ _ (dJ _ (N6 hb e)))).2.1
   refine cZ (he _ _ _ _ _ pass _ s8 σ8 H8 _ (I8.wish _) q8) (λ y s10 ⟨v,H10,I10',r10,hp10,hz10,m',hm',w10⟩=>?_) λ _ _ z=>z;have I10:=I10'.unwish;refine A7 (N4 (X:=W3 X os fr scope s3.heap.objs.size fp s3 (upd H2 p (.lst []))) _ s10 σ8 H10 (.ref p) [v] (.ref p) [y] (λ _ H'=>H'=upd H10 p (.lst (ys++[v]))) I10 rfl (.cons r10 .nil) ⟨p,ys,v,rfl,rfl,hp10,hz10,rfl⟩) λ _ s11 ⟨_,H11,I11,_,e11⟩=>?_;subst e11;exact again I11 hm' w10
 exact tT (loop _ rfl) (cZ (T.self _ 0 _ _ _ st4 (loop _ rfl)) (λ _ _ z=>z) λ _ _ z=>z)
theorem b3r {i:Nat} {x:Str} {pos' spos:Pos} (os:List Str) (fr:List Nat) (Lv:a3y X E) (hN:X.N.Nodup) (hi':X.N[i]?=some x) (hx:X.env.scope.names.lookup x=some .local)
  (hc:X.calm=true) (hi:PI X tg iter wi) (hg:∀ C fp s₀ H₀,PG (W3 X os fr scope C fp s₀ H₀) tg g) (he:∀ C fp s₀ H₀ xe,P6 (Q7 X.prog X.w) ((W3 X os fr scope C fp s₀ H₀).wish xe) E->PE ((W3 X os fr scope C fp s₀ H₀).wish xe) elt te)
  (hsw:swapsWith (.ListComp elt [⟨tg,iter,[],0⟩] scope pos) (some (.Name x pos')) spos.line X.env=pure true:=by rfl)
  (hk:scope.kind=.function:=by rfl) (hok:a0n X.env.scope scope X.N fr=true:=by rfl) (hs:∀ x,foldedSetIterable iter X.env x=pure x:=by intro _; rfl) :
  PS X (.Assign [.Name x pos'] (.ListComp elt [⟨tg,iter,[],0⟩] scope pos) spos) (a4D (tLC os.length fr wi g te) (K9 i)):=by
 intro pins s σ H D I h;unfold a4D tLC at h;rw [pU _ _ _ _ hsw];refine aF (gU (aF ?_))
 show wpAny _ X.A (do let _ <- comprehension (.ListComp elt [⟨tg,iter,[],0⟩] scope pos) scope X.env _ (newList []) false (eval iter X.env) (some (assign (.Name x pos') X.env))) _ _ s
 refine aF (cZ (lO (use:=some (assign (.Name x pos') X.env)) (Q:=λ _ s'=>SP X pins D .next s') rfl hs (D5 (S7 I hok)) hk (λ x hx hl=>by have:=(O8 hok x hx).1; rw [hl] at this; exact this)
  (A7 (hi pins s σ H _ I h) λ v s1 h1=>A7 h1 λ itv s2 h2=>?_)) (λ _ s' hq=>aT (aT hq)) λ _ _ e=>e)
 refine a7A (os:=os) (D:=λ p H'=>D.nx (σ.set i (some (.ref p))) H') (use:=some (assign (.Name x pos') X.env)) (QQ:=λ _ s'=>SP X pins D .next s') Lv hc hg he hk hok h2 ?_;intro p C s3 H3 s' H' I3 eC hn I' ⟨m,hm⟩ q
 show wpAny _ X.A (assign (.Name x pos') X.env (.ref p)) _ _ _
 refine mQ (a0c (v:=.ref p) I' hN hi' (.inl hx) rfl (λ s'' I'' ⟨a,hsa,ha⟩=>?_) (.inr hx));have hCa:C≠a:=by
  rcases ha with e | e
  ·rw [e]; exact eH (by rw [<- eC]; exact I3.lt)
  ·obtain ⟨v,z⟩:=I3.cell x a e
   exact eH (by rw [<- eC]; exact z.lt)
 exact ⟨m,hm.sameBut hsa hCa,λ h' hs'=>⟨_,H',I3.letgo I'' hn (by omega) hs',q⟩⟩
theorem b0G {P:aL} {w:aI} {K:aE} {mg:Str->Option aC} {base:aG} {N:List Str} {qual:Str} {scope:bS} {f:aA} {cd:aC} {A:aY} {outer:List Env} {s₀:aD} {H₀:Hp} {E:XK}:a3y (M0 (Q7 P w) P w K mg base N qual scope f cd A outer s₀ H₀ E) E:=⟨rfl,rfl,rfl,λ _ _ h=>h⟩
end
end L2
namespace Rim
open PySem L2 Fr
abbrev a9l (K:aE) (H:Hp):List V->List (List Int)->Prop:=cW λ v row=>∃ a,v=.ref a/\SqT K H a (row.map V.int)
theorem a9R (K:aE) {X:Cx} {tg l:aN} {tl:TE} (h:X.K=K) (hl:PE X l tl):PI X tg l (b2u K tl):=by subst h; exact J7 hl
def a2z (rows:List (List Int)) (k:Nat):List Int:=(aR k).map λ i=>(col rows i).sum
section
variable {P:aL} {w:aI} {K:aE} {mg:Str->Option aC} {base:aG} {f:aA} {fd:aJ} {n:Nat} {CN:aA}
def a8H (K:aE):Sp:=λ vs H Q _=>∃ (rl:aA) (rvs:List V) (rows:List (List Int)) (k:Nat),vs=[.ref rl]/\SqL K H rl rvs/\a9l K H rvs rows/\1<=rows.length/\rows.length<=100/\k<=100/\(∀ r∈rows,r.length=k) ∧
 ∀ (r:aA) (H':Hp),Same H H'->H' r=some (.tup ((a2z rows k).map V.int))->Q (.ref r) H'
theorem b4d:m6 ["rows"] ["rows"] (j4 a0D):=⟨rfl,rfl,rfl,by decide +kernel,rfl,by decide +kernel,by decide +kernel⟩
theorem b4L:(["kind","rows"]:List Str).Nodup:=by decide +kernel
theorem b4T:(["row","kind"]:List Str).Nodup:=by decide +kernel
theorem b3b (F:Fun K "together" "together" a0D f fd) (T:x8 mg):FnOk P w K mg base E1 (n+1) f fd ["rows"] (a8H K):=by
 refine F.ok b4d (λ vs H Q E h=>?_) (λ cdv A outer s H vs Q E hr h=>?_)
 ·obtain ⟨rl,rvs,rows,k,rfl,_⟩:=h
  rfl
 obtain ⟨rl,rvs,rows,k,rfl,hR,hRw,h1,h100,hk,hrow,q⟩:=h;refine ⟨_,j5 (o8 (v8 J1 rfl T.tuple jK (d0 (R5 ["kind"] [0] rfl (N0 rfl T.range (d0 (j8 m8 rfl T.len cD (d0 (p7 j9 (pv 0) i8 (λ _ _=>rfl)) h8)) h8)) (λ _ _ _ _=>m9 (i:=0) b4L rfl (fO rfl))
   (λ _ _ _ _=>j8 (b3f K rfl rfl) rfl T.sum yK (d0 (R5 ["row"] [0] rfl (a9R K rfl (pv 1)) (λ _ _ _ _=>m9 (i:=0) b4T rfl (aM rfl)) (λ _ _ _ _=>p7 (a5Y K rfl) (pv 0) (pv 1) (λ _ _=>rfl))) h8))) h8))),?_⟩
 have rl':rvs.length=rows.length:=dH hRw;have h0v:0<rvs.length:=by omega
 obtain ⟨row0,hrow0,⟨a0,ha0,hS0⟩⟩:=aS.at hRw (aV h0v);have hr0:=hrow row0 (bN hrow0);have at0:atI rvs 0=some (.ref a0):=by
  rw [<- ha0];exact B6 (j:=0) (aV h0v)
 have l0:(row0.map V.int).length=k:=by rw [aH]; exact hr0
 refine ⟨_,rfl,rl,_,0,_,rfl,rfl,hR,at0,a0,_,rfl,.inr hS0,_,rfl,by omega,by omega,λ p hp=>?_⟩;refine V7 (xs:=(aR k).map λ (i:Nat)=>V.int (0+(i:Int))) (by rw [l0,bW]; exact a2D) hp (by rw [aH,fF]; exact p6 (by omega))
   (λ i y _=>y=.int (col rows i).sum) (λ _ _ _ _ r _=>r) (λ i x H' ys N hx e hp' hN=>?_) (λ ys H' e hp' len pr=>?_)
 ·rw [aQ] at hx
  cases hri:(aR k)[i]? with
  | none=>rw [hri] at hx; cases hx
  | some i' =>
   obtain ⟨hik,hi'⟩:=bP.mp hri;rw [List.getElem_range] at hi';subst hi';rw [fF] at hik;rw [hri] at hx
   cases hx;refine ⟨Wk.set (by decide),?_⟩;refine ⟨_,rfl,rl,rfl,⟨_,e.seq hR⟩,λ p2 hp2=>?_⟩;refine V7 (D8 (e.seq hR:SqL K _ _ _)) hp2 (p6 (by omega)) (λ j y _=>y=.int ((col rows i).getD j 0)) (λ _ _ _ _ r _=>r) (λ j u H2 zs N2 hu e2 hp2' hN2=>?_) (λ zs H2 e2 hp2' len2 pr2=>?_)
   ·obtain ⟨row,hrowj,⟨b,rfl,hb⟩⟩:=aS.at hRw hu
    have hki:i<row.length:=by rw [hrow row (bN hrowj)]; exact hik
    have ar:atI (row.map V.int) (0+(i:Int))=some (.int row[i]):=by
     rw [lW];exact B6 (by rw [aQ,aV hki]; rfl)
    have ec:(col rows i).getD j 0=row[i]:=by
     unfold col;rw [aZ,aQ,hrowj,hW,gE,aZ,aV hki]; rfl
    refine ⟨Wk.set (by decide),_,rfl,_,rfl,b,_,_,_,rfl,rfl,(e.trans e2).tseq hb,ar,hN2 _ _ (Same.refl _) ?_⟩;rw [ec]
   ·have ez:zs=(col rows i).map V.int:=by
     have hcl:(col rows i).length=rows.length:=aH _;refine eD λ j=>?_
     by_cases hj:j<zs.length
     ·rw [aV hj,pr2 j _ (aV hj),aQ,aV (by omega),aZ,aV (by omega)]; rfl
     ·rw [cK (by omega),cK (by rw [aH]; omega)]
    rw [ez] at hp2';exact ⟨p2,_,rfl,.inl (SqL.of hp2'),hN _ _ e2 rfl⟩
 ·have ey:ys=(a2z rows k).map V.int:=by
   rw [aH,fF] at len;unfold a2z;refine eD λ i=>?_
   by_cases hi:i<ys.length
   ·rw [aV hi,pr i _ (aV hi),aQ,aQ,bZ (by omega)]; rfl
   ·rw [cK (by omega),cK (by rw [aH,aH,fF]; omega)]
  rw [ey] at hp';refine ⟨p,_,rfl,.inl ⟨SqL.of hp',λ l hl=>?_⟩⟩;exact q l _ (e.trans (Same.new hl _)) upd_same
end
end Rim
namespace HT
open PySem PySem.Spec PyProof.Rows L2
section
variable {prog:aL} {w:aI} {A:aY} {E:aC->aD->Prop} {s:aD}
end
end HT
namespace L2
open PySem PySem.Spec PyProof.Rows
section
variable {X:Cx}
theorem a8Y (xs:List V) (h:xs≠[]):M5 xs none (some (-1))=xs.take (xs.length - 1)/\M5 xs (some (-1)) none=xs.drop (xs.length - 1):=by
 have hl:0<xs.length:=pY.mpr h;have e:∀ d,HT.sIx xs.length d (some (-1))=xs.length - 1:=λ d=>by
  show (if (-1:Int)<0 then ((-1:Int)+(xs.length:Int)).toNat else min (-1:Int).toNat xs.length)=_
  rw [if_pos (by decide)]; omega
 constructor
 ·unfold M5
  rw [e,HT.sIx_none,oF,wJ]
 ·unfold M5
  rw [e,HT.sIx_none,gF];rw [eZ]; omega
end
end L2
namespace Rim
open PySem L2 Fr
theorem a9q (K:aE) {X:Cx} (h:X.K=K):Z9 X (compareOp .NotIn) (rIn K true):=by subst h; exact a3N
def a1k (hs:List j3) (ns:List Int):List j3:=ns.map λ m=>hs.getD m.toNat ([],[])
def mgH (hs:List j3) (ns:List Int) (kt kg:Nat):j3:=(a2z ((a1k hs ns).map Prod.fst) kt,a2z ((a1k hs ns).map Prod.snd) kg)
def a0p (ns:List Int) (place:Int) (i:Nat):Bool:=decide ((i:Int)=place) || !ns.contains (i:Int)
def a9x (hs:List j3) (ns:List Int) (kt kg:Nat) (place:Int):List j3:=((aR hs.length).filter (a0p ns place)).filterMap λ i=>(hs.set place.toNat (mgH hs ns kt kg))[i]?
structure b5o (ns:List Int) (p:Int):Prop where
 m:p∈ns
 le:∀ x∈ns,p<=x
section
variable {P:aL} {w:aI} {K:aE} {mg:Str->Option aC} {base:aG} {f:aA} {fd:aJ} {n:Nat} {CN CM:aA}
def b2q (K:aE) (CN CM:aA):Sp:=λ vs H Q E=>∃ (ba nl:aA) (xs:List V) (hs:List j3) (ns:List Int) (far:Int) (kt kg:Nat),vs=[.ref ba,.ref nl]/\BookIn K H ba xs hs far kt kg/\1<=kt/\1<=kg/\SqL K H nl (ns.map V.int)/\1<=ns.length/\ns.length<=100/\(∀ m∈ns,m.natAbs.log2<1920) ∧
 (∀ H',Same H H'->(∃ m∈ns,¬ J4 xs.length m)->E (.ref CN) none H') ∧
 (∀ H',Same H H'->(∀ m∈ns,J4 xs.length m)->(∃ v∈(mgH hs ns kt kg).1++(mgH hs ns kt kg).2,1000000000<v)->E (.ref CM) none H') ∧
 (∀ (r:aA) (ys:List V) (place:Int) (H':Hp),Same H H'->H r=none->(∀ m∈ns,J4 xs.length m)->(∀ v∈(mgH hs ns kt kg).1++(mgH hs ns kt kg).2,v<=1000000000)->b5o ns place->H' r=some (.lst ys)->Bk K H' ys (a9x hs ns kt kg place)->Q (.ref r) H')
theorem scMrg:m6 ["book","numbers","houses","takes","gives","place","told"] ["book","numbers"] (j4 U5):=⟨rfl,rfl,rfl,by decide +kernel,rfl,by decide +kernel,by decide +kernel⟩
theorem b4E:(["number","book"]:List Str).Nodup:=by decide +kernel
theorem b2A:(["house"]:List Str).Nodup:=by decide +kernel
theorem b2n:(["number","house","place","numbers"]:List Str).Nodup:=by decide +kernel
noncomputable def b5O {cdv:aC} {A:aY} {outer:List Env} {s:aD} {H:Hp} {E:XK} {f1 f2:aA} {d1 d2:aJ} {tm:Tok} (T:x8 mg) (kM:S4 K CM) (mM:mg "TooMany"=some (.ref CM)) (hma:mg "MOST_AMOUNT"=some (.int 1000000000 tm)) (Ch:L9 P w K mg base n "house_of" ["book","number"] (V0 K CN) f1 d1) (Ct:P3 P w K mg base n "together" ["rows"] (a8H K) f2 d2)
  (hr:Room n (A.deeper (fY "merged" (j4 U5) s.heap.objs.size f cdv))) :
  { t:TS // PSs (M0 (Q7 P w) P w K mg base ["book","numbers","houses","takes","gives","place","told"] "merged" (j4 U5) f cdv A outer s H E) (w4 U5) t } :=
 ⟨_,v6 (b3r (i:=2) ["number"] [0] b0G scMrg.nd rfl rfl rfl (J7 (pv 1)) (λ _ _ _ _=>m9 (i:=0) b4E rfl (aM rfl)) (λ _ _ _ _ _ hx=>j6 Ch.ok hr rfl Ch.m Ch.k Ch.b .nil hx (d0 (pv 1) (d0 (pv 0) h8))))
  (v6 (o7 (i:=3) scMrg.nd rfl (aM rfl) (j6 Ct.ok hr rfl Ct.m Ct.k Ct.b .nil v5 (d0 (R5 ["house"] [] rfl (J7 (pv 2)) (λ _ _ _ _=>m9 (i:=0) b2A rfl (aM rfl)) (λ _ _ _ _=>p7 (a5Y K rfl) (pv 0) i8 (λ _ _=>rfl))) h8)))
  (v6 (o7 (i:=4) scMrg.nd rfl (aM rfl) (j6 Ct.ok hr rfl Ct.m Ct.k Ct.b .nil v5 (d0 (R5 ["house"] [] rfl (J7 (pv 2)) (λ _ _ _ _=>m9 (i:=0) b2A rfl (aM rfl)) (λ _ _ _ _=>p7 (a5Y K rfl) (pv 0) i8 (λ _ _=>rfl))) h8)))
  (v6 (w8 (r6 a0s (j8 (a1o rfl) rfl T.max qV (d0 (j7 a6m (pv 3) (pv 4)) h8)) (E6 (v:=.int 1000000000) rfl hma ⟨_,rfl⟩) (r8 _)) (j5 (Y5 kM rfl mM hr.hd (d0 C5 h8))) t7)
  (PSs.nox (j0 (o7 (i:=5) scMrg.nd rfl (fO rfl) (j8 (a8e rfl) rfl T.min mF (d0 (pv 1) h8)))
  (j0 (o7 (i:=6) scMrg.nd rfl (aM rfl) (v8 A6 rfl T.list fG (d0 (pv 0) h8)))
  (j0 (K5 (D3 (d0 (pv 3) (d0 (pv 4) h8))) (T1 (pv 6) (pv 5) J6))
  (j5 (o8 (b0f ["number","house"] [5,1] rfl (b4A true K rfl rfl T.enum (d0 (pv 6) h8)) (λ _ _ _ _=>Q8 K (n:=2) rfl rfl (r9 (m9 (i:=0) b2n rfl (aM rfl)) (r9 (m9 (i:=1) b2n rfl (aM rfl)) C2)))
   (λ _ _ _ _=>PW.pt (a2l (r6 K8 (pv 0) (pv 2) (r8 _)) (a0t (r6 (a9q K rfl) (pv 0) (pv 3) rfl)))) (λ _ _ _ _=>pv 1)))))))))))⟩
theorem b4N {ns:List Int} {i:Nat} {x:V} (h:(ns.map V.int)[i]?=some x):∃ k,x=.int k/\ns[i]?=some k:=by
 rw [aQ] at h
 cases e:ns[i]? with
 | none=>rw [e] at h; cases h
 | some k=>rw [e] at h; cases h; exact ⟨k,rfl,rfl⟩
theorem a2A {α β:Type} {R:α->β->Prop} {x:α} {y:β} (r:R x y):∀ {xs:List α} {ys:List β} (i:Nat),aS R xs ys->aS R (xs.set i x) (ys.set i y)
 | _,_,_,.nil=>.nil
 | _,_,0,.cons _ t=>.cons r t
 | _,_,i+1,.cons q t=>.cons q (a2A r i t)
theorem Y8 {α β:Type} {R:α->β->Prop} {xs:List α} {ys:List β} (h:aS R xs ys):∀ l:List Nat,aS R (l.filterMap λ i=>xs[i]?) (l.filterMap λ i=>ys[i]?)
 | []=>.nil
 | i::l=>by
  rw [lC,lC]
  cases e:xs[i]? with
  | none =>
   have:ys[i]?=none:=cK (by have:=oR.mp e; have:=dH h; omega);rw [this]; exact Y8 h l
  | some x =>
   obtain ⟨y,hy,r⟩:=aS.at h e;rw [hy]; exact .cons r (Y8 h l)
theorem a7B (ns:List Int):(ns.map V.int).all a0S=true:=by
 rw [wK];exact jG.mpr λ _ _=>rfl
theorem a5m (x:Int):∀ ns:List Int,inV (.int x) (ns.map V.int)=ns.contains x
 | []=>rfl
 | y::r=>by
  have ih:=a5m x r;unfold inV at ih ⊢;rw [cJ,pL,ih,List.contains_cons]
  show (y==x || _)=_
  rw [show (y==x)=(x==y) from Bool.beq_comm]
theorem a6h (rows:List (List Int)) (k:Nat):(a2z rows k).length=k:=by unfold a2z; rw [aH,fF]
theorem a4Z {H:Hp} {j:Nat}:∀ (zs:List V) (gs:List j3),zs.length=gs.length->(∀ (i:Nat) (z:V),zs[i]?=some z->∃ h a,gs[i]?=some h/\z=.ref a/\SqT K H a ((G2 j h).map V.int))->a9l K H zs (gs.map (G2 j))
 | [],[],_,_=>.nil
 | [],_::_,h,_=>by simp at h
 | _::_,[],h,_=>by simp at h
 | z::zs,g::gs,hl,h=>by
  obtain ⟨h',a,e,rfl,hs⟩:=h 0 z rfl
  cases e;exact .cons ⟨a,rfl,hs⟩ (a4Z zs gs (by simpa using hl) λ i z hz=>h (i+1) z (by simpa using hz))
theorem b3K {f1 f2:aA} {d1 d2:aJ} (F:Fun K "merged" "merged" U5 f fd) (T:x8 mg) (kM:S4 K CM) (mM:mg "TooMany"=some (.ref CM)) (hC:∃ t,mg "MOST_AMOUNT"=some (.int 1000000000 t)) (Ch:L9 P w K mg base n "house_of" ["book","number"] (V0 K CN) f1 d1) (Ct:P3 P w K mg base n "together" ["rows"] (a8H K) f2 d2) :
  FnOk P w K mg base (Q7 P w) (n+1) f fd ["book","numbers"] (b2q K CN CM):=by
 refine F.ok1 scMrg (λ vs H Q E h=>?_) (λ cdv A outer s H vs Q E hr h=>?_)
 ·obtain ⟨ba,nl,xs,hs,ns,far,kt,kg,rfl,_⟩:=h
  rfl
 obtain ⟨ba,nl,xs,hs,ns,far,kt,kg,rfl,B,kt1,kg1,hNl,n1,n100,lm,qN,qM,q⟩:=h;obtain ⟨tm,hma⟩:=hC;refine ⟨_,(b5O T kM mM hma Ch Ct hr).2,?_⟩;have xl:xs.length=hs.length:=dH B.b;have few:=B.few;have bt:=B.t;have bk:=B.k;have small:=p6 (show (1000:Nat)<=1000 from aU _);have hol:(a1k hs ns).length=ns.length:=by unfold a1k; rw [aH]
 refine ⟨λ σ' H'=>∃ (hl:aA) (ys:List V),σ'=[some (.ref ba),some (.ref nl),some (.ref hl),none,none,none,none]/\Same H H'/\H' hl=some (.lst ys)/\ys.length=ns.length/\(∀ m∈ns,J4 xs.length m)/\∀ (i:Nat) y,ys[i]?=some y->∃ h,(a1k hs ns)[i]?=some h/\HS K H' y h/\h∈hs,?_,?_⟩
 ·refine ⟨_,rfl,nl,rfl,⟨_,hNl⟩,λ p hp=>?_⟩
  refine V7 (D8 hNl) hp (by rw [aH]; exact p6 (by omega)) (λ i y _=>∃ k:Nat,ns[i]?=some (k:Int)/\xs[k]?=some y) (λ _ _ _ _ r _=>r) (λ i x H' ys N hx e hp' hN=>?_) (λ ys H' e hp' len pr=>?_)
  ·obtain ⟨m,rfl,hm⟩:=b4N hx
   have hmm:=bN hm;exact ⟨Wk.set (by decide),_,rfl,_,rfl,ba,xs,m,rfl,e.seq B.l,lm m hmm,λ k x hk hx=>hN _ _ (Same.refl _) ⟨k,by rw [hm,hk],hx⟩,λ bad=>qN _ e ⟨m,hmm,bad⟩⟩
  ·rw [aH] at len
   have gd:∀ m∈ns,J4 xs.length m:=λ m hm=>by
    obtain ⟨i,hi⟩:=iT hm;have hil:=(bP.mp hi).1;obtain ⟨k,hk,hx⟩:=pr i _ (aV (show i<ys.length by omega));rw [hi] at hk; cases hk;have:=(bP.mp hx).1;exact ⟨by omega,by omega⟩
   refine ⟨p,ys,rfl,e,hp',len,gd,λ i y hy=>?_⟩;obtain ⟨k,hk,hx⟩:=pr i y hy;obtain ⟨h,hh,hs'⟩:=aS.at B.b hx;refine ⟨h,?_,hs'.same e,bN hh⟩;unfold a1k;rw [aQ,hk,hW,bW,aZ,hh]; rfl
 intro σ1 H1 hM_; refine E9 λ G_ hG_=>?_; obtain ⟨hl,ys,rfl,e1,hhl,yl,gd,pr⟩:=hM_; subst hG_;have row:∀ (j:Nat) (hj:j<2) {H2:Hp} (p:aA) (zs:List V),Same H1 H2->H2 p=some (.lst zs)->zs.length=ys.length->(∀ (i:Nat) (z:V),zs[i]?=some z->∃ h a,(a1k hs ns)[i]?=some h/\z=V.ref a/\SqT K H1 a ((G2 j h).map V.int))->a9l K H2 zs ((a1k hs ns).map (G2 j)):=λ j _ {H2} p zs e2 _ len pz =>
  a4Z zs _ (by omega) λ i z hz=>by
   obtain ⟨h,a,z1,z2,z3⟩:=pz i z hz;exact ⟨h,a,z1,z2,e2.tseq z3⟩
 have inh:∀ h∈a1k hs ns,h∈hs:=λ h hh=>by
  obtain ⟨i,hi⟩:=iT hh;have hil:=(bP.mp hi).1;obtain ⟨h',z1,_,z3⟩:=pr i _ (aV (show i<ys.length by omega));rw [hi] at z1; cases z1; exact z3
 refine ⟨λ σ' H'=>∃ (ta:aA),σ'=[some (.ref ba),some (.ref nl),some (.ref hl),some (.ref ta),none,none,none]/\Same H1 H'/\H' ta=some (.tup ((mgH hs ns kt kg).1.map V.int)),?_,?_⟩
 ·refine ⟨_,rfl,hl,rfl,⟨_,SqL.of hhl⟩,λ p hp=>?_⟩
  refine V7 (D8 (SqL.of hhl)) hp (p6 (by omega)) (λ i y _=>∃ h a,(a1k hs ns)[i]?=some h/\y=.ref a/\SqT K H1 a ((G2 0 h).map V.int)) (λ _ _ _ _ r _=>r) (λ i x H' zs N hx e hp' hN=>?_) (λ zs H' e hp' len pz=>?_)
  ·obtain ⟨h,z1,⟨a,t0,g0,rfl,p1,p2,p3⟩,_⟩:=pr i x hx
   exact ⟨Wk.set (by decide),_,rfl,a,_,0,_,rfl,rfl,e.tseq p1,U4 _ _,hN _ _ (Same.refl _) ⟨h,t0,z1,rfl,p2⟩⟩
  ·refine ⟨p,zs,_,kt,rfl,SqL.of hp',row 0 (by decide) p zs e hp' len pz,by rw [aH]; omega,by rw [aH]; omega,by omega,λ r hr=>?_,λ r H2 e2 hr2=>⟨r,rfl,e.trans e2,hr2⟩⟩
   obtain ⟨h,hh,rfl⟩:=bL.mp hr;exact (B.g h (inh h hh)).lt
 intro σ2 H2 hM_; refine E9 λ G_ hG_=>?_; obtain ⟨ta,rfl,e2,hta⟩:=hM_; subst hG_;have hhl2:=e2 _ _ hhl;refine ⟨λ σ' H'=>∃ (ga:aA),σ'=[some (.ref ba),some (.ref nl),some (.ref hl),some (.ref ta),some (.ref ga),none,none]/\Same H2 H'/\H' ga=some (.tup ((mgH hs ns kt kg).2.map V.int)),?_,?_⟩
 ·refine ⟨_,rfl,hl,rfl,⟨_,SqL.of hhl2⟩,λ p hp=>?_⟩
  refine V7 (D8 (SqL.of hhl2)) hp (p6 (by omega)) (λ i y _=>∃ h a,(a1k hs ns)[i]?=some h/\y=.ref a/\SqT K H1 a ((G2 1 h).map V.int)) (λ _ _ _ _ r _=>r) (λ i x H' zs N hx e hp' hN=>?_) (λ zs H' e hp' len pz=>?_)
  ·obtain ⟨h,z1,⟨a,t0,g0,rfl,p1,p2,p3⟩,_⟩:=pr i x hx
   exact ⟨Wk.set (by decide),_,rfl,a,_,1,_,rfl,rfl,(e2.trans e).tseq p1,W8 _ _,hN _ _ (Same.refl _) ⟨h,g0,z1,rfl,p3⟩⟩
  ·refine ⟨p,zs,_,kg,rfl,SqL.of hp',row 1 (by decide) p zs (e2.trans e) hp' len pz,by rw [aH]; omega,by rw [aH]; omega,by omega,λ r hr=>?_,λ r H3 e3 hr3=>⟨r,rfl,e.trans e3,hr3⟩⟩
   obtain ⟨h,hh,rfl⟩:=bL.mp hr;exact (B.g h (inh h hh)).lg
 intro σ3 H3 hM_; refine E9 λ G_ hG_=>?_; obtain ⟨ga,rfl,e3,hga⟩:=hM_; subst hG_;have hta3:=e3 _ _ hta;have e03:=e1.trans (e2.trans e3);have l1:(mgH hs ns kt kg).1.length=kt:=a6h _ _;have l2:(mgH hs ns kt kg).2.length=kg:=a6h _ _;refine ⟨λ σ' H'=>σ'=[some (.ref ba),some (.ref nl),some (.ref hl),some (.ref ta),some (.ref ga),none,none]/\Same H3 H'/\∀ v∈(mgH hs ns kt kg).1++(mgH hs ns kt kg).2,v<=1000000000,?_,?_⟩
 ·refine ⟨_,rfl,_,rfl,ta,ga,_,_,rfl,rfl,SqT.of hta3,SqT.of hga,λ z=>?_,?_,λ z=>?_,λ _ p hp=>?_⟩
  ·have:=congrArg jW z
   rw [aH] at this;simp only [iS] at this;omega
  ·rw [aH,aH]; show _<=sizeLine; omega
  ·have:=congrArg jW z
   rw [aH] at this;simp only [iS] at this;omega
  have s1:=Same.new hp (.tup ((mgH hs ns kt kg).1.map V.int++(mgH hs ns kt kg).2.map V.int));rw [<- cV] at s1 ⊢;refine ⟨p,_,rfl,.inr (SqT.of upd_same),λ z=>?_,λ M hM hle=>⟨_,_,rfl,rfl,_,rfl,w6 (λ c=>?_) (λ c=>⟨rfl,s1,λ v hv=>?_⟩)⟩⟩
  ·have:=congrArg jW z
   simp only [bF,iS] at this;omega
  ·exact ⟨(by show 1<=1000; decide),qM _ (e03.trans s1) gd ⟨M,hM,of_decide_eq_true c⟩⟩
  ·have c':¬ M>1000000000:=of_decide_eq_false (by simpa using c)
   have:=hle v hv;omega
 intro σ4 H4 hM_; refine E9 λ G_ hG_=>?_; obtain ⟨rfl,e4,fit⟩:=hM_; subst hG_;have e04:=e03.trans e4;have hta4:=e4 _ _ hta3;have hga4:=e4 _ _ hga;refine ⟨_,rfl,nl,ns,rfl,.inl (e04.seq hNl),λ z=>by rw [z] at n1; simp at n1,λ pl hpl hle=>?_⟩;have gp:=gd pl hpl;refine ⟨_,rfl,ba,_,rfl,.inl (e04.seq B.l),λ tl htl=>?_⟩;have s5:=Same.new htl (.lst xs);refine ⟨_,rfl,_,rfl,(by show 2<=sizeLine; decide),λ hv hhv=>?_⟩;have s6:=Same.new hhv (.tup [V.ref ta,V.ref ga]);have tlv:tl≠hv:=i9 upd_same hhv;have htl2:H tl=none:=by
  cases e:H tl with
  | none=>rfl
  | some o=>rw [e04 _ _ e] at htl; cases htl
 have hH6:(upd (upd H4 tl (.lst xs)) hv (.tup [V.ref ta,V.ref ga])) tl=some (.lst xs):=s6 _ _ upd_same;have e06:=e04.trans (s5.trans s6);have hv6:(upd (upd H4 tl (.lst xs)) hv (.tup [V.ref ta,V.ref ga])) hv=some (.tup [V.ref ta,V.ref ga]):=upd_same;have ta6:=(s5.trans s6) _ _ hta4;have ga6:=(s5.trans s6) _ _ hga4;generalize upd (upd H4 tl (.lst xs)) hv (.tup [V.ref ta,V.ref ga])=H6 at *;refine ⟨_,rfl,_,rfl,tl,xs,pl,_,rfl,rfl,hH6,a0j gp.1 gp.2,?_⟩;have e07:Same H (upd H6 tl (.lst (xs.set pl.toNat (.ref hv)))):=e06.write htl2;have nt:∀ {b o},H6 b=some o->(∀ l,o≠.lst l)->b≠tl:=λ hb hn z=>by rw [z,hH6] at hb; exact hn _ (bG hb).symm
 have hv7:(upd H6 tl (.lst (xs.set pl.toNat (.ref hv)))) hv=some (.tup [V.ref ta,V.ref ga]):=by rw [i7 (nt hv6 nofun)]; exact hv6
 have ta7:(upd H6 tl (.lst (xs.set pl.toNat (.ref hv)))) ta=_:=(i7 (nt ta6 nofun)).trans ta6;have ga7:(upd H6 tl (.lst (xs.set pl.toNat (.ref hv)))) ga=_:=(i7 (nt ga6 nofun)).trans ga6;have tl7:(upd H6 tl (.lst (xs.set pl.toNat (.ref hv)))) tl=some (.lst (xs.set pl.toNat (.ref hv))):=upd_same;generalize upd H6 tl (.lst (xs.set pl.toNat (.ref hv)))=H7 at *;refine ⟨_,rfl,tl,rfl,⟨_,SqL.of tl7⟩,λ p hp=>?_⟩;have hp0:H p=none:=by
  cases e:H p with
  | none=>rfl
  | some o=>rw [e07 _ _ e] at hp; cases hp
 refine b2M (b:=true) (SqL.of tl7) hp (by rw [dG]; exact p6 (by omega)) (a0p ns pl) (λ _ y=>y) (λ i y H2 zs N hy e hp' hNN=>?_) (λ i y H2 N hy hq e hNN=>⟨_,rfl,hNN⟩) (λ H2 e hp'=>?_)
 ·refine ⟨_,rfl,_,rfl,rfl,_,rfl,w6 (λ c=>?_) (λ c=>?_)⟩
  ·have st:a0p ns pl i=true:=by unfold a0p; rw [decide_eq_true (V.int.inj (of_decide_eq_true c))]; rfl
   have:=hNN _ (Same.refl _);rw [st] at this;exact this
  ·refine ⟨_,rfl,_,rfl,nl,_,rfl,.inl ((e07.trans e).seq hNl),rfl,a7B ns,_,rfl,?_⟩
   have st:a0p ns pl i=!inV (.int (i:Int)) (ns.map V.int):=by
    unfold a0p;rw [a5m,decide_eq_false (λ z=>(of_decide_eq_false (eW.mpr c)) (by rw [z])),Bool.false_or]
   have:=hNN _ (Same.refl _);rw [st] at this;exact this
 ·refine q p _ pl H2 (e07.trans e) hp0 gd fit ⟨hpl,hle⟩ hp' ?_
  have hb:Bk K H2 (xs.set pl.toNat (.ref hv)) (hs.set pl.toNat (mgH hs ns kt kg)):=a2A ⟨hv,ta,ga,rfl,SqT.of (e _ _ hv7),SqT.of (e _ _ ta7),SqT.of (e _ _ ga7)⟩ _ (Bk.same (e07.trans e) B.b);have:=Y8 hb ((aR hs.length).filter (a0p ns pl));unfold a9x X8;rw [dG,xl]
  simpa using this
end
structure b7b (z:Str) (hs:List j3) (h:j3) (kt kg:Nat) (ws:List Int) (v:Int):Prop where
 m:Mx z hs ws v
 t:∀ j,j<kt->F0 hs ws 0 j<=h.1.getD j 0*v
 g:∀ j,j<kg->h.2.getD j 0*v<=F0 hs ws 1 j
 s:h.2.sum*v - h.1.sum*v<v9 (hs.map λ g=>g.2.sum - g.1.sum) ws
section
variable {z:Str} {hs:List j3} {h:j3} {kt kg i:Nat} {S:Lp.Bo} {far:Int}
end
section
variable {z:Str} {hs:List j3} {h:j3} {kt kg i:Nat} {far:Int}
end
section
variable {z:Str} {hs R:List j3} {h:j3} {kt kg:Nat} {far A B:Int}
end
section
variable {z:Str} {O hs:List j3} {h:j3} {kt kg:Nat} {far A B k:Int}
end
def qd (x y:Q2):Q2:=low (x.1*y.2) (x.2*y.1)
def qm (x y:Q2):Q2:=low (x.1*y.1) (x.2*y.2)
structure FrB (n:Nat) (x:Q2):Prop where
 p1:0<x.1
 b1:x.1<2 ^ n
 p2:0<x.2
 b2:x.2<2 ^ n
theorem a6D {A B:Int} (hA:0<A) (hB:0<B):0<(low A B).1/\(low A B).1<=A:=by
 obtain ⟨h1,_⟩:=Q6 (t:=A) hB;have hg:=a2I (a:=A) hB;have p:0<(low A B).1:=by
  rcases Int.lt_or_le 0 (low A B).1 with q | q
  ·exact q
  ·have:=kU q (bR hg)
   omega
 refine ⟨p,?_⟩;have:=fP (show (1:Int)<=gI A B by omega) (bR p);omega
theorem a2a {n m:Nat} {a b:Int} (ha:0<a) (hb:0<b) (h1:a<2 ^ n) (h2:b<2 ^ m):a*b<2 ^ (n+m):=by
 rw [Int.pow_add];exact Int.mul_lt_mul h1 (bR h2) hb (bR (Int.pow_pos (by decide)))
theorem FrB.low {n:Nat} {A B:Int} (hA:0<A) (hB:0<B) (h1:A<2 ^ n) (h2:B<2 ^ n):FrB n (low A B) :=
 ⟨(a6D hA hB).1,mG (a6D hA hB).2 h1,a3Y hB,mG (a8E hB) h2⟩
theorem FrB.div {n m:Nat} {x y:Q2} (hx:FrB n x) (hy:FrB m y):FrB (n+m) (qd x y) :=
 FrB.low (eF hx.p1 hy.p2) (eF hx.p2 hy.p1) (a2a hx.p1 hy.p2 hx.b1 hy.b2) (a2a hx.p2 hy.p1 hx.b2 hy.b1)
theorem a6R {n m:Nat} (h:n<=m):(2:Int) ^ n<=2 ^ m:=by exact_mod_cast lV (show 0<2 by decide) h
theorem FrB.mono {n m:Nat} {x:Q2} (hx:FrB n x) (h:n<=m):FrB m x:=⟨hx.p1,kY hx.b1 (a6R h),hx.p2,kY hx.b2 (a6R h)⟩
theorem FrB.bigs {n:Nat} {x:Q2} (hx:FrB n x) (h:n<=1000000):Big 1000000 x.1/\Big 1000000 x.2:=⟨(a1Y (bR hx.p1) hx.b1).mono h,(a1Y (bR hx.p2) hx.b2).mono h⟩
section
variable {P:aL} {w:aI} {K:aE} {mg:Str->Option aC} {base:aG} {f Pt CN:aA} {fd:aJ} {n:Nat}
def a1y (K:aE) (F:Q2->Q2->Q2):Sp:=λ vs H Q _=>∃ (u v:V) (x y:Q2),vs=[u,v]/\FrV K H u x/\FrV K H v y/\FrB 4000 x/\FrB 4000 y/\∀ (r:V) (H':Hp),Same H H'->FrT H' r (F x y)->Q r H'
theorem b6n:m6 ["one","other"] ["one","other"] (j4 V6):=⟨rfl,rfl,rfl,by decide +kernel,rfl,by decide +kernel,by decide +kernel⟩
theorem b6o:m6 ["one","other"] ["one","other"] (j4 a1v):=⟨rfl,rfl,rfl,by decide +kernel,rfl,by decide +kernel,by decide +kernel⟩
theorem a2T {fa:aA} {da:aJ} (F:Fun K "multiplied" "multiplied" V6 f fd) (Cl:Cal P w K mg base n "lowest" ["top","bottom"] a2K fa da):FnOk P w K mg base E1 (n+1) f fd ["one","other"] (a1y K qm):=by
 refine F.ok b6n (λ vs H Q E h=>?_) (λ cdv A outer s H vs Q E hr h=>?_)
 ·obtain ⟨u,v,x,y,rfl,_⟩:=h
  rfl
 obtain ⟨u,v,x,y,rfl,⟨a,rfl,ha⟩,⟨b,rfl,hb⟩,hx,hy,q⟩:=h;refine ⟨_,j5 (o8 (j6 Cl.ok hr rfl Cl.m Cl.k Cl.b .nil v5 (d0 (j7 N9 (p7 A9 (pv 0) i8 (λ _ _=>rfl)) (p7 A9 (pv 1) i8 (λ _ _=>rfl))) (d0 (j7 N9 (p7 A9 (pv 0) i8 (λ _ _=>rfl)) (p7 A9 (pv 1) i8 (λ _ _=>rfl))) h8)))),?_⟩;have b1:=hx.bigs (by decide);have b2:=hy.bigs (by decide);exact ⟨_,rfl,a,_,0,_,rfl,rfl,ha,U4 _ _,_,rfl,b,_,0,_,rfl,rfl,hb,U4 _ _,_,_,rfl,rfl,⟨b1.1,b2.1⟩,_,rfl,a,_,1,_,rfl,rfl,ha,W8 _ _,_,rfl,b,_,1,_,rfl,rfl,hb,W8 _ _,_,_,rfl,rfl,⟨b1.2,b2.2⟩,_,_,rfl,eF hx.p2 hy.p2,a2a hx.p2 hy.p2 hx.b2 hy.b2,λ r H' e hr=>q r H' e hr⟩
theorem a5W {fa:aA} {da:aJ} (F:Fun K "divided" "divided" a1v f fd) (Cl:Cal P w K mg base n "lowest" ["top","bottom"] a2K fa da):FnOk P w K mg base E1 (n+1) f fd ["one","other"] (a1y K qd):=by
 refine F.ok b6o (λ vs H Q E h=>?_) (λ cdv A outer s H vs Q E hr h=>?_)
 ·obtain ⟨u,v,x,y,rfl,_⟩:=h
  rfl
 obtain ⟨u,v,x,y,rfl,⟨a,rfl,ha⟩,⟨b,rfl,hb⟩,hx,hy,q⟩:=h;refine ⟨_,j5 (o8 (j6 Cl.ok hr rfl Cl.m Cl.k Cl.b .nil v5 (d0 (j7 N9 (p7 A9 (pv 0) i8 (λ _ _=>rfl)) (p7 A9 (pv 1) i8 (λ _ _=>rfl))) (d0 (j7 N9 (p7 A9 (pv 0) i8 (λ _ _=>rfl)) (p7 A9 (pv 1) i8 (λ _ _=>rfl))) h8)))),?_⟩;have b1:=hx.bigs (by decide);have b2:=hy.bigs (by decide);exact ⟨_,rfl,a,_,0,_,rfl,rfl,ha,U4 _ _,_,rfl,b,_,1,_,rfl,rfl,hb,W8 _ _,_,_,rfl,rfl,⟨b1.1,b2.2⟩,_,rfl,a,_,1,_,rfl,rfl,ha,W8 _ _,_,rfl,b,_,0,_,rfl,rfl,hb,U4 _ _,_,_,rfl,rfl,⟨b1.2,b2.1⟩,_,_,rfl,eF hx.p2 hy.p1,a2a hx.p2 hy.p1 hx.b2 hy.b1,λ r H' e hr=>q r H' e hr⟩
structure ShB (z:Str) (hs:List j3) (h:j3) (kt kg:Nat) (x:Q2):Prop where
 s:∃ A B,IsShare z hs h kt kg A B/\0<A/\x=low A B
 b:FrB 1200 x
theorem ShB.eq {z:Str} {hs:List j3} {h:j3} {kt kg:Nat} {far:Int} {x y:Q2} (hz:Szw z) (a:ShB z hs h kt kg x) (b:ShB z hs h kt kg y) (hG:∀ g∈hs,HG far kt kg g) (gh:HG far kt kg h):x=y:=by
 obtain ⟨A,B,I,_,rfl⟩:=a.s;obtain ⟨A',B',J,_,rfl⟩:=b.s;exact b0m I.1 J.1 (I.eq hz J (λ g hg=>⟨(hG g hg).lt,(hG g hg).lg⟩) gh.lt gh.lg)
theorem b4H:∀ k,k<18->Lp.bnd (2 ^ 60) (k+1)<2 ^ 1200:=by decide +kernel
theorem Best.b {z:Str} {hs:List j3} {h:j3} {kt kg:Nat} {S:Lp.Bo} {far:Int} (hz:Szw z) (B:Best z hs h S) (hG:∀ g∈hs,HG far kt kg g) (gh:HG far kt kg h) (hf:far<=2 ^ 60) (few:hs.length<=16) (kt1:1<=kt) (kt4:kt<=20) (kg4:kg<=20):ShB z hs h kt kg (low (S.T (mE hs) (qE z h)) S.d):=by
 have U:=B.u hz hG gh kt1 kt4 kg4;have hM:=b2b (z:=z) gh hG hf (qE z h);have hb:=b4H (hs.length+1) (by omega);have hd:=U.b;have hp:=U.p;have i1:(S.T (mE hs) (qE z h)).natAbs<2 ^ 1200:=eJ (B.1.w.bndT hM (aU _) (aU _)) hb;have i2:S.d.natAbs<2 ^ 1200:=eJ (B.1.w.bndd hM) hb;have cast:∀ x:Int,0<x->x.natAbs<2 ^ 1200->x<2 ^ 1200:=λ x h0 h=>by
  have e:x=(x.natAbs:Int):=by omega
  rw [e]; exact_mod_cast h
 exact ⟨⟨_,_,U.s,hp,rfl⟩,FrB.low hp hd (cast _ hp i1) (cast _ hd i2)⟩
def b1L (K:aE) (Pt:aA):Sp:=λ vs H Q _=>∃ (ba:aA) (hv:V) (xs:List V) (hs:List j3) (h:j3) (z:Str) (far:Int) (kt kg:Nat),vs=[.ref ba,hv,.str z]/\Szw z/\BookIn K H ba xs hs far kt kg/\1<=kt/\HS K H hv h/\HG far kt kg h/\LT Pt H ∧
 (∀ (x:Q2) (H':Hp) (u:V),ShB z hs h kt kg x->Same1 Pt H H'->LT Pt H'->FrT H' u x->Q u H')/\∀ H':Hp,IsNone z hs h kt kg->Same1 Pt H H'->LT Pt H'->Q .non H'
theorem a0H (F:FnOk P w K mg base E1 n f fd ["houses","house","sizes"] (a0E K Pt)):FnOk P w K mg base E1 n f fd ["houses","house","sizes"] (b1L K Pt):=F.imp λ vs H Q E h=>by
 obtain ⟨ba,hv,xs,hs,h,z,far,kt,kg,rfl,hz,B,kt1,hH,gh,L,kG,kN⟩:=h;exact ⟨ba,hv,xs,hs,h,z,far,kt,kg,rfl,hz,B,hH,gh,L,λ S H' u Bs e L' hu=>kG _ H' u (Bs.b hz B.g gh B.far B.few kt1 B.t B.k) e L' hu,λ S H' c O hc hneg hno e L'=>kN H' (none_of hz O hc hneg hno B.g gh) e L'⟩
theorem scMv:m6 ["before","after","number","sizes","ahead","behind","share_ahead","share_behind","catch","first","second"] ["before","after","number","sizes"] (j4 a0i):=⟨rfl,rfl,rfl,by decide +kernel,rfl,by decide +kernel,by decide +kernel⟩
end
section
variable {P:aL} {w:aI} {K:aE} {mg:Str->Option aC} {base:aG} {f Pt CN:aA} {fd:aJ} {n:Nat}
theorem BookIn.to1 {H H':Hp} {ba:aA} {xs:List V} {hs:List j3} {far:Int} {kt kg:Nat} (L:LT Pt H) (e:Same1 Pt H H') (B:BookIn K H ba xs hs far kt kg):BookIn K H' ba xs hs far kt kg:=⟨SqL.same1 L e B.l,Bk.same1 L e B.b,B.g,B.far,B.few,B.t,B.k⟩
end
def MvV (H:Hp) (t:aA) (z:Str) (hs1 hs2:List j3) (h1 h2:j3) (kt kg:Nat):Prop:=∃ (c r:V) (x1 x2:Q2),H t=some (.tup [c,r])/\ShB z hs1 h1 kt kg x1/\ShB z hs2 h2 kt kg x2/\FrT H c (qd x2 x1) ∧
 ((∃ y1 y2,ShB z hs1 h2 kt kg y1/\ShB z hs2 h1 kt kg y2/\FrT H r (qm (qd y1 x2) (qd x1 y2)))\/(r=.non/\(IsNone z hs1 h2 kt kg\/IsNone z hs2 h1 kt kg)))
section
variable {P:aL} {w:aI} {K:aE} {mg:Str->Option aC} {base:aG} {f Pt CN:aA} {fd:aJ} {n:Nat}
end
section
variable {P:aL} {w:aI} {K:aE} {mg:Str->Option aC} {base:aG} {f Pt CN:aA} {fd:aJ} {n:Nat}
def a4L (K:aE) (CB CN Pt:aA):Sp:=λ vs H Q E=>∃ (b1 b2:aA) (xs1 xs2:List V) (hs1 hs2:List j3) (number:Int) (z:Str) (far:Int) (kt kg kt2 kg2:Nat),vs=[.ref b1,.ref b2,.int number,.str z]/\Szw z/\BookIn K H b1 xs1 hs1 far kt kg/\BookIn K H b2 xs2 hs2 far kt2 kg2/\1<=hs1.length/\1<=hs2.length/\1<=kt/\number.natAbs.log2<1920/\LT Pt H ∧
 (kt2=kt->kg2=kg->(∀ (i:Nat) (h1 h2:j3),number=(i:Int)->hs1[i]?=some h1->hs2[i]?=some h2->∀ (H':Hp) (t:aA),MvV H' t z hs1 hs2 h1 h2 kt kg->Same1 Pt H H'->LT Pt H'->Q (.ref t) H')/\(¬ (J4 xs1.length number/\J4 xs2.length number)->E (.ref CN) none H)) ∧
 (¬ (kt2=kt/\kg2=kg)->E (.ref CB) none H)
noncomputable def b5W {cdv:aC} {A:aY} {outer:List Env} {s:aD} {H:Hp} {E:XK} {f1 f2 f3 f4 f5:aA} {d1 d2 d3 d4 d5:aJ} {CB:aA} (T:x8 mg) (kN:S4 K CB) (mN:mg "NoBook"=some (.ref CB)) (Cl:P3 P w K mg base n "are_like_counts" ["house","other"] (a5Z K) f1 d1) (Ch:L9 P w K mg base n "house_of" ["book","number"] (V0 K CN) f2 d2) (Ce:P3 P w K mg base n "held_against" ["houses","house","sizes"] (a0E K Pt) f3 d3)
  (Cd:P3 P w K mg base n "divided" ["one","other"] (a1y K qd) f4 d4) (Cm:P3 P w K mg base n "multiplied" ["one","other"] (a1y K qm) f5 d5) (hr:Room n (A.deeper (fY "moved" (j4 a0i) s.heap.objs.size f cdv))) :
  { t:TS // PSs (M0 (Q7 P w) P w K mg base ["before","after","number","sizes","ahead","behind","share_ahead","share_behind","catch","first","second"] "moved" (j4 a0i) f cdv A outer s H E) (w4 a0i) t } :=
 ⟨_,j0 (w8 (a1a (X9 (j6 Cl.ok hr rfl Cl.m Cl.k Cl.b .nil v5 (d0 (p7 j9 (pv 0) i8 (λ _ _=>rfl)) (d0 (p7 j9 (pv 1) i8 (λ _ _=>rfl)) h8))))) (j5 (Y5 kN rfl mN hr.hd (d0 C5 h8))) t7)
  (j0 (o7 (i:=4) scMv.nd rfl (aM rfl) (j6 Ch.ok hr rfl Ch.m Ch.k Ch.b .nil B9 (d0 (pv 0) (d0 (pv 2) h8))))
  (j0 (o7 (i:=5) scMv.nd rfl (aM rfl) (j6 Ch.ok hr rfl Ch.m Ch.k Ch.b .nil B9 (d0 (pv 1) (d0 (pv 2) h8))))
  (PSs.nox (v6 (o7 (i:=6) scMv.nd rfl (aM rfl) (j6 (a0H Ce.ok) hr rfl Ce.m Ce.k Ce.b .nil v5 (d0 (pv 0) (d0 (pv 4) (d0 (pv 3) h8)))))
  (v6 (o7 (i:=7) scMv.nd rfl (aM rfl) (j6 (a0H Ce.ok) hr rfl Ce.m Ce.k Ce.b .nil v5 (d0 (pv 1) (d0 (pv 5) (d0 (pv 3) h8)))))
  (j0 (o7 (i:=8) scMv.nd rfl (aM rfl) (j6 Cd.ok hr rfl Cd.m Cd.k Cd.b .nil v5 (d0 (pv 7) (d0 (pv 6) h8))))
  (v6 (o7 (i:=9) scMv.nd rfl (aM rfl) (j6 (a0H Ce.ok) hr rfl Ce.m Ce.k Ce.b .nil v5 (d0 (pv 0) (d0 (pv 5) (d0 (pv 3) h8)))))
  (v6 (o7 (i:=10) scMv.nd rfl (aM rfl) (j6 (a0H Ce.ok) hr rfl Ce.m Ce.k Ce.b .nil v5 (d0 (pv 1) (d0 (pv 4) (d0 (pv 3) h8)))))
  (j0 (w8 (PW.pt (a2l (r6 a0Z (pv 9) M2 (r8 _)) (a0t (r6 a0Z (pv 10) M2 (r8 _))))) (j5 (o8 (D3 (d0 (pv 8) (d0 M2 h8))))) t7)
  (j5 (o8 (D3 (d0 (pv 8) (d0 (j6 Cm.ok hr rfl Cm.m Cm.k Cm.b .nil v5 (d0 (j6 Cd.ok hr rfl Cd.m Cd.k Cd.b .nil v5 (d0 (pv 9) (d0 (pv 7) h8))) (d0 (j6 Cd.ok hr rfl Cd.m Cd.k Cd.b .nil v5 (d0 (pv 6) (d0 (pv 10) h8))) h8))) h8))))))))))))))⟩
theorem a7u {CB f1 f2 f3 f4 f5:aA} {d1 d2 d3 d4 d5:aJ} (F:Fun K "moved" "moved" a0i f fd) (T:x8 mg) (kN:S4 K CB) (mN:mg "NoBook"=some (.ref CB)) (Cl:P3 P w K mg base n "are_like_counts" ["house","other"] (a5Z K) f1 d1) (Ch:L9 P w K mg base n "house_of" ["book","number"] (V0 K CN) f2 d2) (Ce:P3 P w K mg base n "held_against" ["houses","house","sizes"] (a0E K Pt) f3 d3)
  (Cd:P3 P w K mg base n "divided" ["one","other"] (a1y K qd) f4 d4) (Cm:P3 P w K mg base n "multiplied" ["one","other"] (a1y K qm) f5 d5):FnOk P w K mg base (Q7 P w) (n+1) f fd ["before","after","number","sizes"] (a4L K CB CN Pt):=by
 refine F.ok1 scMv (λ vs H Q E h=>?_) (λ cdv A outer s H vs Q E hr h=>?_)
 ·obtain ⟨b1,b2,xs1,xs2,hs1,hs2,number,z,far,kt,kg,kt2,kg2,rfl,_⟩:=h
  rfl
 obtain ⟨b1,b2,xs1,xs2,hs1,hs2,number,z,far,kt,kg,kt2,kg2,rfl,hz,B1,B2,n1,n2,kt1,lm,L,kk,kX⟩:=h;refine ⟨_,(b5W T kN mN Cl Ch Ce Cd Cm hr).2,?_⟩;have l1:xs1.length=hs1.length:=dH B1.b;have l2:xs2.length=hs2.length:=dH B2.b;have f1':=B1.few;have f2':=B2.few;obtain ⟨u0,hu0⟩:∃ u,xs1[0]?=some u:=⟨_,aV (by omega)⟩;obtain ⟨v0,hv0⟩:∃ u,xs2[0]?=some u:=⟨_,aV (by omega)⟩;obtain ⟨k0,hk0,HS0⟩:=aS.at B1.b hu0;obtain ⟨k1,hk1,HS1⟩:=aS.at B2.b hv0;have gk0:=B1.g k0 (bN hk0);have gk1:=B2.g k1 (bN hk1);refine ⟨_,rfl,b1,_,_,_,rfl,rfl,B1.l,B6 (j:=0) hu0,_,rfl,b2,_,_,_,rfl,rfl,B2.l,B6 (j:=0) hv0,u0,v0,k0,k1,rfl,HS0,HS1,_,rfl,?_⟩;rw [gk0.lt,gk0.lg,gk1.lt,gk1.lg];refine w6 (λ c=>?_) (λ c=>?_)
 ·have c':¬ (kt2=kt/\kg2=kg):=λ w=>by rw [decide_eq_true (show kt=kt2/\kg=kg2 from ⟨w.1.symm,w.2.symm⟩)] at c; cases c
  exact ⟨(by show 1<=1000; decide),kX c'⟩
 have c':kt=kt2/\kg=kg2:=by
  cases e:decide (kt=kt2/\kg=kg2) with
  | true=>exact of_decide_eq_true e
  | false=>rw [e] at c; exact absurd rfl c
 obtain ⟨rfl,rfl⟩:=c';obtain ⟨q,qE⟩:=kk rfl rfl;refine ⟨_,rfl,_,rfl,b1,xs1,number,rfl,B1.l,lm,λ i' v1 hi' hx1=>?_,λ bad=>qE λ w=>bad w.1⟩;refine ⟨_,rfl,_,rfl,b2,xs2,number,rfl,B2.l,lm,λ i2' v2 hi2' hx2=>?_,λ bad=>qE λ w=>bad w.2⟩;have:i2'=i':=by omega
 subst this;subst hi';obtain ⟨h1,hh1,_⟩:=aS.at B1.b hx1;obtain ⟨h2,hh2,_⟩:=aS.at B2.b hx2;have i1:=(bP.mp hh1).1;have i2:=(bP.mp hh2).1;have g1:=B1.g h1 (bN hh1);have g2:=B2.g h2 (bN hh2);have m1:=bN hh1;have m2:=bN hh2;have hs1':∀ {H':Hp},Same1 Pt H H'->HS K H' v1 h1:=λ e=>by
  obtain ⟨h',hh',r⟩:=aS.at (Bk.same1 L e B1.b) hx1;rw [hh1] at hh'; cases hh'; exact r
 have hs2':∀ {H':Hp},Same1 Pt H H'->HS K H' v2 h2:=λ e=>by
  obtain ⟨h',hh',r⟩:=aS.at (Bk.same1 L e B2.b) hx2;rw [hh2] at hh'; cases hh'; exact r
 have kG:∀ (x1 x2 y1 y2:Q2) (H':Hp) (t:aA) (c r:V),ShB z hs1 h1 kt kg x1->ShB z hs2 h2 kt kg x2->ShB z hs1 h2 kt kg y1->ShB z hs2 h1 kt kg y2->Same1 Pt H H'->LT Pt H'->H' t=some (.tup [c,r])->FrT H' c (qd x2 x1)->FrT H' r (qm (qd y1 x2) (qd x1 y2))->Q (.ref t) H':=λ x1 x2 y1 y2 H' t c r X1 X2 Y1 Y2 e L' ht hc hr=>q i2' h1 h2 rfl hh1 hh2 H' t ⟨c,r,x1,x2,ht,X1,X2,hc,.inl ⟨y1,y2,Y1,Y2,hr⟩⟩ e L';have kN:∀ (x1 x2:Q2) (H':Hp) (t:aA) (c:V),ShB z hs1 h1 kt kg x1->ShB z hs2 h2 kt kg x2->(IsNone z hs1 h2 kt kg\/IsNone z hs2 h1 kt kg)->Same1 Pt H H'->LT Pt H'->H' t=some (.tup [c,.non])->FrT H' c (qd x2 x1)->Q (.ref t) H':=λ x1 x2 H' t c X1 X2 N e L' ht hc=>q i2' h1 h2 rfl hh1 hh2 H' t ⟨c,.non,x1,x2,ht,X1,X2,hc,.inr ⟨rfl,N⟩⟩ e L';refine ⟨λ σ' H'=>∃ u x,σ'=[some (.ref b1),some (.ref b2),some (.int (i2':Int)),some (.str z),some v1,some v2,some u,none,none,none,none]/\Same1 Pt H H'/\LT Pt H'/\ShB z hs1 h1 kt kg x/\FrT H' u x,?_,?_⟩
 ·exact ⟨_,rfl,_,rfl,_,rfl,b1,v1,xs1,hs1,h1,z,far,kt,kg,rfl,hz,B1,kt1,hs1' Same1.refl,g1,L,λ x H' u X e L' hu=>⟨u,x,rfl,e,L',X,hu⟩,λ H' N _ _=>(N.notIn hz B1.g m1).elim⟩
 intro σ3 H3 hM_; refine E9 λ G_ hG_=>?_; obtain ⟨u1,x1,rfl,e3,L3,X1,hu1⟩:=hM_; subst hG_;refine ⟨λ σ' H'=>∃ u x,σ'=[some (.ref b1),some (.ref b2),some (.int (i2':Int)),some (.str z),some v1,some v2,some u1,some u,none,none,none]/\Same1 Pt H3 H'/\LT Pt H'/\ShB z hs2 h2 kt kg x/\FrT H' u x,?_,?_⟩
 ·exact ⟨_,rfl,_,rfl,_,rfl,b2,v2,xs2,hs2,h2,z,far,kt,kg,rfl,hz,B2.to1 L e3,kt1,hs2' e3,g2,L3,λ x H' u X e L' hu=>⟨u,x,rfl,e,L',X,hu⟩,λ H' N _ _=>(N.notIn hz B2.g m2).elim⟩
 intro σ4 H4 hM_; refine E9 λ G_ hG_=>?_; obtain ⟨u2,x2,rfl,e4,L4,X2,hu2⟩:=hM_; subst hG_;have e04:=e3.trans e4;have hu1':=hu1.to1 L3 e4;refine ⟨_,rfl,_,rfl,u2,u1,x2,x1,rfl,hu2.v,hu1'.v,X2.b.mono (by decide),X1.b.mono (by decide),λ c H5 e5 hc=>?_⟩;have e05:=e04.trans e5.to1;have L5:=L4.same e5;have fr:∀ {u:V} {x:Q2} {H':Hp},FrT H4 u x->Same1 Pt H5 H'->FrT H' u x:=λ h e=>(h.same e5).to1 L5 e;have gkt:∀ {h:j3},HG far kt kg h->h.1.length=kt/\h.2.length=kg:=λ g=>⟨g.lt,g.lg⟩;refine ⟨λ σ' H'=>∃ v,σ'=[some (.ref b1),some (.ref b2),some (.int (i2':Int)),some (.str z),some v1,some v2,some u1,some u2,some c,some v,none]/\Same1 Pt H5 H'/\LT Pt H'/\((∃ x,ShB z hs1 h2 kt kg x/\FrT H' v x)\/(v=.non/\IsNone z hs1 h2 kt kg)),?_,?_⟩
 ·exact ⟨_,rfl,_,rfl,_,rfl,b1,v2,xs1,hs1,h2,z,far,kt,kg,rfl,hz,B1.to1 L e05,kt1,hs2' e05,g2,L5,λ x H' u X e L' hu=>⟨u,rfl,e,L',.inl ⟨x,X,hu⟩⟩,λ H' N e L'=>⟨_,rfl,e,L',.inr ⟨rfl,N⟩⟩⟩
 intro σ6 H6 hM_; refine E9 λ G_ hG_=>?_; obtain ⟨w1,rfl,e6,L6,O1⟩:=hM_; subst hG_;have e06:=e05.trans e6;refine ⟨λ σ' H'=>∃ v,σ'=[some (.ref b1),some (.ref b2),some (.int (i2':Int)),some (.str z),some v1,some v2,some u1,some u2,some c,some w1,some v]/\Same1 Pt H6 H'/\LT Pt H'/\((∃ x,ShB z hs2 h1 kt kg x/\FrT H' v x)\/(v=.non/\IsNone z hs2 h1 kt kg)),?_,?_⟩
 ·exact ⟨_,rfl,_,rfl,_,rfl,b2,v1,xs2,hs2,h1,z,far,kt,kg,rfl,hz,B2.to1 L e06,kt1,hs1' e06,g1,L6,λ x H' u X e L' hu=>⟨u,rfl,e,L',.inl ⟨x,X,hu⟩⟩,λ H' N e L'=>⟨_,rfl,e,L',.inr ⟨rfl,N⟩⟩⟩
 intro σ7 H7 hM_; refine E9 λ G_ hG_=>?_; obtain ⟨w2,rfl,e7,L7,O2⟩:=hM_; subst hG_;have e57:=e6.trans e7;have e07:=e06.trans e7;have hc7:FrT H7 c (qd x2 x1):=hc.to1 L5 e57;have none_end:(IsNone z hs1 h2 kt kg\/IsNone z hs2 h1 kt kg)->∀ t,H7 t=none->Q (.ref t) (upd H7 t (.tup [c,.non])):=λ N t ht=>by
  have t8:=Same.new ht (.tup [c,.non]);exact kN x1 x2 _ t c X1 X2 N (e07.trans t8.to1) (L7.same t8) upd_same (hc7.same t8)
 rcases O1 with ⟨y1,Y1,hw1⟩ | ⟨rfl,N1⟩
 ·obtain ⟨wa,rfl,hwa⟩:=id hw1
  refine ⟨_,rfl,rfl,_,rfl,a1Q ?_⟩;rcases O2 with ⟨y2,Y2,hw2⟩ | ⟨rfl,N2⟩
  ·obtain ⟨wb,rfl,hwb⟩:=id hw2
   refine ⟨_,rfl,rfl,_,rfl,a1Q ?_⟩;refine ⟨_,rfl,_,rfl,_,rfl,.ref wa,u2,y1,x2,rfl,(hw1.to1 L6 e7).v,(fr hu2 e57).v,Y1.b.mono (by decide),X2.b.mono (by decide),λ r1 H8 e8 hr1=>?_⟩;refine ⟨_,rfl,_,rfl,u1,.ref wb,x1,y2,rfl,((fr hu1' e57).same e8).v,(hw2.same e8).v,X1.b.mono (by decide),Y2.b.mono (by decide),λ r2 H9 e9 hr2=>?_⟩;refine ⟨r1,r2,qd y1 x2,qd x1 y2,rfl,(hr1.same e9).v,hr2.v,(Y1.b.div X2.b).mono (by decide),(X1.b.div Y2.b).mono (by decide),λ r H10 e10 hr=>?_⟩;refine ⟨(by show 2<=sizeLine; decide),λ t ht=>?_⟩;have t11:=Same.new ht (.tup [c,r]);have e811:=e8.trans (e9.trans (e10.trans t11));exact kG x1 x2 y1 y2 _ t c r X1 X2 Y1 Y2 (e07.trans e811.to1) (L7.same e811) upd_same (hc7.same e811) (hr.same t11)
  ·refine ⟨_,rfl,rfl,_,rfl,a1N ?_⟩
   exact ⟨_,rfl,(by show 2<=sizeLine; decide),λ t ht=>none_end (.inr N2) t ht⟩
 ·refine ⟨_,rfl,rfl,_,rfl,a1N ?_⟩
  refine a1N ?_;exact ⟨_,rfl,(by show 2<=sizeLine; decide),λ t ht=>none_end (.inl N1) t ht⟩
end
end Rim
set_option maxHeartbeats 1000000
namespace L2
open PySem PySem.Spec PyProof.Rows
abbrev V5 (h:aG) (z ti to:aA) (f0:aC) (f1:Bool):Prop :=
 h.get? z=some { cls:=.type "zip",dict:=none,data:=.fields #[f0,.bool f1,.bool false,.ref ti,.ref to],slots:=#[] }
def Zf (v:aC):Prop:=v=.none\/∃ a:Nat,v=rawInt a
section
variable {prog:aL} {w:aI} {A:aY} {E:aC->aD->Prop} {s:aD}
theorem a4U {a:aA} {Q:Option Obj->aD->Prop} (h:Q (s.heap.get? a) s):wpAny (model prog w) A (loadIfAlive a) Q E s:=λ Γ p _=>by
 show Sem.wp (model prog w) Γ (.loadIfAlive a .pure) _ _ p s
 rw [Sem.wp_loadIfAlive];exact h
theorem a7k {z ti to:aA} {f0:aC} {f1:Bool} {Q:Bool->aD->Prop} (q0:V5 s.heap z ti to f0 f1) (z0:Zf f0) (h1:Q true s) (h2:∀ h',V5 h' z ti to f0 true->iX z s.heap h'->Q false { s with heap:=h' }) :
  wpAny (model prog w) A (gK (.ref z)) Q E s:=by
 unfold gK;refine aF (cA q0 rfl (x:=f0) rfl ?_);rcases z0 with rfl | ⟨a,rfl⟩
 ·exact aT h1
 ·show wpAny _ _ (loadIfAlive (a:Int).toNat >>= _) _ _ s
  refine aF (a4U ?_)
  cases hg:s.heap.get? (a:Int).toNat with
  | none=>exact aT h1
  | some o =>
   show wpAny _ _ (field (.ref z) 1 >>= _) _ _ s
   refine aF (cA q0 rfl (x:=.bool f1) rfl ?_)
   cases f1 with
   | true=>exact aT (h2 s.heap q0 ⟨rfl,λ _ _=>rfl⟩)
   | false =>
    show wpAny _ _ (setField (.ref z) 1 (.bool true) >>= _) _ _ s
    exact aF (dW q0 (by simp) λ u1 z1 s1=>aT (h2 u1 z1 s1))
theorem b1A {b1 b2:Bool} {z ti to j1 j2 t1 t2:aA} {k1 k2:Nat} {f0:aC} {f1:Bool} {xs ys:Array aC} {x y a b:aC} {Q:aC->aD->Prop} (D:fD z ti to j1 j2 t1 t2)
  (q0:V5 s.heap z ti to f0 f1) (z0:Zf f0) (p1:bH s.heap ti (.ref j1) (.ref j2)) (p2:bH s.heap to a b)
  (i1:ItB b1 s.heap j1 t1 k1) (i2:ItB b2 s.heap j2 t2 k2) (l1:IsB b1 s.heap t1 xs) (l2:IsB b2 s.heap t2 ys) (ex:xs[k1]?=some x) (ey:ys[k2]?=some y)
  (q:∀ h' f0' f1' a' b',V5 h' z ti to f0' f1'->Zf f0'->bH h' to a' b'->ItB b1 h' j1 t1 (k1+1)->ItB b2 h' j2 t2 (k2+1)->bH h' s.heap.objs.size x y->h'.objs.size=s.heap.objs.size+1 →
   (∀ c o,c≠z->c≠to->c≠j1->c≠j2->s.heap.get? c=some o->h'.get? c=some o)->Q (.ref s.heap.objs.size) { s with heap:=h' }) :
  wpAny (model prog w) A (gH.«zip.__next__» ⟨[.ref z],[]⟩) (λ fin s'=>∃ v,fin=.done (.ret v)/\Q v s') E s:=by
 show wpAny _ _ (field (.ref z) 2 >>= _) _ _ _
 refine aF (cA q0 rfl (x:=.bool false) rfl (show wpAny _ _ (field (.ref z) 3 >>= _) _ _ _ from aF (cA q0 rfl (x:=.ref ti) rfl (aF (eM p1 rfl ?_)))))
 show wpAny _ _ (do let free <- gK (.ref z); _) _ _ _
 refine aF (a7k q0 z0 ?_ λ v1 z1 s1=>?_)
 ·simp only [if_true]
  refine aF (iD (aF (cA q0 rfl (x:=.ref to) rfl (aF (dW q0 (by simp) λ u1 z1 s1=>?_)))));have z1':V5 u1 z ti to .ellipsis f1:=z1;refine aF ?_;simp only [nR,nU,iM,jH];refine aF (aF (gM (show wpAny _ _ (cP (.ref j1) >>= _) _ _ _ from aF (J3 (i1.extBut s1.extBut D.i1z) (l1.extBut s1.extBut D.l1z) ex λ u2 j1' s2=>aT ?_))));have to2:bH u2 to a b:=s2.extBut _ _ D.TOi1 (s1.extBut _ _ D.TOz p2);refine aF (eM to2 rfl (aF (kA to2 λ u3 to3 s3=>aF (fW (aT ?_)))));have to3':bH u3 to x b:=to3;refine aF (aF (gM (show wpAny _ _ (cP (.ref j2) >>= _) _ _ _ from aF (J3 (((i2.extBut s1.extBut D.i2z).extBut s2.extBut D.i12.symm).extBut s3.extBut D.TOi2.symm)
   (((l2.extBut s1.extBut D.l2z).extBut s2.extBut D.l2i1).extBut s3.extBut D.l2TO) ey λ u4 j2' s4=>aT ?_))))
  have to4:bH u4 to x b:=s4.extBut _ _ D.TOi2 to3';refine aF (eM to4 rfl (aF (kA to4 λ u5 to5 s5=>aF (fW (aT (aT ?_))))));have to5':bH u5 to x y:=to5;refine aF (eM to5' rfl (aF (nV ?_)));have sz:u5.objs.size=s.heap.objs.size:=by rw [s5.1,s4.1,s3.1,s2.1,s1.1]
  have z5:V5 u5 z ti to .ellipsis f1:=s5.extBut _ _ D.TOz.symm (s4.extBut _ _ D.i2z.symm (s3.extBut _ _ D.TOz.symm (s2.extBut _ _ D.i1z.symm z1')));have kp:∀ c o,c≠z->c≠to->c≠j1->c≠j2->s.heap.get? c=some o->u5.get? c=some o:=λ c o n1 n2 n3 n4 e=>s5.extBut _ _ n2 (s4.extBut _ _ n4 (s3.extBut _ _ n2 (s2.extBut _ _ n3 (s1.extBut _ _ n1 e))));have a1:ItB b1 u5 j1 t1 (k1+1):=((j1'.extBut s3.extBut D.TOi1.symm).extBut s4.extBut D.i12).extBut s5.extBut D.TOi1.symm;have a2:ItB b2 u5 j2 t2 (k2+1):=j2'.extBut s5.extBut D.TOi2.symm;have zl:z<u5.objs.size:=bC z5
  show wpAny _ _ (do let r <- kF (.ref z) (.ref u5.objs.size); _) _ _ _
  unfold kF;have z6:V5 (u5.push { cls:=.type "tuple",data:=.seq #[x,y] }) z ti to .ellipsis f1:=bE _ z5;refine aF (aF (dW z6 (by simp) λ u7 z7 s7=>?_));have z7':V5 u7 z ti to (rawInt u5.objs.size) f1:=z7;refine dW z7' (by simp) λ u8 z8 s8=>?_;have z8':V5 u8 z ti to (rawInt u5.objs.size) false:=z8;have up:∀ c o,c≠z->u5.get? c=some o->u8.get? c=some o:=λ c o n1 e=>s8.extBut _ _ n1 (s7.extBut _ _ n1 (bE _ e));have nt8:bH u8 u5.objs.size x y:=s8.extBut _ _ (eH zl) (s7.extBut _ _ (eH zl) (cI _ rfl));have sz8:u8.objs.size=s.heap.objs.size+1:=by rw [s8.1,s7.1,eQ,sz]
  rw [sz] at z8' nt8;refine aT ⟨_,rfl,?_⟩
  show Q (.ref u5.objs.size) _
  rw [sz];exact q u8 _ _ _ _ z8' (.inr ⟨_,rfl⟩) (up _ _ D.TOz to5') (ItB.at' a1 λ o e=>up _ o D.i1z e) (ItB.at' a2 λ o e=>up _ o D.i2z e) nt8 sz8 λ c o n1 n2 n3 n4 e=>up c o n1 (kp c o n1 n2 n3 n4 e)
 ·simp only [nA,if_false]
  rw [wL];simp only [iM,jH];refine aF (aF (aF (fK (show wpAny _ _ (cP (.ref j1) >>= _) _ _ _ from aF (J3 (i1.extBut s1.extBut D.i1z) (l1.extBut s1.extBut D.l1z) ex λ u2 j1' s2=>aT ?_)))));refine aT ?_;refine aF (aF (fK (show wpAny _ _ (cP (.ref j2) >>= _) _ _ _ from aF (J3 ((i2.extBut s1.extBut D.i2z).extBut s2.extBut D.i12.symm) ((l2.extBut s1.extBut D.l2z).extBut s2.extBut D.l2i1) ey λ u3 j2' s3=>aT ?_))));refine aT (aT (aF (nV ?_ (by show 2<=sizeLine; decide))));have sz:u3.objs.size=s.heap.objs.size:=by rw [s3.1,s2.1,s1.1]
  have z3:V5 u3 z ti to f0 true:=s3.extBut _ _ D.i2z.symm (s2.extBut _ _ D.i1z.symm z1);have kp:∀ c o,c≠z->c≠j1->c≠j2->s.heap.get? c=some o->u3.get? c=some o:=λ c o n1 n3 n4 e=>s3.extBut _ _ n4 (s2.extBut _ _ n3 (s1.extBut _ _ n1 e));have a1:ItB b1 u3 j1 t1 (k1+1):=j1'.extBut s3.extBut D.i12;have up:∀ c o,u3.get? c=some o->(u3.push { cls:=.type "tuple",data:=.seq #[x,y] }).get? c=some o:=λ c o e=>bE _ e;have nt:bH (u3.push { cls:=.type "tuple",data:=.seq #[x,y] }) s.heap.objs.size x y:=by rw [<- sz]; exact cI _ rfl
  have sz8:(u3.push { cls:=.type "tuple",data:=.seq #[x,y] }).objs.size=s.heap.objs.size+1:=by rw [eQ,sz]
  refine aT ⟨_,rfl,?_⟩
  show Q (.ref u3.objs.size) _
  rw [sz];exact q _ f0 true a b (up _ _ z3) z0 (up _ _ (kp _ _ D.TOz D.TOi1 D.TOi2 p2)) (ItB.at' a1 λ o e=>up _ o e) (ItB.at' j2' λ o e=>up _ o e) nt sz8 λ c o n1 _ n3 n4 e=>up _ _ (kp c o n1 n3 n4 e)
theorem b3h {b1 b2:Bool} {z ti to j1 j2 t1 t2:aA} {k1 k2:Nat} {f0:aC} {f1:Bool} {xs ys:Array aC} {a b:aC} {Q:lQ->aD->Prop} (hh:A.handled=none) (D:fD z ti to j1 j2 t1 t2)
  (q0:V5 s.heap z ti to f0 f1) (z0:Zf f0) (p1:bH s.heap ti (.ref j1) (.ref j2)) (p2:bH s.heap to a b)
  (i1:ItB b1 s.heap j1 t1 k1) (i2:ItB b2 s.heap j2 t2 k2) (l1:IsB b1 s.heap t1 xs) (l2:IsB b2 s.heap t2 ys) (en:xs[k1]?=none\/ys[k2]?=none)
  (q:∀ h' e,(∀ c o,c≠z->c≠to->c≠j1->c≠j2->s.heap.get? c=some o->h'.get? c=some o)->(∃ o,h'.get? e=some o/\o.cls=.type "StopIteration")->E (.ref e) { s with heap:=h' }) :
  wpAny (model prog w) A (gH.«zip.__next__» ⟨[.ref z],[]⟩) Q E s:=by
 show wpAny _ _ (field (.ref z) 2 >>= _) _ _ _
 refine aF (cA q0 rfl (x:=.bool false) rfl (show wpAny _ _ (field (.ref z) 3 >>= _) _ _ _ from aF (cA q0 rfl (x:=.ref ti) rfl (aF (eM p1 rfl ?_)))))
 show wpAny _ _ (do let free <- gK (.ref z); _) _ _ _
 refine aF (a7k q0 z0 ?_ λ v1 z1 s1=>?_)
 ·simp only [if_true]
  refine aF (iD (aF (cA q0 rfl (x:=.ref to) rfl (aF (dW q0 (by simp) λ u1 z1 s1=>?_)))));have z1':V5 u1 z ti to .ellipsis f1:=z1;refine aF ?_;simp only [nR,nU,iM,jH]
  cases ex:xs[k1]? with
  | none =>
   refine aF (aF (gM (show wpAny _ _ (cP (.ref j1) >>= _) _ _ _ from aF (S5 hh (i1.extBut s1.extBut D.i1z) (l1.extBut s1.extBut D.l1z) ex λ u2 e s2 ⟨oe,e1,e2⟩=>?_))));have z2:V5 u2 z ti to .ellipsis f1:=s2 _ _ D.i1z.symm z1';have ne:e≠z:=λ c=>by subst c; rw [z2] at e1; cases e1; simp at e2
   exact dW z2 (by simp) λ u3 _ s3=>q u3 e (λ c o n1 _ n3 _ m=>s3.extBut _ _ n1 (s2 _ _ n3 (s1.extBut _ _ n1 m))) ⟨oe,s3.extBut _ _ ne e1,e2⟩
  | some x =>
   have ey:ys[k2]?=none:=by
    rcases en with m | m
    ·rw [ex] at m; cases m
    ·exact m
   refine aF (aF (gM (show wpAny _ _ (cP (.ref j1) >>= _) _ _ _ from aF (J3 (i1.extBut s1.extBut D.i1z) (l1.extBut s1.extBut D.l1z) ex λ u2 j1' s2=>aT ?_))));have to2:bH u2 to a b:=s2.extBut _ _ D.TOi1 (s1.extBut _ _ D.TOz p2);refine aF (eM to2 rfl (aF (kA to2 λ u3 to3 s3=>aF (fW (aT ?_)))));refine aF (aF (gM (show wpAny _ _ (cP (.ref j2) >>= _) _ _ _ from aF (S5 hh (((i2.extBut s1.extBut D.i2z).extBut s2.extBut D.i12.symm).extBut s3.extBut D.TOi2.symm)
    (((l2.extBut s1.extBut D.l2z).extBut s2.extBut D.l2i1).extBut s3.extBut D.l2TO) ey λ u4 e s4 ⟨oe,e1,e2⟩=>?_))))
   have z4:V5 u4 z ti to .ellipsis f1:=s4 _ _ D.i2z.symm (s3.extBut _ _ D.TOz.symm (s2.extBut _ _ D.i1z.symm z1'));have ne:e≠z:=λ c=>by subst c; rw [z4] at e1; cases e1; simp at e2
   exact dW z4 (by simp) λ u5 _ s5=>q u5 e (λ c o n1 n2 n3 n4 m=>s5.extBut _ _ n1 (s4 _ _ n4 (s3.extBut _ _ n2 (s2.extBut _ _ n3 (s1.extBut _ _ n1 m))))) ⟨oe,s5.extBut _ _ ne e1,e2⟩
 ·simp only [nA,if_false]
  rw [wL];simp only [iM,jH]
  cases ex:xs[k1]? with
  | none =>
   exact aF (aF (aF (fK (show wpAny _ _ (cP (.ref j1) >>= _) _ _ _ from aF (S5 hh (i1.extBut s1.extBut D.i1z) (l1.extBut s1.extBut D.l1z) ex λ u2 e s2 r=>q u2 e (λ c o n1 _ n3 _ m=>s2 _ _ n3 (s1.extBut _ _ n1 m)) r)))))
  | some x =>
   have ey:ys[k2]?=none:=by
    rcases en with m | m
    ·rw [ex] at m; cases m
    ·exact m
   refine aF (aF (aF (fK (show wpAny _ _ (cP (.ref j1) >>= _) _ _ _ from aF (J3 (i1.extBut s1.extBut D.i1z) (l1.extBut s1.extBut D.l1z) ex λ u2 j1' s2=>aT ?_)))));refine aT ?_;exact aF (aF (fK (show wpAny _ _ (cP (.ref j2) >>= _) _ _ _ from aF (S5 hh ((i2.extBut s1.extBut D.i2z).extBut s2.extBut D.i12.symm) ((l2.extBut s1.extBut D.l2z).extBut s2.extBut D.l2i1) ey λ u3 e s3 r=>q u3 e (λ c o n1 _ n3 n4 m=>s3 _ _ n4 (s2.extBut _ _ n3 (s1.extBut _ _ n1 m))) r))))
theorem b1Q {b1 b2:Bool} {z ti to j1 j2 t1 t2:aA} {k1 k2:Nat} {f0:aC} {f1:Bool} {xs ys:Array aC} {x y a b:aC} {Q:aC->aD->Prop} (D:fD z ti to j1 j2 t1 t2)
  (q0:V5 s.heap z ti to f0 f1) (z0:Zf f0) (p1:bH s.heap ti (.ref j1) (.ref j2)) (p2:bH s.heap to a b)
  (i1:ItB b1 s.heap j1 t1 k1) (i2:ItB b2 s.heap j2 t2 k2) (l1:IsB b1 s.heap t1 xs) (l2:IsB b2 s.heap t2 ys) (ex:xs[k1]?=some x) (ey:ys[k2]?=some y)
  (q:∀ h' f0' f1' a' b',V5 h' z ti to f0' f1'->Zf f0'->bH h' to a' b'->ItB b1 h' j1 t1 (k1+1)->ItB b2 h' j2 t2 (k2+1)->bH h' s.heap.objs.size x y->h'.objs.size=s.heap.objs.size+1 →
   (∀ c o,c≠z->c≠to->c≠j1->c≠j2->s.heap.get? c=some o->h'.get? c=some o)->Q (.ref s.heap.objs.size) { s with heap:=h' }) :
  wpAny (model prog w) A (cP (.ref z)) Q E s:=by
 have ty:s.TypeIs (.ref z) "zip":=⟨_,q0,rfl⟩;unfold cP;exact aF (iP (name:=gJ "__next__") ty iR (iQ iR ty nY
  (b1A D q0 z0 p1 p2 i1 i2 l1 l2 ex ey λ h' f0' f1' a' b' c1 c2 c3 c4 c5 c6 c7 c8=>aT (q h' f0' f1' a' b' c1 c2 c3 c4 c5 c6 c7 c8)) (nZ _)))
theorem b1e {b1 b2:Bool} {z ti to j1 j2 t1 t2:aA} {k1 k2:Nat} {f0:aC} {f1:Bool} {xs ys:Array aC} {a b:aC} {Q:aC->aD->Prop} (hh:A.handled=none) (D:fD z ti to j1 j2 t1 t2)
  (q0:V5 s.heap z ti to f0 f1) (z0:Zf f0) (p1:bH s.heap ti (.ref j1) (.ref j2)) (p2:bH s.heap to a b)
  (i1:ItB b1 s.heap j1 t1 k1) (i2:ItB b2 s.heap j2 t2 k2) (l1:IsB b1 s.heap t1 xs) (l2:IsB b2 s.heap t2 ys) (en:xs[k1]?=none\/ys[k2]?=none)
  (q:∀ h' e,(∀ c o,c≠z->c≠to->c≠j1->c≠j2->s.heap.get? c=some o->h'.get? c=some o)->(∃ o,h'.get? e=some o/\o.cls=.type "StopIteration")->E (.ref e) { s with heap:=h' }) :
  wpAny (model prog w) A (cP (.ref z)) Q E s:=by
 have ty:s.TypeIs (.ref z) "zip":=⟨_,q0,rfl⟩;unfold cP;exact aF (iP (name:=gJ "__next__") ty iR (iQ iR ty nY
  (b3h hh D q0 z0 p1 p2 i1 i2 l1 l2 en q) (nZ _)))
theorem b0X {e it:aA} {i:Nat} {old:aC} {G:aC->aG->Prop} {Q:Option aC->aD->Prop} (he:eX s.heap e it i old)
  (hn:∀ (Q':aC->aD->Prop) (E':aC->aD->Prop),(∀ x h',eX h' e it i old->G x h'->Q' x { s with heap:=h' })->wpAny (model prog w) A.in1 (cP (.ref it)) Q' E' s)
  (hQ:∀ x h1 h' tk,G x h1->rB h' e it ((i:Int)+1) x h1.objs.size->h'.get? h1.objs.size=some { cls:=.type "tuple",data:=.seq #[.int i tk,x] }->(∀ b o,b≠e->h1.get? b=some o->h'.get? b=some o)->Q (some (.ref h1.objs.size)) { s with heap:=h',toks:=tk+1 }) :
  wpAny (model prog w) A (pyNext (.ref e)) Q E s:=by
 have hT:s.TypeIs (.ref e) "enumerate":=⟨_,he,rfl⟩;unfold pyNext;refine aF (nX (iP (name:=gJ "__next__") hT oP (iQ oP hT wM ?_ (wN _))))
 show wpAny _ _ (field (.ref e) 2 >>= _) _ _ _
 refine aF (cA he rfl (x:=.ref it) rfl ?_);refine aF (hn _ _ λ x h1 he1 g=>?_);obtain ⟨hp,gg,d,tk,os⟩:=s
 show wpAny _ _ (field (.ref e) 3 >>= _) _ _ ⟨h1,gg,d,tk,os⟩
 refine aF (cA he1 rfl (x:=rawInt i) rfl ?_)
 show wpAny _ _ (field (.ref e) 4 >>= _) _ _ ⟨h1,gg,d,tk,os⟩
 refine aF (cA he1 rfl (x:=.none) rfl ?_)
 show wpAny _ _ (mkInt i >>= _) _ _ ⟨h1,gg,d,tk,os⟩
 refine aF (wpAny_mkInt ?_)
 show wpAny _ _ (setField (.ref e) 3 (rawInt ((i:Int)+1)) >>= _) _ _ ⟨h1,gg,d,tk+1,os⟩
 refine aF (dW he1 (by simp) λ h2 he2 s2=>?_);have he2':eX h2 e it ((i:Int)+1) old:=he2
 show wpAny _ _ (setField (.ref e) 4 .none >>= _) _ _ ⟨h2,gg,d,tk+1,os⟩
 refine aF (dW he2' (by simp) λ h3 he3 s3=>?_);have he3':eX h3 e it ((i:Int)+1) old:=he3
 show wpAny _ _ (newTuple [.int i tk,x] >>= _) _ _ ⟨h3,gg,d,tk+1,os⟩
 refine aF (nV ?_);have he4:eX (h3.push { cls:=.type "tuple",data:=.seq #[.int i tk,x] }) e it ((i:Int)+1) old:=bE _ he3';have sz:h3.objs.size=h1.objs.size:=by rw [s3.1,s2.1]
 have el:e<h1.objs.size:=bC he1;have tt:(h3.push { cls:=.type "tuple",data:=.seq #[.int i tk,x] }).get? h1.objs.size=some { cls:=.type "tuple",data:=.seq #[.int i tk,x] }:=by rw [<- sz]; exact cI _ rfl
 have kp:∀ b o,b≠e->h1.get? b=some o->(h3.push { cls:=.type "tuple",data:=.seq #[.int i tk,x] }).get? b=some o:=λ b o nb q=>bE _ (s3.extBut b o nb (s2.extBut b o nb q))
 show wpAny _ _ (gK (.ref e) >>= _) _ _ ⟨h3.push { cls:=.type "tuple",data:=.seq #[.int i tk,x] },gg,d,tk+1,os⟩
 rw [sz];generalize h3.push { cls:=.type "tuple",data:=.seq #[.int i tk,x] }=h4 at *;refine aF ?_;unfold gK;refine aF (cA he4 rfl (x:=.none) rfl (aT ?_));simp only [if_true];refine aF (iD (aF (cA he4 rfl (x:=old) rfl (aF (dW he4 (by simp) λ h5 he5 s5=>?_)))));have he5':eX h5 e it ((i:Int)+1) x:=he5
 show wpAny _ _ (kF (.ref e) (.ref h1.objs.size) >>= _) _ _ ⟨h5,gg,d,tk+1,os⟩
 refine aF ?_;unfold kF;refine aF (dW he5' (by simp) λ h6 he6 s6=>?_);have he6':rB h6 e it ((i:Int)+1) x h1.objs.size:=he6;refine dW he6' (by simp) λ h7 he7 s7=>?_;have he7':rB h7 e it ((i:Int)+1) x h1.objs.size:=he7;have up:∀ b o,b≠e->h4.get? b=some o->h7.get? b=some o:=λ b o nb q=>s7.extBut b o nb (s6.extBut b o nb (s5.extBut b o nb q));exact aF (fW (aT ⟨_,rfl,aT (hQ x h1 h7 tk g he7' (up _ _ (eH el) tt) λ b o nb q=>up b o nb (kp b o nb q))⟩))
theorem b2Q {e it:aA} {i:Int} {old:aC} {Q:Option aC->aD->Prop} (he:eX s.heap e it i old)
  (hn:∀ (Q':aC->aD->Prop) (E':aC->aD->Prop),(∀ h' x,(∃ o,h'.get? x=some o/\o.cls=.type "StopIteration")->Q none { s with heap:=h' }->E' (.ref x) { s with heap:=h' })->wpAny (model prog w) A.in1 (cP (.ref it)) Q' E' s) :
  wpAny (model prog w) A (pyNext (.ref e)) Q E s:=by
 have hT:s.TypeIs (.ref e) "enumerate":=⟨_,he,rfl⟩;unfold pyNext;refine aF (nX (iP (name:=gJ "__next__") hT oP (iQ oP hT wM ?_ (wN _))))
 show wpAny _ _ (field (.ref e) 2 >>= _) _ _ _
 refine aF (cA he rfl (x:=.ref it) rfl ?_);refine aF (hn _ _ λ h' x ⟨o,ho,hc⟩ q=>?_);exact aF (uM (T:="StopIteration") (b:=true) ⟨o,ho,hc⟩ uN (aT q))
end
def Itz (b1 b2:Bool) (K:aE) (l1 l2:aA):It :=
  ⟨(Itg b1 b2 K l1 l2).go,
   λ i H x H'=>∃ p r a b,H r=none/\(upd H r (.tup [a,b])) p=none/\x=.ref p/\H'=upd (upd H r (.tup [a,b])) p (.tup [.int (i:Int),.ref r])/\∀ xs ys,SqB b1 K H l1 xs->SqB b2 K H l2 ys->xs[i]?=some a/\ys[i]?=some b,
   (Itg b1 b2 K l1 l2).stop⟩
theorem b1m {b1 b2:Bool} {P:aL} {w:aI} {K:aE} {elts:List aN} {x1:Nat} {pos:Pos} {e z ti to j1 j2 l1 l2:aA} (D:fD z ti to j1 j2 l1 l2) (hne:∀ c∈[z,ti,to,j1,j2,l1,l2],c≠e) :
  a4E P w K (.Tuple elts x1 pos) (Itz b1 b2 K l1 l2) [e,z,ti,to,j1,j2] e (λ i h=>(∃ old,eX h e z (i:Int) old)/\(∃ f0 f1,V5 h z ti to f0 f1/\Zf f0)/\bH h ti (.ref j1) (.ref j2)/\(∃ a b,bH h to a b)/\ItB b1 h j1 l1 i/\ItB b2 h j2 l2 i) where
 mem:=by simp
 obj:=λ i h st c hb=>by
  obtain ⟨⟨old,he⟩,⟨f0,f1,hz,z0⟩,hti,⟨a,b,hto⟩,h1,h2⟩:=st;obtain ⟨o1,e1,v1,d1⟩:=h1.obj;obtain ⟨o2,e2,v2,d2⟩:=h2.obj;simp only [bD,bX,or_false] at hb;rcases hb with rfl | rfl | rfl | rfl | rfl | rfl
  ·exact ⟨_,he,λ v q=>by cases q⟩
  ·exact ⟨_,hz,λ v q=>by cases q⟩
  ·exact ⟨_,hti,λ v q=>by cases q⟩
  ·exact ⟨_,hto,λ v q=>by cases q⟩
  ·exact ⟨o1,e1,λ v q=>by rw [d1] at q; cases q⟩
  ·exact ⟨o2,e2,λ v q=>by rw [d2] at q; cases q⟩
 keep:=λ i h h' st k=>by
  obtain ⟨⟨old,he⟩,⟨f0,f1,hz,z0⟩,hti,⟨a,b,hto⟩,h1,h2⟩:=st;exact ⟨⟨old,k e (by simp) _ he⟩,⟨f0,f1,k z (by simp) _ hz,z0⟩,k ti (by simp) _ hti,⟨a,b,k to (by simp) _ hto⟩,ItB.at' h1 λ o q=>k j1 (by simp) o q,ItB.at' h2 λ o q=>k j2 (by simp) o q⟩
 item:=by
  intro X hP hw hK hc i pins s σ H E I hf st hg;subst hP hw hK;obtain ⟨xs,ys,x,y,hq1,hq2,hx,hy⟩:=hg;obtain ⟨⟨old,he⟩,⟨f0,f1,hz,z0⟩,hti,⟨a,b,hto⟩,h1,h2⟩:=st;obtain ⟨its1,rv1,p1,_⟩:=I.sqB hq1;obtain ⟨its2,rv2,p2,_⟩:=I.sqB hq2;obtain ⟨u1,hu1,ru1⟩:=rv1.get hx;obtain ⟨u2,hu2,ru2⟩:=rv2.get hy;have nE:∀ {c:aA},c∈[z,ti,to,j1,j2,l1,l2]->c≠e:=λ hb=>hne _ hb;refine b0X (it:=z) (G:=λ v h'=>v=.ref s.heap.objs.size/\(∃ f0 f1,V5 h' z ti to f0 f1/\Zf f0)/\(∃ a b,bH h' to a b)/\ItB b1 h' j1 l1 (i+1)/\ItB b2 h' j2 l2 (i+1)/\bH h' s.heap.objs.size u1 u2/\h'.objs.size=s.heap.objs.size+1/\eX h' e z i old ∧
   ∀ c o,c≠z->c≠to->c≠j1->c≠j2->s.heap.get? c=some o->h'.get? c=some o) he (λ Q' E' k=>b1Q D hz z0 hti hto h1 h2 p1 p2 (x:=u1) (y:=u2) (by simpa using hu1) (by simpa using hu2) λ h' f0' f1' a' b' c1 c2 c3 c4 c5 c6 c7 c8=>?_) ?_
  ·have he':eX h' e z i old:=c8 e _ (nE (by simp)).symm (nE (by simp)).symm (nE (by simp)).symm (nE (by simp)).symm he
   exact k _ h' he' ⟨rfl,⟨f0',f1',c1,c2⟩,⟨a',b',c3⟩,c4,c5,c6,c7,he',c8⟩
  ·rintro v g1 h' tk ⟨rfl,⟨f0',f1',c1,c2⟩,⟨a',b',c3⟩,c4,c5,c6,c7,he1,c8⟩ hout htup kp
   refine ⟨_,rfl,qG (s:={ s with heap:=h',toks:=tk+1 }) hout λ h'' he'' hs''=>?_⟩;have inS:∀ b∈[e,z,ti,to,j1,j2],∃ o,s.heap.get? b=some o:=λ b hb=>by
    obtain ⟨o1,e1,_⟩:=h1.obj;obtain ⟨o2,e2,_⟩:=h2.obj;simp only [bD,bX,or_false] at hb;rcases hb with rfl | rfl | rfl | rfl | rfl | rfl
    ·exact ⟨_,he⟩
    ·exact ⟨_,hz⟩
    ·exact ⟨_,hti⟩
    ·exact ⟨_,hto⟩
    ·exact ⟨_,e1⟩
    ·exact ⟨_,e2⟩
   have neT:∀ b∈[e,z,ti,to,j1,j2],b≠s.heap.objs.size:=λ b hb q=>by
    obtain ⟨o,ho⟩:=inS b hb;exact absurd (bC ho) (by rw [q]; exact cN _)
   have gti:g1.get? ti=_:=c8 ti _ D.TIz D.TITO D.TIi1 D.TIi2 hti;have I1:Inv X pins σ (upd H s.heap.objs.size (.tup [x,y])) { s with heap:=g1 }:=by
    refine I.turnedLaid (h':=g1) (fp:=[e,z,ti,to,j1,j2]) hf (λ c o hb q=>?_) (λ c hb=>?_) (aU _) (by show 2<=sizeLine; decide) (show Vals [x,y] [u1,u2] from .cons ru1 (.cons ru2 .nil)) ⟨_,c6,rfl,0,rfl⟩
    ·simp only [bD,bX,or_false,not_or] at hb
     exact c8 c o hb.2.1 hb.2.2.2.1 hb.2.2.2.2.1 hb.2.2.2.2.2 q
    ·obtain ⟨o1,e1,_⟩:=c4.obj
     obtain ⟨o2,e2,_⟩:=c5.obj;simp only [bD,bX,or_false] at hb;rcases hb with rfl | rfl | rfl | rfl | rfl | rfl
     ·exact ⟨_,he1⟩
     ·exact ⟨_,c1⟩
     ·exact ⟨_,gti⟩
     ·exact ⟨_,c3⟩
     ·exact ⟨_,e1⟩
     ·exact ⟨_,e2⟩
   have hf1:∀ b∈[e,z,ti,to,j1,j2],T3 X pins (upd H s.heap.objs.size (.tup [x,y])) b:=λ b hb=>⟨by rw [i7 (neT b hb)]; exact (hf b hb).1,(hf b hb).2⟩;have el1:e<g1.objs.size:=bC he1;have up:∀ c o,c≠e->g1.get? c=some o->h''.get? c=some o:=λ c o nc q=>hs''.extBut c o nc (kp c o nc q);have neT2:∀ b∈[e,z,ti,to,j1,j2],b≠g1.objs.size:=λ b hb q=>by
    obtain ⟨o,ho⟩:=inS b hb;exact absurd (bC ho) (by rw [q,c7]; exact wI.mpr (mX _))
   have I2:Inv X pins σ (upd (upd H s.heap.objs.size (.tup [x,y])) g1.objs.size (.tup [.int (i:Int),.ref s.heap.objs.size])) { s with heap:=h'',toks:=tk+1 }:=by
    refine (Inv.tok (I1.turnedLaid (h':=h'') (fp:=[e,z,ti,to,j1,j2]) hf1 (λ c o hb q=>?_) (λ c hb=>?_) (aU _) (by show 2<=sizeLine; decide) (show Vals [.int (i:Int),.ref s.heap.objs.size] [fR (i:Int) tk,.ref s.heap.objs.size] from .cons ⟨_,rfl⟩ (.cons rfl .nil)) ⟨_,hs''.extBut _ _ (eH el1) htup,rfl,0,rfl⟩) _)
    ·simp only [bD,bX,or_false,not_or] at hb
     exact up c o hb.1 q
    ·obtain ⟨o1,e1,_⟩:=c4.obj
     obtain ⟨o2,e2,_⟩:=c5.obj;simp only [bD,bX,or_false] at hb;rcases hb with rfl | rfl | rfl | rfl | rfl | rfl
     ·exact ⟨_,he''⟩
     ·exact ⟨_,up _ _ (nE (by simp)) c1⟩
     ·exact ⟨_,up _ _ (nE (by simp)) gti⟩
     ·exact ⟨_,up _ _ (nE (by simp)) c3⟩
     ·exact ⟨_,up _ _ (nE (by simp)) e1⟩
     ·exact ⟨_,up _ _ (nE (by simp)) e2⟩
   refine ⟨.ref g1.objs.size,_,I2,rfl,⟨g1.objs.size,s.heap.objs.size,x,y,I.fresh,I1.fresh,rfl,rfl,λ xs' ys' q1 q2=>?_⟩,⟨⟨_,he''⟩,⟨f0',f1',up _ _ (nE (by simp)) c1,c2⟩,up _ _ (nE (by simp)) gti,⟨a',b',up _ _ (nE (by simp)) c3⟩,ItB.at' c4 λ o q=>up _ o (nE (by simp)) q,ItB.at' c5 λ o q=>up _ o (nE (by simp)) q⟩,λ c hb=>?_⟩
   ·rw [I.sqB_inj q1 hq1,I.sqB_inj q2 hq2]; exact ⟨hx,hy⟩
   ·rw [i7 (neT2 c hb),i7 (neT c hb)]; exact (hf c hb).1
 done:=by
  intro X hP hw hK hc i pins s σ H E I hf st hg;subst hP hw hK;obtain ⟨xs,ys,hq1,hq2,hend⟩:=hg;obtain ⟨⟨old,he⟩,⟨f0,f1,hz,z0⟩,hti,⟨a,b,hto⟩,h1,h2⟩:=st;obtain ⟨its1,rv1,p1,_⟩:=I.sqB hq1;obtain ⟨its2,rv2,p2,_⟩:=I.sqB hq2;have hl1:=rv1.length;have hl2:=rv2.length;refine b2Q he λ Q' E' k=>b1e (show X.A.in1.handled=none from I.ok.hd hc) D hz z0 hti hto h1 h2 p1 p2 (by
   rcases hend with q | q
   ·exact .inl (by simp; omega)
   ·exact .inr (by simp; omega)) λ h' x kk r=>k h' x r ⟨rfl,I.turnedAll hf λ c o hb q=>?_⟩
  simp only [bD,bX,or_false,not_or] at hb;exact kk c o hb.2.1 hb.2.2.2.1 hb.2.2.2.2.1 hb.2.2.2.2.2 q
 self:=λ _ _ _ _ _ st h=>by
  obtain ⟨⟨old,he⟩,_⟩:=st;exact kJ he h
abbrev ez1 (h:aG) (z:aA):aG:=h.push { cls:=.type "enumerate",data:=.fields #[.none,.bool false,.ref z,rawInt 0,.none,.none] }
theorem b3u (z ti to:aA) :
  Meets (gH.«enumerate.__new__» ⟨[.type "enumerate",.ref z],[]⟩) (λ _ R s=>dN s.heap z ti to .none/\R (.ok (.ret (.ref s.heap.objs.size))) { s with heap:=ez1 s.heap z }) :=
 .of_wp λ prog w A R s h=>by
  obtain ⟨hp,g,d,tk,os⟩:=s;obtain ⟨e1,h⟩:=h;have hsub:=vV;have m1:dN (oA ⟨hp,g,d,tk,os⟩) z ti to .none:=e1
  wp_walk using lU m1,a6N
  intro c
  cases c
  ·wp_walk using lU m1
   exact ⟨_,rfl,h⟩
  ·wp_walk using lU m1
   exact ⟨_,rfl,h⟩
section
variable {prog:aL} {w:aI} {A:aY} {E:aC->aD->Prop} {s:aD}
theorem b1J {z ti to:aA} {Q:aC->aD->Prop} (l1:dN s.heap z ti to .none)
  (q:∀ h',eX h' s.heap.objs.size z 0 .none->(∀ c o,s.heap.get? c=some o->h'.get? c=some o)->Q (.ref s.heap.objs.size) { s with heap:=h' }) :
  wpAny (model prog w) A (call (.type "enumerate") [.ref z]) Q E s:=by
 refine qF vW (by decide) (vX _) (vY _) (λ ob=>vZ ob _) wA (b3u z ti to) ⟨l1,?_⟩;have p1:(ez1 s.heap z).get? s.heap.objs.size=some _:=cI _ rfl;exact ⟨⟨_,p1,rfl⟩,q _ p1 λ c o m=>bE _ m⟩
end
def iEz (b1 b2:Bool) (K:aE) (ta:TA):TI:=λ σ H R=>ta σ H λ vs H1=>∃ l1 l2,vs=[.ref l1,.ref l2]/\(∃ xs,SqB b1 K H1 l1 xs)/\(∃ ys,SqB b2 K H1 l2 ys)/\R (Itz b1 b2 K l1 l2) H1
theorem b4Q (b1 b2:Bool) (K:aE) {X:Cx} {a b:aN} {ta:TA} {p pos p2 pos2 pos':Pos} {elts:List aN} {x1:Nat} (hK:X.K=K) (hg:Gl X "enumerate") (hm:X.mg "enumerate"=none) (hg2:Gl X "zip") (hm2:X.mg "zip"=none) (ha:PA X [a,b] ta)
  (hs:starEach [a,b] X.env=[(false,eval a X.env),(false,eval b X.env)]:=by rfl) (hs2:starEach [b] X.env=[(false,eval b X.env)]:=by rfl)
  (hs3:starEach [.Call (.Name "zip" p2) [a,b] [] pos2] X.env=[(false,eval (.Call (.Name "zip" p2) [a,b] [] pos2) X.env)]:=by rfl) (hs4:starEach ([]:List aN) X.env=[]:=by rfl) :
  PI X (.Tuple elts x1 pos') (.Call (.Name "enumerate" p) [.Call (.Name "zip" p2) [a,b] [] pos2] [] pos) (iEz b1 b2 K ta):=by
 subst hK;intro pins s σ H R I h;refine jQ (T9 I hg hm qH (iZ ?_ (by rw [hs3,hs4]) (by rw [hs4]; rfl)));rw [hs3]
 show wpAny _ _ (spliced ((false,eval (.Call (.Name "zip" p2) [a,b] [] pos2) X.env)::[])) _ _ s
 refine sH ?_;refine jQ (T9 I hg2 hm2 boot_zip (iZ (A7 (ha pos2 pins s σ H _ I h) λ us s1 ⟨vs,H1,I1,r1,q1⟩=>?_) (by rw [hs,hs2]) (by rw [hs2]; rfl)));obtain ⟨l1,l2,e,⟨xs,q1⟩,⟨ys,q2⟩,q⟩:=q1;subst e;obtain ⟨u1,u2,rfl,ru1,ru2⟩:=a2p r1
 cases ru1
 cases ru2;obtain ⟨its1,rv1,p1,_⟩:=I1.sqB q1;obtain ⟨its2,rv2,p2,_⟩:=I1.sqB q2;refine a7g p1 p2 λ h1 z1 z2 z3 z4 z5 k1=>?_;refine aT ?_;refine b1J z1 λ h2 e1 k2=>?_;have I2:Inv X pins σ H1 { s1 with heap:=h2 }:=I1.kept (t':=s1.toks) λ c o m=>k2 c o (k1 c o m);refine kJ e1 ?_;have D:fD (s1.heap.objs.size+4) (s1.heap.objs.size+2) (s1.heap.objs.size+3) s1.heap.objs.size (s1.heap.objs.size+1) l1 l2:=a9r _ _ _ p1.lt p2.lt;have z1s:s1.heap.objs.size+4<h1.objs.size:=bC z1;have lt1:=p1.lt;have lt2:=p2.lt;refine ⟨h1.objs.size,[h1.objs.size,s1.heap.objs.size+4,s1.heap.objs.size+2,s1.heap.objs.size+3,s1.heap.objs.size,s1.heap.objs.size+1],_,_,H1,rfl,I2,b1m D (λ c hb z0=>?_),⟨⟨_,e1⟩,⟨_,_,k2 _ _ z1,.inl rfl⟩,k2 _ _ z2,⟨_,_,k2 _ _ z3⟩,ItB.at' z4 λ o m=>k2 _ o m,ItB.at' z5 λ o m=>k2 _ o m⟩,λ b hb=>?_,q⟩
 ·simp only [bD,bX,or_false] at hb
  have:c<h1.objs.size:=by
   rcases hb with rfl | rfl | rfl | rfl | rfl | rfl | rfl
   ·exact z1s
   ·exact eJ (by omega) z1s
   ·exact eJ (by omega) z1s
   ·exact eJ (by omega) z1s
   ·exact eJ (by omega) z1s
   ·exact bM lt1 (fJ (eJ (by omega) z1s))
   ·exact bM lt2 (fJ (eJ (by omega) z1s))
  rw [z0] at this;exact cN _ this
 ·have hb':s1.heap.objs.size<=b:=by
   simp only [bD,bX,or_false] at hb;rcases hb with rfl | rfl | rfl | rfl | rfl | rfl
   ·exact fJ (eJ (by omega) z1s)
   ·exact gN _ _
   ·exact gN _ _
   ·exact gN _ _
   ·exact aU _
   ·exact gN _ _
  exact I1.fpOk hb' (I1.hok.fresh hb')
def ChAt (H:Hp) (xs ys:List V) (is:List Nat) (ts:List V):Prop:=aS (λ (i:Nat) v=>∃ t x y,v=V.ref t/\xs[i]?=some x/\ys[i]?=some y/\H t=some (.tup [.int (i:Int),x,y])) is ts
theorem ChAt.same {H H':Hp} {xs ys:List V} {is:List Nat} {ts:List V} (h:ChAt H xs ys is ts) (e:∀ b zs,H b=some (.tup zs)->H' b=some (.tup zs)):ChAt H' xs ys is ts:=by
 induction h with
 | nil=>exact .nil
 | cons r _ ih =>
  obtain ⟨t,x,y,h1,h2,h3,h4⟩:=r;exact .cons ⟨t,x,y,h1,h2,h3,e _ _ h4⟩ ih
theorem ChAt.snoc {H:Hp} {xs ys:List V} {is:List Nat} {ts:List V} {i:Nat} {t:aA} {x y:V} (h:ChAt H xs ys is ts) (h2:xs[i]?=some x) (h3:ys[i]?=some y) (h4:H t=some (.tup [.int (i:Int),x,y])):ChAt H xs ys (is++[i]) (ts++[.ref t]):=by
 induction h with
 | nil=>exact .cons ⟨t,x,y,rfl,h2,h3,h4⟩ .nil
 | cons r _ ih=>exact .cons r ih
section
variable {b1 b2:Bool} {xs ys:List V} {K:aE} {l1 l2:aA} {fr:List Nat} {tc:TT} {σ:St} {H1:Hp} {p:aA} {D:Hp->Prop}
theorem b0M {n:Nat} {fr:List Nat} {σ:St} {i j k:Nat} {u v x:V} (hi:i<n) (hj:j<n) (hk:k<n):Wk (blkσ n fr σ) ((((blkσ n fr σ).set i (some v)).set j (some u)).set k (some x)):=by
 refine ⟨by simp,λ m w e=>?_⟩;have:¬ m<n:=λ hm=>by
  unfold blkσ at e;rw [dB (by simpa using hm),fU] at e
  split at e <;> cases e
 rw [bY (by omega),bY (by omega),bY (by omega)]; exact e
theorem b5r (h1:SqB b1 K H1 l1 xs) (h2:SqB b2 K H1 l2 ys) (hp:H1 p=none) (hz:xs.length<sizeLine) (q:Nat->Bool)
  (step:∀ (i:Nat) x y H (N:Bool->Hp->Prop),xs[i]?=some x->ys[i]?=some y->Same H1 H->N (q i) H->tc ((((blkσ 3 fr σ).set 0 (some (.int (i:Int)))).set 1 (some x)).set 2 (some y)) H N)
  (hd:∀ ts H,Same H1 H->H p=some (.lst ts)->ChAt H xs ys ((aR (min xs.length ys.length)).filter q) ts->D H) :
  lcI 3 fr (a4j K 2 (R6 (K9 0) (R6 (a4j K 2 (R6 (K9 1) (R6 (K9 2) a4J))) a4J))) tc (b4I (a4z (a5V 0) (a4z (a5V 1) (a4z (a5V 2) b0A)))) σ (Itz b1 b2 K l1 l2) H1 p D:=by
 refine ⟨λ i m ts H=>m=min xs.length ys.length - i/\i<=min xs.length ys.length/\Same H1 H/\H p=some (.lst ts)/\ChAt H xs ys ((aR i).filter q) ts,⟨_,rfl,dA _,Same.new hp _,upd_same,.nil⟩,?_⟩;rintro i m ts H ⟨rfl,hi,e,hH,ch⟩
 by_cases hlt:i<min xs.length ys.length
 ·have hx:xs[i]?=some xs[i]:=aV (by omega)
  have hy:ys[i]?=some ys[i]:=aV (by omega);refine .inr ⟨⟨xs,ys,_,_,e.sqB h1,e.sqB h2,hx,hy⟩,λ u H' yl=>?_⟩;obtain ⟨pp,r,a,b,hr,hpp,rfl,rfl,hab⟩:=yl;obtain ⟨ha,hb⟩:=hab xs ys (e.sqB h1) (e.sqB h2);have s1:=Same.new hr (.tup [a,b]);have s2:=Same.new hpp (.tup [.int (i:Int),.ref r]);have s12:=s1.trans s2;have tk:(aR (i+1)).filter q=(aR i).filter q++[i].filter q:=by rw [lX,qO]
  refine ⟨pp,_,rfl,SqT.of upd_same,rfl,_,_,rfl,_,_,rfl,⟨r,_,rfl,SqT.of (s2 _ _ upd_same),rfl,_,_,rfl,_,_,rfl,rfl,?_⟩⟩;refine ⟨rfl,b0M (by decide) (by decide) (by decide),step i a b _ _ ha hb (e.trans s12) ?_⟩;have h3:=s12 _ _ hH;have ch3:=ch.same λ b zs k=>s12 b _ k
  cases hq:q i with
  | false =>
   rw [if_neg cS];refine ⟨_,?_,rfl,hlt,e.trans s12,h3,?_⟩
   ·omega
   ·rw [tk]; simpa [hq] using ch3
  | true =>
   rw [if_pos rfl];have ln:ts.length=((aR i).filter q).length:=ch.length.symm;have l2':=qP q (aR i);rw [fF] at l2';refine ⟨.int (i:Int),?_,a,?_,b,?_,(by show 3<=sizeLine; decide),λ t ht=>?_⟩
   ·rw [bY (by omega),bY (by omega),dI (by simp [blkσ])]
   ·rw [bY (by omega),dI (by simp [blkσ])]
   ·rw [dI (by simp [blkσ])]
   have s3:=Same.new ht (.tup [.int (i:Int),a,b]);have h4:=s3 _ _ h3;refine ⟨h4,by omega,_,?_,rfl,hlt,((e.trans s12).trans s3).write hp,upd_same,?_⟩
   ·omega
   ·rw [tk]
    have ch4:=ch3.same λ b zs k=>s3 b _ k;have:=(ch4.snoc ha hb (upd_same (H:=upd (upd H r (.tup [a,b])) pp (.tup [.int (i:Int),.ref r])) (a:=t) (o:=.tup [.int (i:Int),a,b])));have fin:=this.same (H':=upd (upd (upd (upd H r (.tup [a,b])) pp (.tup [.int (i:Int),.ref r])) t (.tup [.int (i:Int),a,b])) p (.lst (ts++[.ref t]))) λ c zs k=>by rw [i7 (G9 k h4 nofun)]; exact k
    simpa [hq] using fin
 ·have:i=min xs.length ys.length:=by omega
  subst this;refine .inl ⟨⟨xs,ys,e.sqB h1,e.sqB h2,by omega⟩,hd ts H e hH ch⟩
end
abbrev TJ:=St->Hp->(Hp->Prop)->Prop
def PJ (X:Cx) (es:List aN) (t:TJ):Prop :=
 ∀ (pins:List (aA×Obj)) (s:aD) (σ:St) (H:Hp) (out:Str) (Q:Hp->Prop),Inv X pins σ H s->out.length+2000*es.length<=100000->t σ H Q →
  wpAny (model X.prog X.w) X.A (joinParts out (evalEach es X.env)) (λ u s'=>∃ x tk H',u=kZ x tk/\Inv X pins σ H' s'/\Q H') X.xe s
section
variable {X:Cx} {e:aN} {es:List aN} {te:TE} {t:TJ} {a:Str} {j:Nat} {p1 p2 p3:Pos}
theorem a9D:PJ X [] λ _ H Q=>Q H:=by
 intro pins s σ H out Q I hl h;refine joinParts_nilE (uG ⟨_,_,H,rfl,I.tok _,h⟩ ?_);rw [jS];simp at hl;omega
theorem a2m (h:PJ X es t) (ha:a.length<=1000:=by decide):PJ X (.Constant (.str a) j p1::es) t:=by
 intro pins s σ H out Q I hl ht;refine wO (nJ ?_);refine A7 (C5 pins s σ H (λ v H'=>v=.str a/\H'=H) I ⟨rfl,rfl⟩) λ u s1 ⟨v,H1,I1,r,hv,hH⟩=>?_;subst hv; subst hH;obtain ⟨tk,rfl⟩:=r;simp only [fL] at hl;have e0:(out++a).length=out.length+a.length:=nK ..;exact ⟨by rw [e0,jS]; omega,h pins s1 σ H1 (out++a) Q I1 (by rw [e0]; omega) ht⟩
theorem a6a (he:PE X e te) (h:PJ X es t):PJ X (.FormattedValue e (-1) none p2::es) λ σ H Q=>te σ H λ v H1=>∃ i:Int,v=.int i/\i.natAbs.log2<1920/\t σ H1 Q:=by
 intro pins s σ H out Q I hl ht;refine wO (nJ (uC ?_));refine A7 (he pins s σ H _ I ht) λ u s2 ⟨v,H2,I2,r,i,hv,hi,q⟩=>?_;subst hv;obtain ⟨tk2,rfl⟩:=r;refine uD hi ?_;simp only [fL] at hl;have h1:=uE (a:=i) (k:=1920) (by decide) hi;have e0:(out++gJ (toString i)).length=out.length+(toString i).length:=by rw [nK,uF]
 have hle:(toString i).length<=2000:=by omega
 exact ⟨by rw [e0,jS]; omega,h pins _ σ H2 _ Q (I2.tok _) (by rw [e0]; omega) q⟩
def tFg (t:TJ):TE:=λ σ H Q=>t σ H λ H1=>∀ x,Q (.str x) H1
theorem a5l {v1 v2:aN} (h:PJ X (v1::v2::es) t) (hl:es.length<=20:=by decide):PE X (.JoinedStr (v1::v2::es) p3) (tFg t):=by
 intro pins s σ H Q I ht;refine uB ?_;refine A7 (h pins s σ H jU _ I ?_ ht) λ u s' ⟨x,tk,H',e1,I',q⟩=>?_
 ·show 0+2000*(es.length+1+1)<=100000
  omega
 ·subst e1
  exact ⟨.str x,H',I',⟨_,rfl⟩,q x⟩
end
end L2
namespace L2
open PySem
theorem b2G (K:aE) {X:Cx} {k:Nat} (h:X.K=K) (hr:Room k X.A):Z9 X (compareOp .NotEq) (b5b K):=by subst h; exact a2B hr
end L2
namespace Rim
open PySem L2 Fr
theorem X4 {α β:Type} {F:α->β->Prop}:∀ {l:List α} {l':List β} {i:Nat} {a:α},cW F l l'->l[i]?=some a->∃ b,l'[i]?=some b/\F a b
 | _,_,_,_,.nil,e=>by simp at e
 | _,_,0,_,.cons r _,e=>by simp at e; subst e; exact ⟨_,rfl,r⟩
 | _,_,i+1,x,.cons _ t,e=>by
  obtain ⟨b,h1,h2⟩:=X4 (i:=i) (a:=x) t (by simpa using e);exact ⟨b,by simpa using h1,h2⟩
def a3V (l:Int) (ns:List Int):Prop:=∀ x∈ns,l<=x/\x<=1000000000
def GoodK (h:j3) (m n:Int):Prop:=((h.1.length:Int)=m/\a3V 1 h.1)/\((h.2.length:Int)=n/\a3V 0 h.2)/\∃ x∈h.2,0<x
def a1i (h:j3):Prop:=h.1.length<=1000/\h.2.length<=1000
theorem GoodK.hg {h:j3} {kt kg:Nat} (g:GoodK h kt kg):HG (10 ^ 9) kt kg h:=⟨by have:=g.1.1; omega,by have:=g.2.1.1; omega,λ x hx=>⟨(g.1.2 x hx).1,(g.1.2 x hx).2⟩,λ x hx=>⟨(g.2.1.2 x hx).1,(g.2.1.2 x hx).2⟩,g.2.2⟩
section
variable {P:aL} {w:aI} {K:aE} {mg:Str->Option aC} {base:aG} {f CN CB CT:aA} {fd:aJ} {n:Nat}
theorem a2s {X:Cx}:J5 X (.builtin "isinstance") (λ vs H Q=>∃ a xs n b,vs=[.ref a,.ty n]/\SqT X.K H a xs/\bV X.K (.type "tuple") (.type n)=some b/\Q (.bl b) H):=by
 intro pins s σ H vs us Q I r h;obtain ⟨a,xs,n,b,rfl,hs,e,q⟩:=h;obtain ⟨u,v,rfl,ru,rv⟩:=a2p r
 cases rv
 cases (show u=cY a from ru);have hx:∃ o,s.heap.get? a=some o/\o.cls=.type "tuple":=by
  rcases hs with hs | ⟨o,its,n,h1,h2,_⟩
  ·obtain ⟨_,_,_,p⟩:=(show ObjOk X.prog X.w H s.heap a (.tup xs) from hs.ok I.hok)
   obtain ⟨o,h1,h2,_⟩:=p;exact ⟨o,h1,h2⟩
  ·exact ⟨o,I.kIn a o h1,h2⟩
 exact fM sE I.kIn hx e (λ z=>nomatch z) λ tk=>⟨.bl b,H,I.tok _,rfl,q⟩
def b0u:Sp:=λ vs H Q _=>∃ i:Int,vs=[.int i]/\Q (.bl true) H
theorem b3d:m6 ["thing"] ["thing"] (j4 a0v):=⟨rfl,rfl,rfl,by decide +kernel,rfl,by decide +kernel,by decide +kernel⟩
theorem b1D (F:Fun K "is_whole" "is_whole" a0v f fd) (T:x8 mg):FnOk P w K mg base E1 (n+1) f fd ["thing"] b0u:=by
 refine F.ok b3d (λ vs H Q E h=>?_) (λ cdv A outer s H vs Q E hr h=>?_)
 ·obtain ⟨i,rfl,_⟩:=h
  rfl
 obtain ⟨i,rfl,q⟩:=h;refine ⟨_,j5 (o8 (a3C (j8 a1I rfl T.isi fZ (d0 (pv 0) (d0 (a0R (v:=.ty "int") rfl T.int qU rfl) h8)))
  (a3P (b2C (j8 a1I rfl T.isi fZ (d0 (pv 0) (d0 (a0R (v:=.ty "bool") rfl T.bool yL rfl) h8))))))),?_⟩
 refine ⟨_,rfl,_,_,"int",true,rfl,.int i,U6 _,_,rfl,a1N ?_⟩;exact ⟨_,rfl,_,_,"bool",false,rfl,.int i,a3D,_,rfl,q⟩
def b0e (K:aE):Sp:=λ vs H Q _=>∃ (a:aA) (ns:List Int) (m l:Int),vs=[.ref a,.int m,.int l]/\SqT K H a (ns.map V.int)/\ns.length<=1000 ∧
 ∀ (b:Bool) (H':Hp),Same H H'->(b=true ↔ ((ns.length:Int)=m/\a3V l ns))->Q (.bl b) H'
theorem b3g:m6 ["thing","many","least"] ["thing","many","least"] (j4 T5):=⟨rfl,rfl,rfl,by decide +kernel,rfl,by decide +kernel,by decide +kernel⟩
theorem b3c:(["amount","least"]:List Str).Nodup:=by decide +kernel
theorem a9J {N:VK} {b b':Bool} {H:Hp} (h:N (.bl b) H) (e:b'=b):N (.bl b') H:=by rw [e]; exact h
theorem b0H {g:aA} {gd:aJ} (F:Fun K "are_amounts" "are_amounts" T5 f fd) (T:x8 mg) (C:∃ t,mg "MOST_AMOUNT"=some (.int 1000000000 t)) (G:Cal P w K mg base n "is_whole" ["thing"] b0u g gd):FnOk P w K mg base E1 (n+1) f fd ["thing","many","least"] (b0e K):=by
 refine F.ok b3g (λ vs H Q E h=>?_) (λ cdv A outer s H vs Q E hr h=>?_)
 ·obtain ⟨a,ns,m,l,rfl,_⟩:=h
  rfl
 obtain ⟨a,ns,m,l,rfl,hS,hz,q⟩:=h;obtain ⟨tm,hma⟩:=C;refine ⟨_,j0 (w8 (PW.pt (a2l (a1a (X9 (j8 a2s rfl T.isi fZ (d0 (pv 0) (d0 (a0R (v:=.ty "tuple") rfl T.tuple jK rfl) h8))))) (a0t (r6 b0z (j8 m8 rfl T.len cD (d0 (pv 0) h8)) (pv 1) (r8 _))))) (j5 (o8 a1E)) t7)
  (j5 (o8 (j8 (a5i rfl) rfl T.all wE (d0
   (R5 ["amount"] [2] rfl (a1z (pv 0)) (λ _ _ _ _=>m9 (i:=0) b3c rfl (aM rfl))
    (λ _ _ _ _=>a3C (j6 G.ok hr rfl G.m G.k G.b .nil v5 (d0 (pv 0) h8)) (a3P (a9e a8W a8W (pv 1) (pv 0) (E6 (v:=.int 1000000000) rfl hma ⟨_,rfl⟩))))) h8)))),?_⟩
 have hl:(ns.map V.int).length=ns.length:=aH _;refine ⟨_,rfl,a,_,"tuple",true,rfl,hS,U6 _,_,rfl,a1Q ?_⟩;refine ⟨_,rfl,a,_,rfl,.inr hS,_,rfl,rfl,_,rfl,?_⟩;refine w6 (λ c=>?_) (λ c=>?_)
 ·refine q _ _ (Same.refl _) ?_
  have c':¬ (ns.length:Int)=m:=λ h=>by simp [h] at c
  simp [c']
 ·have c':(ns.length:Int)=m:=by simpa using c
  refine ⟨_,rfl,a,rfl,⟨_,hS⟩,λ p hp=>?_⟩;refine T8 (Y4 hS) hp (by rw [hl]; exact p6 hz) (λ x=>.bl (decide (l<=vI x/\vI x<=1000000000))) (λ i x H' N hx e hN=>?_) ?_
  ·obtain ⟨k,rfl⟩:=G3 hx
   refine ⟨Wk.set (by decide),_,rfl,k,rfl,_,rfl,a1N ?_⟩;refine ⟨_,rfl,_,rfl,_,_,rfl,rfl,_,rfl,?_⟩;refine w6 (λ c=>?_) (λ c=>?_)
   ·have c1:l<=k:=of_decide_eq_true c
    refine ⟨_,_,rfl,rfl,?_⟩;exact a9J hN (by simp [vI,c1])
   ·have c1:¬ l<=k:=of_decide_eq_false (eW.mpr c)
    exact a9J hN (by simp [vI,c1])
  ·refine ⟨p,ns.map (λ i=>decide (l<=i/\i<=1000000000)),rfl,.inl (SqL.of (by rw [upd_same,bO,bO]; rfl)),?_⟩
   refine q _ _ (Same.new hp _) ?_;rw [wK,jG];constructor
   ·intro z
    exact ⟨c',λ x hx=>by simpa using z x hx⟩
   ·intro z x hx
    simpa using z.2 x hx
def a8A (K:aE):Sp:=λ vs H Q _=>∃ (v:V) (h:j3) (m n:Int),vs=[v,.int m,.int n]/\HS K H v h/\a1i h ∧
 ∀ (b:Bool) (H':Hp),Same H H'->(b=true ↔ GoodK h m n)->Q (.bl b) H'
theorem scIsHK:m6 ["thing","many_takes","many_gives","takes","gives"] ["thing","many_takes","many_gives"] (j4 a0w):=⟨rfl,rfl,rfl,by decide +kernel,rfl,by decide +kernel,by decide +kernel⟩
theorem b2F:(["give"]:List Str).Nodup:=by decide +kernel
theorem b1i {g:aA} {gd:aJ} (F:Fun K "is_house" "is_house" a0w f fd) (T:x8 mg) (G:Cal P w K mg base n "are_amounts" ["thing","many","least"] (b0e K) g gd) :
  FnOk P w K mg base E1 (n+1) f fd ["thing","many_takes","many_gives"] (a8A K):=by
 refine F.ok scIsHK (λ vs H Q E h=>?_) (λ cdv A outer s H vs Q E hr h=>?_)
 ·obtain ⟨v,h,m,l,rfl,_⟩:=h
  rfl
 obtain ⟨v,h,m,l,rfl,⟨a,t,gv,rfl,h0,h1,h2⟩,⟨hz1,hz2⟩,q⟩:=h;refine ⟨_,j0 (w8 (PW.pt (a2l (a1a (X9 (j8 a2s rfl T.isi fZ (d0 (pv 0) (d0 (a0R (v:=.ty "tuple") rfl T.tuple jK rfl) h8))))) (a0t (r6 b0z (j8 m8 rfl T.len cD (d0 (pv 0) h8)) i8 (r8 _))))) (j5 (o8 a1E)) t7)
  (j0 (K5 (pv 0) (W9 rfl (r9 (m9 (i:=3) scIsHK.nd rfl (aM rfl)) (r9 (m9 (i:=4) scIsHK.nd rfl (aM rfl)) C2))))
  (j0 (w8 (a1a (PW.pt (a3J (X9 (j6 G.ok hr rfl G.m G.k G.b .nil v5 (d0 (pv 3) (d0 (pv 1) (d0 i8 h8))))) (a1X (X9 (j6 G.ok hr rfl G.m G.k G.b .nil v5 (d0 (pv 4) (d0 (pv 2) (d0 i8 h8)))))))))
   (j5 (o8 a1E)) t7)
  (j5 (o8 (j8 (a8D rfl) rfl T.any yM (d0 (R5 ["give"] [] rfl (a1z (pv 4)) (λ _ _ _ _=>m9 (i:=0) b2F rfl (aM rfl)) (λ _ _ _ _=>M7 a0s (pv 0) i8 (r8 _))) h8)))))),?_⟩
 refine ⟨_,rfl,a,_,"tuple",true,rfl,h0,U6 _,_,rfl,a1Q ?_⟩;refine ⟨_,rfl,a,_,rfl,.inr h0,rfl,_,rfl,b4q rfl ?_⟩;refine ⟨_,rfl,a,_,rfl,h0,rfl,_,_,rfl,_,_,rfl,rfl,?_⟩;refine ⟨_,rfl,_,rfl,t,h.1,m,1,rfl,h1,hz1,λ b1 H1 e1 i1=>⟨_,rfl,?_⟩⟩;refine w6 (λ c1=>?_) (λ c1=>?_)
 ·refine ⟨_,rfl,_,rfl,gv,h.2,l,0,rfl,e1.tseq h2,hz2,λ b2 H2 e2 i2=>⟨_,rfl,?_⟩⟩
  refine w6 (λ c2=>?_) (λ c2=>?_)
  ·refine q _ _ (e1.trans e2) ?_
   have:¬ b2=true:=by simpa using c2
   constructor
   ·intro z; cases z
   ·intro z; exact absurd (i2.mpr z.2.1) this
  ·have c2':b2=true:=by simpa using c2
   have e12:=e1.trans e2;have hl:(h.2.map V.int).length=h.2.length:=aH _;refine ⟨_,rfl,gv,rfl,⟨_,e12.tseq h2⟩,λ p hp=>?_⟩;refine T8 (Y4 (e12.tseq h2)) hp (by rw [hl]; exact p6 hz2) (λ x=>.bl (decide (0<vI x))) (λ i x H' N hx e hN=>?_) ?_
   ·obtain ⟨k,rfl⟩:=G3 hx
    exact ⟨Wk.set (by decide),_,rfl,_,_,rfl,rfl,hN⟩
   ·refine ⟨p,h.2.map (λ i=>decide (0<i)),rfl,.inl (SqL.of (by rw [upd_same,bO,bO]; rfl)),?_⟩
    refine q _ _ (e12.trans (Same.new hp _)) ?_;rw [List.any_map,pX];constructor
    ·rintro ⟨x,hx,z⟩
     exact ⟨i1.mp c1,i2.mp c2',x,hx,by simpa using z⟩
    ·rintro ⟨_,_,x,hx,z⟩
     exact ⟨x,hx,by simpa using z⟩
 ·refine a1N ?_
  refine q _ _ e1 ?_;constructor
  ·intro z; cases z
  ·intro z; exact absurd (i1.mpr z.1) c1
def a2f (K:aE) (CB:aA):Sp:=λ vs H Q E=>∃ (v:V) (h:j3) (m n:Int),vs=[v,.int m,.int n]/\HS K H v h/\a1i h/\m.natAbs.log2<1920/\n.natAbs.log2<1920 ∧
 (GoodK h m n->∀ H',Same H H'->Q .non H')/\(¬ GoodK h m n->∀ H',Same H H'->E (.ref CB) none H')
theorem a8x:m6 ["thing","many_takes","many_gives"] ["thing","many_takes","many_gives"] (j4 S1):=⟨rfl,rfl,rfl,by decide +kernel,rfl,by decide +kernel,by decide +kernel⟩
theorem a8i {g:aA} {gd:aJ} (F:Fun K "refuse_unfit" "refuse_unfit" S1 f fd) (kB:S4 K CB) (mB:mg "NoBook"=some (.ref CB)) (G:Cal P w K mg base n "is_house" ["thing","many_takes","many_gives"] (a8A K) g gd) :
  FnOk P w K mg base (Q7 P w) (n+1) f fd ["thing","many_takes","many_gives"] (a2f K CB):=by
 refine F.ok1 a8x (λ vs H Q E h=>?_) (λ cdv A outer s H vs Q E hr h=>?_)
 ·obtain ⟨v,h,m,l,rfl,_⟩:=h
  rfl
 obtain ⟨v,h,m,l,rfl,hH,hz,hm,hl,q,hE⟩:=h;refine ⟨_,j5 (w8 (a1a (X9 (j6 G.ok hr rfl G.m G.k G.b .nil v5 (d0 (pv 0) (d0 (pv 1) (d0 (pv 2) h8)))))) (j5 (Y5 kB rfl mB hr.hd (d0 (a5l (a2m (a6a (pv 1) (a2m (a6a (pv 2) (a2m a9D)))))) h8))) t7),?_⟩;refine ⟨_,rfl,_,rfl,_,rfl,v,h,m,l,rfl,hH,hz,λ b H1 e1 i1=>⟨_,rfl,?_⟩⟩
 cases b with
 | true=>exact a1Q (q (i1.mp rfl) H1 e1)
 | false =>
  refine a1N ?_;exact ⟨_,rfl,m,rfl,hm,_,rfl,l,rfl,hl,λ x=>⟨(by show 1<=1000; decide),hE (λ z=>by have:=i1.mpr z; cases this) H1 e1⟩⟩
def a3e (K:aE) (CB CT:aA):Sp:=λ vs H Q E=>∃ (l:aA) (v:V) (xs:List V) (h:j3) (m n:Int),vs=[.ref l,v,.int m,.int n]/\H l=some (.lst xs)/\xs.length<=1000/\HS K H v h/\a1i h/\m.natAbs.log2<1920/\n.natAbs.log2<1920 ∧
 (GoodK h m n->xs.length<16->∀ (r:aA) (H':Hp),Same H H'->H r=none->H' r=some (.lst (xs++[v]))->Q (.ref r) H')/\(¬ GoodK h m n->∀ H',Same H H'->E (.ref CB) none H')/\(GoodK h m n->16<=xs.length->∀ H',Same H H'->E (.ref CT) none H')
theorem a8g:m6 ["houses","house","many_takes","many_gives"] ["houses","house","many_takes","many_gives"] (j4 P2):=⟨rfl,rfl,rfl,by decide +kernel,rfl,by decide +kernel,by decide +kernel⟩
theorem a6g {g:aA} {gd:aJ} (F:Fun K "with_one_more" "with_one_more" P2 f fd) (T:x8 mg) (kT:S4 K CT) (mT:mg "TooMany"=some (.ref CT)) (C:∃ t,mg "MOST_HOUSES"=some (.int 16 t))
  (G:L9 P w K mg base n "refuse_unfit" ["thing","many_takes","many_gives"] (a2f K CB) g gd):FnOk P w K mg base (Q7 P w) (n+1) f fd ["houses","house","many_takes","many_gives"] (a3e K CB CT):=by
 refine F.ok1 a8g (λ vs H Q E h=>?_) (λ cdv A outer s H vs Q E hr h=>?_)
 ·obtain ⟨l,v,xs,h,m,n,rfl,_⟩:=h
  rfl
 obtain ⟨l,v,xs,h,m,k,rfl,hl,hz,hH,hs,hm,hk,q,hB,hT⟩:=h;obtain ⟨tm,hmh⟩:=C;refine ⟨_,j0 (E8 (j6 G.ok hr rfl G.m G.k G.b .nil B9 (d0 (pv 1) (d0 (pv 2) (d0 (pv 3) h8)))))
  (j0 (w8 (r6 a4W (j8 m8 rfl T.len cD (d0 (pv 0) h8)) (E6 (v:=.int 16) rfl hmh ⟨_,rfl⟩) (r8 _)) (j5 (Y5 kT rfl mT hr.hd (d0 (a5l (a2m (a6a (E6 (v:=.int 16) rfl hmh ⟨_,rfl⟩) (a2m a9D)))) h8))) t7)
  (PSs.nox (j5 (o8 (j7 B8 (pv 0) (v7 (d0 (pv 1) h8))))))),?_⟩
 refine ⟨_,rfl,_,rfl,_,rfl,v,h,m,k,rfl,hH,hs,hm,hk,λ g1 H1 e1=>?_,hB⟩;refine ⟨_,rfl,l,xs,rfl,.inl (SqL.of (e1 _ _ hl)),_,_,rfl,rfl,_,rfl,?_⟩;refine w6 (λ c=>?_) (λ c=>?_)
 ·have c':16<=xs.length:=by have:=of_decide_eq_true c; omega
  exact ⟨16,rfl,by decide,λ x=>⟨(by show 1<=1000; decide),hT g1 c' H1 e1⟩⟩
 ·have c':xs.length<16:=by have:=of_decide_eq_false (eW.mpr c); omega
  refine ⟨_,rfl,_,rfl,(by show 1<=sizeLine; decide),λ b1 hb1=>?_⟩;have s2:=Same.new hb1 (.lst [v]);refine ⟨l,b1,_,_,rfl,rfl,s2 _ _ (e1 _ _ hl),upd_same,?_,λ p hp=>?_⟩
  ·have:=p6 (show (1000:Nat)<=1000 from aU _)
   simp; omega
  have s3:=Same.new hp (.lst (xs++[v]));refine q g1 c' p _ (e1.trans (s2.trans s3)) ?_ upd_same;exact (e1.trans s2).free hp
def a3f (K:aE) (CN CB:aA):Sp:=λ vs H Q E=>∃ (l:aA) (v:V) (xs:List V) (h:j3) (num m n:Int),vs=[.ref l,.int num,v,.int m,.int n]/\H l=some (.lst xs)/\xs.length<=1000/\HS K H v h/\a1i h/\num.natAbs.log2<1920/\m.natAbs.log2<1920/\n.natAbs.log2<1920 ∧
 (∀ i:Nat,num=(i:Int)->i<xs.length->GoodK h m n->∀ (r:aA) (H':Hp),Same H H'->H r=none->H' r=some (.lst ((xs.take i++[v])++xs.drop (i+1)))->Q (.ref r) H')/\(¬ J4 xs.length num->∀ H',Same H H'->E (.ref CN) none H') ∧
 (J4 xs.length num->¬ GoodK h m n->∀ H',Same H H'->E (.ref CB) none H')
theorem a8n:m6 ["houses","number","house","many_takes","many_gives"] ["houses","number","house","many_takes","many_gives"] (j4 R4):=⟨rfl,rfl,rfl,by decide +kernel,rfl,by decide +kernel,by decide +kernel⟩
theorem a5x {g g2:aA} {gd gd2:aJ} (F:Fun K "with_another" "with_another" R4 f fd) (Ch:L9 P w K mg base n "house_of" ["book","number"] (V0 K CN) g2 gd2)
  (G:L9 P w K mg base n "refuse_unfit" ["thing","many_takes","many_gives"] (a2f K CB) g gd):FnOk P w K mg base (Q7 P w) (n+1) f fd ["houses","number","house","many_takes","many_gives"] (a3f K CN CB):=by
 refine F.ok1 a8n (λ vs H Q E h=>?_) (λ cdv A outer s H vs Q E hr h=>?_)
 ·obtain ⟨l,v,xs,h,num,m,n,rfl,_⟩:=h
  rfl
 obtain ⟨l,v,xs,h,num,m,k,rfl,hl,hz,hH,hs,hn,hm,hk,q,hN,hB⟩:=h;refine ⟨_,j0 (E8 (j6 Ch.ok hr rfl Ch.m Ch.k Ch.b .nil B9 (d0 (pv 0) (d0 (pv 1) h8))))
  (j0 (E8 (j6 G.ok hr rfl G.m G.k G.b .nil B9 (d0 (pv 2) (d0 (pv 3) (d0 (pv 4) h8)))))
  (PSs.nox (j5 (o8 (j7 B8 (j7 B8 (G1 M3 (pv 0) N8 (K1 (pv 1))) (v7 (d0 (pv 2) h8))) (G1 M3 (pv 0) (K1 (j7 D0 (pv 1) i8)) N8)))))),?_⟩
 refine ⟨_,rfl,_,rfl,l,xs,num,rfl,SqL.of hl,hn,λ i x hi hx=>?_,λ bad=>hN bad H (Same.refl _)⟩;subst hi;have hil:=(bP.mp hx).1;refine ⟨_,rfl,_,rfl,_,rfl,v,h,m,k,rfl,hH,hs,hm,hk,λ g1 H1 e1=>?_,λ bad H1 e1=>hB ⟨by omega,by omega⟩ bad H1 e1⟩;have small:=p6 (show (1000:Nat)<=1000 from aU _);refine ⟨_,rfl,_,rfl,_,rfl,l,_,rfl,SqL.of (e1 _ _ hl),λ a1 h1=>?_⟩;rw [a3F _ _ (by omega)];have s1:=Same.new h1 (.lst (xs.take i));refine ⟨_,rfl,(by show 1<=sizeLine; decide),λ a2 h2=>?_⟩;have s2:=Same.new h2 (.lst [v]);refine ⟨a1,a2,_,_,rfl,rfl,s2 _ _ upd_same,upd_same,by simp; omega,λ a3 h3=>?_⟩;have s3:=Same.new h3 (.lst (xs.take i++[v]));have s13:=s1.trans (s2.trans s3);refine ⟨_,rfl,_,rfl,_,_,rfl,rfl,_,rfl,l,_,rfl,SqL.of (s13 _ _ (e1 _ _ hl)),λ a4 h4=>?_⟩;rw [show ((i:Int)+1)=((i+1:Nat):Int) by omega,a2k _ _ (by omega)];have s4:=Same.new h4 (.lst (xs.drop (i+1)));refine ⟨a3,a4,_,_,rfl,rfl,s4 _ _ upd_same,upd_same,by simp; omega,λ p hp=>?_⟩;have s5:=Same.new hp (.lst ((xs.take i++[v])++xs.drop (i+1)));have all:=e1.trans (s13.trans s4);exact q i rfl hil g1 p _ (all.trans s5) (all.free hp) upd_same
theorem b4P:m6 ["ahead","behind"] ["ahead","behind"] (j4 a1s):=⟨rfl,rfl,rfl,by decide +kernel,rfl,by decide +kernel,by decide +kernel⟩
theorem a9T:(["number","was","now"]:List Str).Nodup:=by decide +kernel
abbrev FrL (K:aE) (H:Hp):List V->List Q2->Prop:=cW λ v q=>FrV K H v q
def chI (ps qs:List Q2):List Nat:=(aR (min ps.length qs.length)).filter λ i=>decide (ps.getD i (0,0)≠qs.getD i (0,0))
def a6l (K:aE):Sp:=λ vs H Q _=>∃ (l1 l2:aA) (xs ys:List V) (ps qs:List Q2),vs=[.ref l1,.ref l2]/\SqL K H l1 xs/\SqL K H l2 ys/\FrL K H xs ps/\FrL K H ys qs/\xs.length<=1000 ∧
 ∀ (l:aA) (ts:List V) (H':Hp),Same H H'->H l=none->H' l=some (.lst ts)->ChAt H' xs ys (chI ps qs) ts->Q (.ref l) H'
theorem b5d (x y:Q2):dZ (dF x) (dF y)=decide (x=y):=by
 unfold dF;rw [dZ,gQ,gQ,gQ,dZ,dZ,vT];obtain ⟨a,b⟩:=x;obtain ⟨c,d⟩:=y
 by_cases h1:a=c
 ·by_cases h2:b=d
  ·subst h1 h2; simp
  ·simp [h1,h2]
 ·simp [h1]
theorem a5C (F:Fun K "changes" "changes" a1s f fd) (T:x8 mg):FnOk P w K mg base E1 (n+1) f fd ["ahead","behind"] (a6l K):=by
 refine F.ok b4P (λ vs H Q E h=>?_) (λ cdv A outer s H vs Q E hr h=>?_)
 ·obtain ⟨l1,l2,xs,ys,ps,qs,rfl,_⟩:=h
  rfl
 obtain ⟨l1,l2,xs,ys,ps,qs,rfl,h1,h2,f1,f2,hz,q⟩:=h;refine ⟨_,j5 (o8 (b0f ["number","was","now"] [] rfl (b4Q true true K rfl rfl T.enum rfl T.zip (d0 (pv 0) (d0 (pv 1) h8)))
   (λ _ _ _ _=>Q8 K (n:=2) rfl rfl (r9 (m9 (i:=0) a9T rfl (aM rfl)) (r9 (Q8 K (n:=2) rfl rfl (r9 (m9 (i:=1) a9T rfl (aM rfl)) (r9 (m9 (i:=2) a9T rfl (aM rfl)) C2))) C2)))
   (λ _ _ _ _=>r6 (b2G K rfl hr) (pv 1) (pv 2) (r8 _)) (λ _ _ _ _=>D3 (d0 (pv 0) (d0 (pv 1) (d0 (pv 2) h8)))))),?_⟩
 have lp:xs.length=ps.length:=f1.length;have lq:ys.length=qs.length:=f2.length;refine ⟨_,rfl,_,rfl,l1,l2,rfl,⟨_,h1⟩,⟨_,h2⟩,λ p hp=>?_⟩;refine b5r (b1:=true) (b2:=true) h1 h2 hp (p6 hz) (λ i=>decide (ps.getD i (0,0)≠qs.getD i (0,0))) (λ i x y H' N hx hy e hN=>?_) (λ ts H' e hp' ch=>?_)
 ·obtain ⟨pq,e1,r1⟩:=X4 f1 hx
  obtain ⟨qq,e2,r2⟩:=X4 f2 hy;have g1:ps.getD i (0,0)=pq:=by rw [aZ,e1]; rfl
  have g2:qs.getD i (0,0)=qq:=by rw [aZ,e2]; rfl
  rw [g1,g2] at hN;refine ⟨_,rfl,_,rfl,dF pq,dF qq,FrV.dp (FrV.same e r1),FrV.dp (FrV.same e r2),a2W _,a2W _,cO (mJ _ _) (a8S _),_,rfl,?_⟩;rw [b5d];have:(!decide (pq=qq))=decide (pq≠qq):=by simp
  rw [this];exact hN
 ·rw [lp,lq] at ch
  exact q p ts H' e hp hp' ch
end
end Rim
namespace L2
open PySem PySem.Spec PyProof.Rows
end L2
namespace L2
open PySem
def a7a (o:Option HO):Prop:=∀ u,o=some u->(∀ zs,u≠.tup zs)/\∀ a b,u≠.frz a b
structure Fr0 (X:aA->Prop) (H H':Hp):Prop where
 k:∀ b o,¬ X b->H b=some o->H' b=some o
 m:∀ x,X x->a7a (H x)
section
variable {X:aA->Prop} {H H':Hp} {K:aE} {a:aA} {xs:List V}
theorem Fr0.tup (e:Fr0 X H H') (h:H a=some (.tup xs)):H' a=some (.tup xs):=e.k a _ (λ x=>(e.m a x _ h).1 xs rfl) h
theorem Fr0.seqT (e:Fr0 X H H') (h:SqT K H a xs):SqT K H' a xs:=by
 rcases h with (h | ⟨o,h⟩) | h
 ·exact .inl (.inl (e.tup h))
 ·exact .inl (.inr ⟨o,e.k a _ (λ x=>(e.m a x _ h).2 _ _ rfl) h⟩)
 ·exact .inr h
theorem a1c {o:Option HO} {xs:List V} (h:o=some (.lst xs)):a7a o:=λ u e=>by
 rw [h] at e;obtain rfl:=bG e;exact ⟨λ zs z=>HO.noConfusion z,λ a b z=>HO.noConfusion z⟩
theorem a1x {o:Option HO} {C dx:aA} {fs:List (Str×V)} (h:o=some (.ins C dx fs)):a7a o:=λ u e=>by
 rw [h] at e;obtain rfl:=bG e;exact ⟨λ zs z=>HO.noConfusion z,λ a b z=>HO.noConfusion z⟩
theorem a1n {P:aA} {pos:Pos} {qual:Str} {H:Hp} (T:LamTab P pos qual H):a7a (H P):=λ u e=>by
 rcases T with t | ⟨c,t,_⟩ <;> (rw [t] at e; obtain rfl:=bG e; exact ⟨λ zs z=>HO.noConfusion z,λ a b z=>HO.noConfusion z⟩)
end
end L2
namespace Rim
open PySem L2 Fr
theorem HS.fr0 {X:aA->Prop} {K:aE} {H H':Hp} {v:V} {h:j3} (e:Fr0 X H H') (x:HS K H v h):HS K H' v h:=by
 obtain ⟨a,t,g,h0,h1,h2,h3⟩:=x;exact ⟨a,t,g,h0,e.seqT h1,e.seqT h2,e.seqT h3⟩
theorem Bk.fr0 {X:aA->Prop} {K:aE} {H H':Hp} {vs:List V} {hs:List j3} (e:Fr0 X H H') (x:Bk K H vs hs):Bk K H' vs hs:=aS.imp' (λ _ _ r=>HS.fr0 e r) x
theorem FrT.fr0 {X:aA->Prop} {H H':Hp} {v:V} {q:Q2} (e:Fr0 X H H') (x:FrT H v q):FrT H' v q:=by
 obtain ⟨a,rfl,h⟩:=x;exact ⟨a,rfl,e.tup h⟩
abbrev KFs (kt kg:Nat) (z:Str) (ta wa pa:aA):List (Str×V):=[("many_takes",.int (kt:Int)),("many_gives",.int (kg:Int)),("sizes",.str z),("there",.ref ta),("worth",.ref wa),("past",.ref pa)]
structure TK (K:aE) (C:aA):Prop where
 cl:Cls K C
 nT:NoAttr K C "many_takes"
 nG:NoAttr K C "many_gives"
 nS:NoAttr K C "sizes"
 nH:NoAttr K C "there"
 nW:NoAttr K C "worth"
 nP:NoAttr K C "past"
abbrev Lev:=List j3×List Q2
def LevAt (K:aE) (H:Hp) (lo:List aA) (ta wa:aA) (L:Lev):Prop:=ta∈lo/\wa∈lo/\(∃ xs,H ta=some (.lst xs)/\Bk K H xs L.1)/\∃ ys,H wa=some (.lst ys)/\cW (FrT H) ys L.2
def PastAt (K:aE) (H:Hp) (lo:List aA):List V->List Lev->Prop:=cW λ v L=>∃ t ta wa,v=.ref t/\H t=some (.tup [.ref ta,.ref wa])/\LevAt K H lo ta wa L
structure KpAt (K:aE) (C:aA) (H:Hp) (p:aA) (kt kg:Nat) (z:Str) (L:Lev) (past:List Lev) (pa:aA) (lo:List aA):Prop where
 no:pa ∉ lo
 ls:∀ b∈lo,∃ xs,H b=some (.lst xs)
 ex:∃ dx ta wa pv,H p=some (.ins C dx (KFs kt kg z ta wa pa))/\LevAt K H lo ta wa L/\H pa=some (.lst pv)/\PastAt K H lo pv past
theorem LevAt.fr0 {X:aA->Prop} {K:aE} {H H':Hp} {lo lo':List aA} {ta wa:aA} {L:Lev} (e:Fr0 X H H') (n:∀ b∈lo,¬ X b) (s:∀ b∈lo,b∈lo') (h:LevAt K H lo ta wa L):LevAt K H' lo' ta wa L:=by
 obtain ⟨h1,h2,⟨xs,h3,h4⟩,ys,h5,h6⟩:=h;exact ⟨s _ h1,s _ h2,⟨xs,e.k _ _ (n _ h1) h3,h4.fr0 e⟩,ys,e.k _ _ (n _ h2) h5,aS.imp' (λ _ _ r=>FrT.fr0 e r) h6⟩
theorem PastAt.fr0 {X:aA->Prop} {K:aE} {H H':Hp} {lo lo':List aA} {pv:List V} {past:List Lev} (e:Fr0 X H H') (n:∀ b∈lo,¬ X b) (s:∀ b∈lo,b∈lo') (h:PastAt K H lo pv past):PastAt K H' lo' pv past :=
 aS.imp' (λ _ _ ⟨t,ta,wa,h1,h2,h3⟩=>⟨t,ta,wa,h1,e.tup h2,h3.fr0 e n s⟩) h
theorem KpAt.fr0 {X:aA->Prop} {K:aE} {C:aA} {H H':Hp} {p:aA} {kt kg:Nat} {z:Str} {L:Lev} {past:List Lev} {pa:aA} {lo:List aA} (e:Fr0 X H H') (n:∀ b∈lo,¬ X b) (np:¬ X p) (na:¬ X pa) (h:KpAt K C H p kt kg z L past pa lo):KpAt K C H' p kt kg z L past pa lo:=by
 obtain ⟨dx,ta,wa,pv,h1,h2,h3,h4⟩:=h.ex;exact ⟨h.no,λ b hb=>by obtain ⟨xs,q⟩:=h.ls b hb; exact ⟨xs,e.k _ _ (n b hb) q⟩,dx,ta,wa,pv,e.k _ _ np h1,h2.fr0 e n (λ _ h=>h),e.k _ _ na h3,h4.fr0 e n (λ _ h=>h)⟩
theorem KpAt.same {K:aE} {C:aA} {H H':Hp} {p:aA} {kt kg:Nat} {z:Str} {L:Lev} {past:List Lev} {pa:aA} {lo:List aA} (e:Same H H') (h:KpAt K C H p kt kg z L past pa lo):KpAt K C H' p kt kg z L past pa lo :=
 h.fr0 (X:=λ _=>False) ⟨λ b o _ q=>e b o q,λ _ x=>x.elim⟩ (λ _ _ x=>x) (λ x=>x) λ x=>x
def Shs (z:Str) (hs:List j3) (kt kg:Nat) (qs:List Q2):Prop:=qs.length=hs.length/\∀ (i:Nat) (h:j3) (q:Q2),hs[i]?=some h->qs[i]?=some q->∃ A B,ShU z hs h kt kg A B/\q=low A B
section
variable {P:aL} {w:aI} {K:aE} {mg:Str->Option aC} {base:aG} {f C CN CB CT CL Pt:aA} {fd:aJ} {n:Nat}
def a4g (K:aE) (C:aA):Sp:=λ vs H Q _=>∃ (p dx:aA) (kt kg:Nat) (z:Str),vs=[.ref p,.int (kt:Int),.int (kg:Int),.str z]/\H p=some (.ins C dx []) ∧
 ∀ (H':Hp) (pa:aA) (lo:List aA),KpAt K C H' p kt kg z ([],[]) [] pa lo->(∀ b o,b≠p->H b=some o->H' b=some o)->H pa=none->(∀ b∈lo,H b=none)->Q .non H'
theorem b1w:m6 ["self","takes","gives","sizes"] ["self","takes","gives","sizes"] (j4 P1):=⟨rfl,rfl,rfl,by decide +kernel,rfl,by decide +kernel,by decide +kernel⟩
theorem a8v (F:Fun K "__init__" "Kept.__init__" P1 f fd) (T:TK K C):FnOk P w K mg base E1 (n+1) f fd ["self","takes","gives","sizes"] (a4g K C):=by
 refine F.ok b1w (λ vs H Q E h=>?_) (λ cdv A outer s H vs Q E hr h=>?_)
 ·obtain ⟨p,dx,kt,kg,z,rfl,_⟩:=h
  rfl
 obtain ⟨p,dx,kt,kg,z,rfl,hp,q⟩:=h;refine ⟨_,j0 (K2 (pv 0) (pv 1) rfl) (j0 (K2 (pv 0) (pv 2) rfl) (j0 (K2 (pv 0) (pv 3) rfl) (j0 (K2 (pv 0) (v7 h8) rfl) (j0 (K2 (pv 0) (v7 h8) rfl) (j5 (K2 (pv 0) (v7 h8) rfl)))))),?_⟩;refine ⟨_,rfl,_,rfl,p,C,dx,_,rfl,hp,T.cl,T.nT,(by show 0<1000; decide),?_⟩;refine ⟨_,rfl,_,rfl,p,C,dx,_,rfl,upd_same,T.cl,T.nG,(by show 1<1000; decide),?_⟩;rw [W2];refine ⟨_,rfl,_,rfl,p,C,dx,_,rfl,upd_same,T.cl,T.nS,(by show 2<1000; decide),?_⟩;rw [W2];refine ⟨(by show 0<=sizeLine; decide),λ ta hta=>?_⟩;have n1:p≠ta:=i9 upd_same hta;refine ⟨_,rfl,p,C,dx,_,rfl,by rw [i7 n1]; exact upd_same,T.cl,T.nH,(by show 3<1000; decide),?_⟩;refine ⟨(by show 0<=sizeLine; decide),λ wa hwa=>?_⟩;have n2:p≠wa:=i9 upd_same hwa;refine ⟨_,rfl,p,C,dx,_,rfl,by rw [i7 n2]; exact upd_same,T.cl,T.nW,(by show 4<1000; decide),?_⟩;refine ⟨(by show 0<=sizeLine; decide),λ pa hpa=>?_⟩;have n3:p≠pa:=i9 upd_same hpa;refine ⟨_,rfl,p,C,dx,_,rfl,by rw [i7 n3]; exact upd_same,T.cl,T.nP,(by show 5<1000; decide),?_⟩;have w1:wa≠ta:=λ z0=>by
  subst z0;rw [i7 n2.symm,upd_same] at hwa; cases hwa
 have w2:pa≠wa:=λ z0=>by
  subst z0;rw [i7 n3.symm,upd_same] at hpa; cases hpa
 have w3:pa≠ta:=λ z0=>by
  subst z0;rw [i7 n3.symm,i7 w1.symm,i7 n3.symm,upd_same] at hpa; cases hpa
 have f1:H ta=none:=by rw [i7 n1.symm] at hta; exact hta
 have f2:H wa=none:=by rw [i7 n2.symm,i7 w1,i7 n2.symm] at hwa; exact hwa
 have f3:H pa=none:=by rw [i7 n3.symm,i7 w2,i7 n3.symm,i7 w3,i7 n3.symm] at hpa; exact hpa
 refine q _ pa [ta,wa] ⟨?_,λ b hb=>?_,dx,ta,wa,[],upd_same,⟨.head _,.tail _ (.head _),⟨[],?_,.nil⟩,[],?_,.nil⟩,?_,.nil⟩ (λ b o hb e=>?_) f3 λ b hb=>?_
 ·intro hb
  rcases bD.mp hb with z0 | hb
  ·exact w3 z0
  ·exact w2 (cX.mp hb)
 ·rcases bD.mp hb with rfl | hb
  ·exact ⟨[],by rw [i7 n1.symm,i7 w3.symm,i7 n1.symm,i7 w1.symm,i7 n1.symm,upd_same]⟩
  ·rw [cX.mp hb]
   exact ⟨[],by rw [i7 n2.symm,i7 w2.symm,i7 n2.symm,upd_same]⟩
 ·rw [i7 n1.symm,i7 w3.symm,i7 n1.symm,i7 w1.symm,i7 n1.symm,upd_same]
 ·rw [i7 n2.symm,i7 w2.symm,i7 n2.symm,upd_same]
 ·rw [i7 n3.symm,upd_same]
 ·rw [i7 hb,i7 (i9 e f3),i7 hb,i7 (i9 e f2),i7 hb,i7 (i9 e f1),i7 hb]; exact e
 ·rcases bD.mp hb with rfl | hb
  ·exact f1
  ·rw [cX.mp hb]; exact f2
def Left (Pt p pa:aA) (H H':Hp):Prop:=∀ b o,b≠p->b≠Pt->b≠pa->H b=some o->H' b=some o
structure Fit (z:Str) (kt kg:Nat):Prop where
 z:Szw z
 t1:1<=kt
 t4:kt<=4
 g4:kg<=4
def a1Z (K:aE) (C Pt:aA):Sp:=λ vs H Q _=>∃ (p ha pa:aA) (kt kg:Nat) (z:Str) (L:Lev) (past:List Lev) (lo:List aA) (xs:List V) (hs:List j3),vs=[.ref p,.ref ha]/\KpAt K C H p kt kg z L past pa lo/\Fit z kt kg/\H ha=some (.lst xs)/\Bk K H xs hs/\(∀ g∈hs,HG (10 ^ 9) kt kg g)/\hs.length<=16 ∧
 ha≠pa/\past.length<=1000/\LT Pt H ∧
 ∀ (H':Hp) (wa:aA) (qs:List Q2),KpAt K C H' p kt kg z (hs,qs) (past++[L]) pa (ha::wa::lo)->Shs z hs kt kg qs->H wa=none->Left Pt p pa H H'->LT Pt H'->Q .non H'
theorem scTurnK:m6 ["self","houses","worth"] ["self","houses"] (j4 D6):=⟨rfl,rfl,rfl,by decide +kernel,rfl,by decide +kernel,by decide +kernel⟩
theorem b0T:(["number","self","houses"]:List Str).Nodup:=by decide +kernel
noncomputable def b4X {cdv:aC} {A:aY} {outer:List Env} {s:aD} {H:Hp} {E:XK} {f1:aA} {d1:aJ} (T:x8 mg) (Cs:L9 P w K mg base n "share" ["book","number","sizes"] (a0g K CN Pt) f1 d1) (hr:Room n (A.deeper (fY "Kept.turn_to" (j4 D6) s.heap.objs.size f cdv))) :
  { t:TS // PSs (M0 E1 P w K mg base ["self","houses","worth"] "Kept.turn_to" (j4 D6) f cdv A outer s H E).nox (w4 D6) t } :=
 ⟨_,v6 (a4P (i:=2) ["number"] [0,1] scTurnK.nd rfl rfl rfl (N0 rfl T.range (d0 (j8 m8 rfl T.len cD (d0 (pv 1) h8)) h8)) (λ _ _ _ _=>m9 (i:=0) b0T rfl (aM rfl))
   (λ _ _ _ _=>j6 (a3o Cs.ok) hr rfl Cs.m Cs.k Cs.b .nil a8r (d0 (pv 2) (d0 (pv 0) (d0 (a1V K rfl (pv 1) rfl) h8)))))
  (j0 (E8 (a5d lY lZ mD N4 (t9 (pv 0) rfl) (d0 (D3 (d0 (t9 (pv 0) rfl) (d0 (t9 (pv 0) rfl) h8))) h8)))
  (j0 (K2 (pv 0) (pv 1) rfl)
  (j5 (K2 (pv 0) (pv 2) rfl))))⟩
end
end Rim
namespace L2
open PySem
theorem LamTab.ne {P:aA} {pos:Pos} {qual:Str} {H:Hp} {b:aA} {o:HO} (T:LamTab P pos qual H) (h:H b=some o) (n:∀ ps,o≠.tbl ps):b≠P:=λ z=>by
 subst z;rcases T with t | ⟨c,t,_⟩
 ·rw [h] at t; exact n _ (bG t)
 ·rw [h] at t; exact n _ (bG t)
section
variable {fr:List Nat} {te:TE} {σ:St} {H1:Hp} {p:aA} {D:Hp->Prop} {P:aA} {pos:Pos} {qual:Str} {n:Nat}
theorem b0F (T:LamTab P pos qual H1) (hp:H1 p=none) (hz:n<sizeLine) (R:Nat->V->Hp->Prop)
  (hR:∀ i y H H',LamTab P pos qual H->(∃ zs,H p=some (.lst zs))->R i y H->(∀ b o,b≠p->b≠P->H b=some o->H' b=some o)->R i y H')
  (step:∀ (i:Nat) H ys (N:VK),i<n->Same1 P H1 H->LamTab P pos qual H->H p=some (.lst ys)->(∀ v H3,Same1 P H H3->LamTab P pos qual H3->R i v H3->N v H3)->te ((blkσ 1 fr σ).set 0 (some (.int (i:Int)))) H N)
  (hd:∀ ys H,Same1 P H1 H->LamTab P pos qual H->H p=some (.lst ys)->ys.length=n->(∀ i y,ys[i]?=some y->R i y H)->D H):lcW 1 fr (K9 0) te σ (Itr 0 n) H1 p D:=by
 refine ⟨λ i m ys H=>m=n - i/\i<=n/\Same1 P H1 H/\LamTab P pos qual H/\H p=some (.lst ys)/\ys.length=i/\∀ j y,ys[j]?=some y->R j y H,⟨n,by simp,dA _,(Same.new hp _).to1,T.same (Same.new hp _),upd_same,rfl,λ j y e=>by simp at e⟩,?_⟩;rintro i m ys H ⟨rfl,hi,e,L,hH,len,pr⟩
 by_cases hlt:i<n
 ·refine .inr ⟨hlt,λ x H' y=>?_⟩
  obtain ⟨rfl,rfl⟩:=y;rw [lW];refine ⟨Wk.set (by decide),step i _ _ _ hlt e L hH λ v H3 e3 L3 r3=>?_⟩;have h3:=e3.get L hH nofun;refine ⟨h3,by omega,n - (i+1),by omega,rfl,hlt,(e.trans e3).write hp,L3.write h3,upd_same,by rw [bF,len]; rfl,λ j y ey=>?_⟩;have up:∀ b o,b≠p->b≠P->H3 b=some o->upd H3 p (.lst (ys++[v])) b=some o:=λ b o hb _ q=>by rw [i7 hb]; exact q
  by_cases hj:j<ys.length
  ·rw [dB hj] at ey
   exact hR j y _ _ L ⟨_,hH⟩ (pr j y ey) λ b o hb hP q=>up b o hb hP (e3 _ _ hP q)
  ·rw [dP (by omega)] at ey
   have hj':j - ys.length=0:=by
    cases q:j - ys.length with
    | zero=>rfl
    | succ k=>rw [q] at ey; simp at ey
   rw [hj'] at ey;have:j=i:=by omega
   subst this;simp at ey;subst ey;exact hR j v _ _ L3 ⟨_,h3⟩ r3 up
 ·have:i=n:=by omega
  subst this;exact .inl ⟨Nat.le_refl _,hd ys H e L hH len pr⟩
end
end L2
namespace Rim
open PySem L2 Fr
section
variable {P:aL} {w:aI} {K:aE} {mg:Str->Option aC} {base:aG} {f C CN CB CT CL Pt:aA} {fd:aJ} {n:Nat}
theorem b3H {H:Hp} {ys:List V} {R:Nat->Q2->Prop}:(∀ (i:Nat) y,ys[i]?=some y->∃ q,R i q/\FrT H y q)->∃ qs:List Q2,cW (FrT H) ys qs/\∀ (i:Nat) q,qs[i]?=some q->R i q:=by
 induction ys generalizing R with
 | nil=>exact λ _=>⟨[],.nil,λ i q e=>by simp at e⟩
 | cons y ys ih =>
  intro h;obtain ⟨q,r,hq⟩:=h 0 y rfl;obtain ⟨qs,p,k⟩:=ih (R:=λ i q=>R (i+1) q) λ i z e=>h (i+1) z (by simpa using e);refine ⟨q::qs,.cons hq p,λ i q' e=>?_⟩
  cases i with
  | zero=>simp at e; subst e; exact r
  | succ i=>exact k i q' (by simpa using e)
theorem a9v {f1:aA} {d1:aJ} (F:Fun K "turn_to" "Kept.turn_to" D6 f fd) (T:x8 mg) (TKd:TK K C) (Cs:L9 P w K mg base n "share" ["book","number","sizes"] (a0g K CN Pt) f1 d1) :
  FnOk P w K mg base E1 (n+1) f fd ["self","houses"] (a1Z K C Pt):=by
 refine F.ok scTurnK (λ vs H Q E h=>?_) (λ cdv A outer s H vs Q E hr h=>?_)
 ·obtain ⟨p,ha,pa,kt,kg,z,L,past,lo,xs,hs,rfl,_⟩:=h
  rfl
 obtain ⟨p,ha,pa,kt,kg,z,L,past,lo,xs,hs,rfl,KP,ft,hha,hB,hG,h16,nha,hpl,LTH,q⟩:=h;refine ⟨_,(b4X T Cs hr).2,?_⟩;obtain ⟨dx,ta,wa,pv,hp,hlv,hpa,hps⟩:=KP.ex;have xl:xs.length=hs.length:=dH hB;have small:=p6 (show xs.length<=1000 by omega);refine ⟨λ σ' H'=>∃ wl ys qs,σ'=[some (.ref p),some (.ref ha),some (.ref wl)]/\Same1 Pt H H'/\LT Pt H'/\H wl=none/\H' wl=some (.lst ys)/\cW (FrT H') ys qs/\Shs z hs kt kg qs,?_,?_⟩
 ·refine ⟨_,rfl,ha,_,rfl,.inl (SqL.of hha),_,rfl,by omega,by omega,λ wl hwl=>?_⟩
  refine b0F (P:=Pt) (pos:=a8M) (qual:=b4o) LTH hwl small (λ i y H'=>∃ q h A B,(hs[i]?=some h/\ShU z hs h kt kg A B/\q=low A B)/\FrT H' y q) (λ i y H1 H2 L1 hz r k=>?_) (λ i H1 ys N' hi e1 L1 hp1 hN=>?_) (λ ys H1 e1 L1 hp1 len pr=>?_)
  ·obtain ⟨zs,hzs⟩:=hz
   obtain ⟨q,h,A,B,x,a,rfl,r⟩:=r;exact ⟨q,h,A,B,x,a,rfl,k _ _ (G9 r hzs nofun) (L1.ne r nofun) r⟩
  ·have bin:BookIn K H1 ha xs hs (10 ^ 9) kt kg:=⟨SqL.of (e1.get LTH hha nofun),Bk.same1 LTH e1 hB,hG,by decide,h16,by have:=ft.t4; omega,by have:=ft.g4; omega⟩
   refine ⟨_,rfl,_,rfl,_,rfl,p,C,dx,_,_,rfl,e1.get LTH hp nofun,TKd.cl,TKd.nS,rfl,ha,xs,hs,(i:Int),z,10 ^ 9,kt,kg,rfl,ft.z,bin,ft.t1,Z8 (by omega),L1,λ i' h' A' B' H7 u' hi' hh' X' e7 L7 hu'=>?_,λ bad=>absurd ⟨by omega,by omega⟩ bad⟩;have:i'=i:=by omega
   subst this;exact hN _ _ e7 L7 ⟨_,h',A',B',⟨hh',X',rfl⟩,hu'⟩
  ·obtain ⟨qs,pq,kq⟩:=b3H (H:=H1) (ys:=ys) (R:=λ i q=>∃ h A B,hs[i]?=some h/\ShU z hs h kt kg A B/\q=low A B) λ i y e=>by
    obtain ⟨q,h,A,B,x,r⟩:=pr i y e;exact ⟨q,⟨h,A,B,x⟩,r⟩
   refine ⟨wl,ys,qs,rfl,e1,L1,hwl,hp1,pq,by rw [<- pq.length,len,xl]; simp,λ i h q hh hq=>?_⟩;obtain ⟨h',A,B,hh',X,e⟩:=kq i q hq;rw [hh] at hh'; cases hh';exact ⟨A,B,X,e⟩
 intro σ1 H1 hM_; refine E9 λ G_ hG_=>?_; obtain ⟨wl,ys,qs,rfl,e1,L1,hwl,hwl1,pq,sh⟩:=hM_; subst hG_;have g1:∀ {b:aA} {o:HO},H b=some o->(∀ ps,o≠.tbl ps)->H1 b=some o:=λ h n=>e1.get LTH h n;have hp1:=g1 hp nofun;have hpa1:=g1 hpa nofun;refine ⟨_,rfl,p,C,dx,_,_,rfl,hp1,TKd.cl,TKd.nP,rfl,.inl ⟨rfl,_,SqL.of hpa1⟩,?_⟩;refine ⟨_,rfl,p,C,dx,_,_,rfl,hp1,TKd.cl,TKd.nH,rfl,_,rfl,p,C,dx,_,_,rfl,hp1,TKd.cl,TKd.nW,rfl,(by show 2<=sizeLine; decide),λ t ht=>?_⟩;have s2:=Same.new ht (.tup [V.ref ta,V.ref wa]);have lpv:pv.length=past.length:=hps.length;refine ⟨pa,_,_,rfl,rfl,s2 _ _ hpa1,eJ (show pv.length<=1000 by omega) (by decide),?_⟩;have npp:p≠pa:=G9 hp hpa nofun;refine ⟨_,rfl,_,rfl,p,C,dx,_,rfl,by rw [i7 npp]; exact s2 _ _ hp1,TKd.cl,TKd.nH,(by show 6<1000; decide),?_⟩;refine ⟨_,rfl,_,rfl,p,C,dx,_,rfl,upd_same,TKd.cl,TKd.nW,(by show 6<1000; decide),?_⟩;rw [W2];have nt:t≠pa:=(i9 hpa1 ht).symm;have ntp:t≠p:=(i9 hp1 ht).symm;have nwp:wl≠p:=G9 hwl1 hp1 nofun;have nwa:wl≠pa:=λ z0=>by subst z0; rw [hpa] at hwl; cases hwl
 have nwt:wl≠t:=i9 hwl1 ht;have nhp:ha≠p:=G9 hha hp nofun;have hha1:=g1 hha nofun;have fr:Fr0 (λ b=>b=p\/b=pa\/b=Pt) H (upd (upd (upd H1 t (HO.tup [V.ref ta,V.ref wa])) pa (HO.lst (pv++[V.ref t]))) p (HO.ins C dx (U3 "worth" (V.ref wl) (U3 "there" (V.ref ha) (KFs kt kg z ta wa pa))))):=by
  refine ⟨λ b o hx e=>?_,λ x hx=>?_⟩
  ·have n1:b≠p:=λ z=>hx (.inl z)
   have n2:b≠pa:=λ z=>hx (.inr (.inl z));have n3:b≠Pt:=λ z=>hx (.inr (.inr z));rw [i7 n1,i7 n2];exact s2 _ _ (e1 _ _ n3 e)
  ·rcases hx with rfl | rfl | rfl
   ·exact a1x hp
   ·exact a1c hpa
   ·exact a1n LTH
 have fr1:Fr0 (λ b=>b=p\/b=pa) H1 (upd (upd (upd H1 t (HO.tup [V.ref ta,V.ref wa])) pa (HO.lst (pv++[V.ref t]))) p (HO.ins C dx (U3 "worth" (V.ref wl) (U3 "there" (V.ref ha) (KFs kt kg z ta wa pa))))):=by
  refine ⟨λ b o hx e=>?_,λ x hx=>?_⟩
  ·rw [i7 λ z=>hx (.inl z),i7 λ z=>hx (.inr z)]
   exact s2 _ _ e
  ·rcases hx with rfl | rfl
   ·exact a1x hp1
   ·exact a1c hpa1
 have nlo:∀ b∈lo,¬ (b=p\/b=pa\/b=Pt):=λ b hb hx=>by
  obtain ⟨zs,hz⟩:=KP.ls b hb;rcases hx with rfl | rfl | rfl
  ·rw [hp] at hz; cases hz
  ·exact KP.no hb
  ·exact LTH.ne hz nofun rfl
 refine q _ wl qs ⟨?_,λ b hb=>?_,dx,ha,wl,pv++[.ref t],upd_same,⟨.head _,.tail _ (.head _),⟨xs,fr.k _ _ ?_ hha,hB.fr0 fr⟩,ys,fr1.k _ _ ?_ hwl1,aS.imp' (λ _ _ r=>FrT.fr0 fr1 r) pq⟩,?_,?_⟩ sh hwl (λ b o n1 n2 n3 e=>fr.k b o (λ hx=>hx.elim n1 λ hx=>hx.elim n3 n2) e) ?_
 ·intro hb
  rcases bD.mp hb with z0 | hb
  ·exact nha z0.symm
  ·rcases bD.mp hb with z0 | hb
   ·exact nwa z0.symm
   ·exact KP.no hb
 ·rcases bD.mp hb with rfl | hb
  ·exact ⟨xs,fr1.k _ _ (λ hx=>hx.elim nhp nha) hha1⟩
  ·rcases bD.mp hb with rfl | hb
   ·exact ⟨ys,fr1.k _ _ (λ hx=>hx.elim nwp nwa) hwl1⟩
   ·obtain ⟨zs,hz⟩:=KP.ls b hb
    exact ⟨zs,fr.k _ _ (nlo b hb) hz⟩
 ·exact λ hx=>hx.elim nhp λ hx=>hx.elim nha (LTH.ne hha nofun)
 ·exact λ hx=>hx.elim nwp nwa
 ·rw [i7 npp.symm,upd_same]
 ·refine aS.app (hps.fr0 fr nlo λ b hb=>.tail _ (.tail _ hb)) (.cons ⟨t,ta,wa,rfl,?_,hlv.fr0 fr nlo λ b hb=>.tail _ (.tail _ hb)⟩ .nil)
  rw [i7 ntp,i7 nt,upd_same]
 ·have L2:LT Pt (upd H1 t (HO.tup [V.ref ta,V.ref wa])):=L1.same s2
  have L3:=L2.write (o:=.lst (pv++[V.ref t])) (s2 _ _ hpa1);rcases L3 with x | ⟨c,x,y⟩
  ·exact .inl (by rw [i7 (λ z0=>by rw [z0,i7 npp,s2 _ _ hp1] at x; cases x)]; exact x)
  ·exact .inr ⟨c,by rw [i7 (λ z0=>by rw [z0,i7 npp,s2 _ _ hp1] at x; cases x)]; exact x,by rw [i7 (λ z0=>by rw [z0,i7 npp,s2 _ _ hp1] at y; cases y)]; exact y⟩
end
def b3v (K:aE) (H:Hp) (l:aA) (ps qs:List Q2):Prop:=∃ xs ys ts,FrL K H xs ps/\FrL K H ys qs/\H l=some (.lst ts)/\ChAt H xs ys (chI ps qs) ts
structure a2G (P:aL) (w:aI) (K:aE) (mg:Str->Option aC) (base:aG) (CX:CXT) (n:Nat) (C:aA) (m:Str) (ps:List Str) (sp:Sp) (f:aA) (fd:aJ):Prop where
 ok:FnOk P w K mg base CX n f fd ps sp
 bd:Binds K fd ps []
 me:a8p K C m f
section
variable {P:aL} {w:aI} {K:aE} {mg:Str->Option aC} {base:aG} {f C CN CB CT CL Pt:aA} {fd:aJ} {n:Nat}
theorem FrL.same {H H':Hp} {xs:List V} {ps:List Q2} (e:Same H H') (h:FrL K H xs ps):FrL K H' xs ps:=aS.imp' (λ _ _ r=>FrV.same e r) h
theorem W7 {H:Hp} {xs:List V} {ps:List Q2} (h:cW (FrT H) xs ps):FrL K H xs ps:=aS.imp' (λ _ _ r=>FrT.v r) h
theorem W4 {α β:Type} {F:α->β->Prop} {l:List α} {l':List β} (h:cW F l l'):l.length=l'.length:=h.length
theorem Left.free {p pa x:aA} {H H':Hp} (l:Left Pt p pa H H') (hp:H' p≠none) (hpa:H' pa≠none) (T:LT Pt H') (h:H' x=none):H x=none:=by
 cases q:H x with
 | none=>rfl
 | some o =>
  have n1:x≠p:=λ z=>hp (z ▸ h);have n2:x≠pa:=λ z=>hpa (z ▸ h);have n3:x≠Pt:=λ z=>by
   subst z;rcases T with t | ⟨c,t,_⟩ <;> (rw [h] at t; cases t)
  rw [l x o n1 n3 n2 q] at h; cases h
theorem a2c {α:Type} {l:List α} {k:Nat} (h:l.length=k+1):∃ a x,l=a++[x]/\a.length=k:=by
 refine ⟨l.dropLast,l.getLast (by intro z; rw [z] at h; simp at h),(qY _).symm,by rw [List.length_dropLast]; omega⟩
theorem a1M {α β:Type} {F:α->β->Prop}:∀ {a:List α} {b:List β} {x:α} {y:β},cW F (a++[x]) (b++[y])->cW F a b/\F x y
 | [],[],_,_,.cons r _=>⟨.nil,r⟩
 | [],_::b,_,_,.cons _ t=>by have:=t.length; simp at this
 | _::a,[],_,_,.cons _ t=>by have:=t.length; simp at this
 | _::a,_::b,_,_,.cons r t=>by
  obtain ⟨h1,h2⟩:=a1M t;exact ⟨.cons r h1,h2⟩
theorem a7P {H H':Hp} {xs ys:List V} {is:List Nat} {ts:List V} (e:Same H H') (h:ChAt H xs ys is ts):ChAt H' xs ys is ts:=h.same λ b zs q=>e b _ q
def a7f (K:aE) (C CB CT Pt:aA):Sp:=λ vs H Q E=>∃ (p pa:aA) (v:V) (h:j3) (kt kg:Nat) (z:Str) (L:Lev) (past:List Lev) (lo:List aA),vs=[.ref p,v]/\KpAt K C H p kt kg z L past pa lo/\Fit z kt kg/\HS K H v h/\a1i h/\(∀ g∈L.1,HG (10 ^ 9) kt kg g)/\L.1.length<=16/\L.2.length=L.1.length ∧
 past.length<=1000/\LT Pt H ∧
 (GoodK h kt kg->L.1.length<16->∀ (H':Hp) (ha wa r cl:aA) (u:V) (qs:List Q2) (x:Q2),KpAt K C H' p kt kg z (L.1++[h],qs++[x]) (past++[L]) pa (ha::wa::lo)->Shs z (L.1++[h]) kt kg (qs++[x])->H ha=none->H wa=none->Left Pt p pa H H'->LT Pt H' →
  H r=none->H' r=some (.tup [u,.ref cl])->FrT H' u x->H cl=none->b3v K H' cl L.2 qs->cl≠ha->cl≠wa->Q (.ref r) H') ∧
 (¬ GoodK h kt kg->∀ H',Same H H'->E (.ref CB) none H')/\(GoodK h kt kg->16<=L.1.length->∀ H',Same H H'->E (.ref CT) none H')
theorem scComeK:m6 ["self","house","ahead"] ["self","house"] (j4 X3):=⟨rfl,rfl,rfl,by decide +kernel,rfl,by decide +kernel,by decide +kernel⟩
theorem a9Q {f1 f2 f3:aA} {d1 d2 d3:aJ} (F:Fun K "come" "Kept.come" X3 f fd) (TKd:TK K C) (Ct:a2G P w K mg base E1 n C "turn_to" ["self","houses"] (a1Z K C Pt) f1 d1)
  (Co:L9 P w K mg base n "with_one_more" ["houses","house","many_takes","many_gives"] (a3e K CB CT) f2 d2) (Cc:Cal P w K mg base n "changes" ["ahead","behind"] (a6l K) f3 d3) :
  FnOk P w K mg base (Q7 P w) (n+1) f fd ["self","house"] (a7f K C CB CT Pt):=by
 refine F.ok1 scComeK (λ vs H Q E h=>?_) (λ cdv A outer s H vs Q E hr h=>?_)
 ·obtain ⟨p,pa,v,h,kt,kg,z,L,past,lo,rfl,_⟩:=h
  rfl
 obtain ⟨p,pa,v,h,kt,kg,z,L,past,lo,rfl,KP,ft,hH,hs,hG,h16,hql,hpl,LTH,q,hB,hT⟩:=h;refine ⟨_,j0 (o7 (i:=2) scComeK.nd rfl (aM rfl) (t9 (pv 0) rfl))
  (j0 (E8 (Q4 (pv 0) TKd.cl Ct.me Ct.ok hr Ct.bd .nil v5 (d0 (j6 Co.ok hr rfl Co.m Co.k Co.b .nil B9 (d0 (t9 (pv 0) rfl) (d0 (pv 1) (d0 (t9 (pv 0) rfl) (d0 (t9 (pv 0) rfl) h8))))) h8)))
  (PSs.nox (j5 (o8 (D3 (d0 (p7 j9 (t9 (pv 0) rfl) (R9 K3 i8) (λ _ _=>rfl)) (d0 (j6 Cc.ok hr rfl Cc.m Cc.k Cc.b .nil v5 (d0 (pv 2) (d0 (G1 M3 (t9 (pv 0) rfl) N8 (K1 (R9 K3 i8))) h8))) h8))))))),?_⟩
 obtain ⟨dx,ta,wa,pv0,hp,hlv,hpa,hps⟩:=KP.ex;obtain ⟨lv1,lv2,⟨xs,hta,hxs⟩,ys,hwa,hys⟩:=hlv;have xl:xs.length=L.1.length:=dH hxs;refine ⟨_,rfl,p,C,dx,_,_,rfl,hp,TKd.cl,TKd.nW,rfl,?_⟩;refine ⟨_,rfl,p,dx,_,rfl,hp,rfl,?_⟩;refine ⟨_,rfl,p,C,dx,_,_,rfl,hp,TKd.cl,TKd.nH,rfl,_,rfl,_,rfl,p,C,dx,_,_,rfl,hp,TKd.cl,TKd.nT,rfl,_,rfl,p,C,dx,_,_,rfl,hp,TKd.cl,TKd.nG,rfl,?_⟩;refine ⟨ta,v,xs,h,(kt:Int),(kg:Int),rfl,hta,by omega,hH,hs,Z8 (by have:=ft.t4; omega),Z8 (by have:=ft.g4; omega),λ g1 l16 r H1 e1 hr0 hr1=>?_,λ bad H1 e1=>hB bad H1 e1,λ g1 l16 H1 e1=>hT g1 (by omega) H1 e1⟩;have nrpa:r≠pa:=λ z0=>by subst z0; rw [hpa] at hr0; cases hr0
 have gh:=g1.hg;refine ⟨p,r,pa,kt,kg,z,L,past,lo,xs++[v],L.1++[h],rfl,KP.same e1,ft,hr1,aS.app (Bk.same e1 hxs) (.cons (hH.same e1) .nil),λ g hg=>?_,by rw [bF,fN]; omega,nrpa,hpl,LTH.same e1,λ H2 wl qs KP2 sh hwl lf L2=>?_⟩
 ·rcases bU.mp hg with hg | hg
  ·exact hG g hg
  ·rw [cX.mp hg]; exact gh
 have lf0:Left Pt p pa H H2:=λ b o n1 n2 n3 q0=>lf b o n1 n2 n3 (e1 _ _ q0);have qlen:qs.length=L.1.length+1:=by rw [sh.1,bF]; rfl
 obtain ⟨qs0,x,rfl,ql0⟩:=a2c qlen;obtain ⟨dx2,ta2,wa2,pv2,hp2,⟨m1,m2,_,ys2,hwa2,hys2⟩,hpa2,_⟩:=KP2.ex;have yl2:ys2.length=L.1.length+1:=by rw [W4 hys2,qlen]
 obtain ⟨ys0,u,rfl,yl0⟩:=a2c yl2;obtain ⟨hy0,hu⟩:=a1M hys2;have nwp:wa≠p:=G9 hwa hp nofun;have nwa:wa≠pa:=λ z0=>KP.no (z0 ▸ lv2);have nwt:wa≠Pt:=LTH.ne hwa nofun;have hwa':H2 wa=some (.lst ys):=lf0 wa _ nwp nwt nwa hwa;have hys':cW (FrT H2) ys L.2:=aS.imp' (λ v q ⟨a,h1,h2⟩=>⟨a,h1,lf0 a _ (G9 h2 hp nofun) (LTH.ne h2 nofun) (G9 h2 hpa nofun) h2⟩) hys;have yl:ys.length=L.2.length:=W4 hys;refine ⟨_,rfl,p,C,dx2,_,_,rfl,hp2,TKd.cl,TKd.nW,rfl,_,rfl,wa2,_,_,_,rfl,rfl,SqL.of hwa2,b0c ys0 u,?_⟩;refine ⟨_,rfl,_,rfl,p,C,dx2,_,_,rfl,hp2,TKd.cl,TKd.nW,rfl,_,rfl,_,rfl,wa2,_,rfl,SqL.of hwa2,λ c0 hc0=>?_⟩;rw [(a8Y (ys0++[u]) (by simp)).1];have ec:(ys0++[u]).take ((ys0++[u]).length - 1)=ys0:=by simp
 rw [ec];have s3:=Same.new hc0 (.lst ys0);refine ⟨wa,c0,ys,ys0,L.2,qs0,rfl,SqL.of (s3 _ _ hwa'),SqL.of upd_same,FrL.same s3 (W7 hys'),FrL.same s3 (W7 hy0),by omega,λ cl ts H4 e4 hcl0 hcl ch=>?_⟩;refine ⟨(by show 2<=sizeLine; decide),λ rt hrt=>?_⟩;have s5:=Same.new hrt (.tup [u,V.ref cl]);have s25:=s3.trans (e4.trans s5);have free:∀ {b:aA},H2 b=none->H b=none:=λ h=>e1.free (lf.free (by rw [hp2]; nofun) (by rw [hpa2]; nofun) L2 h);have hclN:H2 cl=none:=s3.free hcl0;have hrtN:H2 rt=none:=(s3.trans e4).free hrt;have ncl:∀ b∈r::wl::lo,cl≠b:=λ b hb z0=>by
  subst z0;obtain ⟨zs,hz⟩:=KP2.ls cl hb;rw [hz] at hclN; cases hclN
 refine q g1 (by omega) _ r wl rt cl u qs0 x (KP2.same s25) sh hr0 (e1.free hwl) (λ b o n1 n2 n3 q0=>s25 _ _ (lf0 b o n1 n2 n3 q0)) (L2.same s25) (free hrtN) upd_same (hu.same s25) (free hclN) ?_ (ncl r (.head _)) (ncl wl (.tail _ (.head _)));exact ⟨ys,ys0,ts,FrL.same s25 (W7 hys'),FrL.same s25 (W7 hy0),s5 _ _ hcl,a7P s5 ch⟩
end
theorem a2j {α β:Type} {F:α->β->Prop} {a:List α} {b:List β} (i:Nat) (h:cW F a b):cW F (U2 a i) (U2 b i):=aS.app (aS.take i h) (aS.drop (i+1) h)
section
variable {P:aL} {w:aI} {K:aE} {mg:Str->Option aC} {base:aG} {f C CN CB CT CL Pt:aA} {fd:aJ} {n:Nat}
def b2h (K:aE) (C CN Pt:aA):Sp:=λ vs H Q E=>∃ (p pa:aA) (num:Int) (kt kg:Nat) (z:Str) (L:Lev) (past:List Lev) (lo:List aA),vs=[.ref p,.int num]/\KpAt K C H p kt kg z L past pa lo/\Fit z kt kg/\(∀ g∈L.1,HG (10 ^ 9) kt kg g)/\L.1.length<=16/\L.2.length=L.1.length ∧
 past.length<=1000/\num.natAbs.log2<1920/\LT Pt H ∧
 (∀ i:Nat,num=(i:Int)->i<L.1.length->∀ (H':Hp) (ha wa cl:aA) (qs:List Q2),KpAt K C H' p kt kg z (U2 L.1 i,qs) (past++[L]) pa (ha::wa::lo)->Shs z (U2 L.1 i) kt kg qs->H ha=none->H wa=none->Left Pt p pa H H'->LT Pt H' →
  H cl=none->b3v K H' cl (U2 L.2 i) qs->cl≠ha->cl≠wa->Q (.ref cl) H') ∧
 (¬ J4 L.1.length num->∀ H',Same H H'->E (.ref CN) none H')
theorem scGoK:m6 ["self","number","houses","ahead"] ["self","number"] (j4 a1d):=⟨rfl,rfl,rfl,by decide +kernel,rfl,by decide +kernel,by decide +kernel⟩
theorem b3N {f1 f2 f3:aA} {d1 d2 d3:aJ} (F:Fun K "go" "Kept.go" a1d f fd) (TKd:TK K C) (Ct:a2G P w K mg base E1 n C "turn_to" ["self","houses"] (a1Z K C Pt) f1 d1)
  (Cw:L9 P w K mg base n "without" ["houses","number"] (a1h K CN) f2 d2) (Cc:Cal P w K mg base n "changes" ["ahead","behind"] (a6l K) f3 d3) :
  FnOk P w K mg base (Q7 P w) (n+1) f fd ["self","number"] (b2h K C CN Pt):=by
 refine F.ok1 scGoK (λ vs H Q E h=>?_) (λ cdv A outer s H vs Q E hr h=>?_)
 ·obtain ⟨p,pa,num,kt,kg,z,L,past,lo,rfl,_⟩:=h
  rfl
 obtain ⟨p,pa,num,kt,kg,z,L,past,lo,rfl,KP,ft,hG,h16,hql,hpl,lm,LTH,q,hN⟩:=h;refine ⟨_,j0 (o7 (i:=2) scGoK.nd rfl (aM rfl) (j6 Cw.ok hr rfl Cw.m Cw.k Cw.b .nil B9 (d0 (t9 (pv 0) rfl) (d0 (pv 1) h8))))
  (j0 (o7 (i:=3) scGoK.nd rfl (aM rfl) (j6 Cw.ok hr rfl Cw.m Cw.k Cw.b .nil B9 (d0 (t9 (pv 0) rfl) (d0 (pv 1) h8))))
  (PSs.nox (j0 (E8 (Q4 (pv 0) TKd.cl Ct.me Ct.ok hr Ct.bd .nil v5 (d0 (pv 2) h8)))
  (j5 (o8 (j6 Cc.ok hr rfl Cc.m Cc.k Cc.b .nil v5 (d0 (pv 3) (d0 (t9 (pv 0) rfl) h8)))))))),?_⟩
 obtain ⟨dx,ta,wa,pv0,hp,hlv,hpa,hps⟩:=KP.ex;obtain ⟨lv1,lv2,⟨xs,hta,hxs⟩,ys,hwa,hys⟩:=hlv;have xl:xs.length=L.1.length:=dH hxs;have yl:ys.length=L.2.length:=W4 hys;refine ⟨_,rfl,p,C,dx,_,_,rfl,hp,TKd.cl,TKd.nH,rfl,_,rfl,ta,xs,num,rfl,SqL.of hta,by omega,lm,λ i r H1 hi hil e1 hr0 hr1=>?_,λ bad=>hN (by rw [<- xl]; exact bad) H (Same.refl _)⟩;subst hi;refine ⟨_,rfl,p,C,dx,_,_,rfl,e1 _ _ hp,TKd.cl,TKd.nW,rfl,_,rfl,wa,ys,(i:Int),rfl,SqL.of (e1 _ _ hwa),by omega,lm,λ i' r2 H2 hi' _ e2 hr20 hr21=>?_,λ bad=>absurd ⟨by omega,by omega⟩ bad⟩;have:i'=i:=by omega
 subst this;have e12:=e1.trans e2;have nrpa:r≠pa:=λ z0=>by subst z0; rw [hpa] at hr0; cases hr0
 refine ⟨_,rfl,p,dx,_,rfl,e12 _ _ hp,rfl,_,rfl,?_⟩;refine ⟨p,r,pa,kt,kg,z,L,past,lo,U2 xs i',U2 L.1 i',rfl,KP.same e12,ft,e2 _ _ hr1,Bk.same e12 (hxs.out i'),λ g hg=>hG g (a4s hg),cO a2g h16,nrpa,hpl,LTH.same e12,λ H3 wl qs KP2 sh hwl lf L2=>?_⟩;have lf0:Left Pt p pa H H3:=λ b o n1 n2 n3 q0=>lf b o n1 n2 n3 (e12 _ _ q0);obtain ⟨dx2,ta2,wa2,pv2,hp2,⟨m1,m2,_,ys2,hwa2,hys2⟩,hpa2,_⟩:=KP2.ex;have nr2p:r2≠p:=G9 hr21 (e12 _ _ hp) nofun;have nr2a:r2≠pa:=λ z0=>by subst z0; rw [e1 _ _ hpa] at hr20; cases hr20
 have nr2t:r2≠Pt:=(LTH.same e12).ne hr21 nofun;have hr23:H3 r2=some (.lst (U2 ys i')):=lf r2 _ nr2p nr2t nr2a hr21;have hys':cW (FrT H3) ys L.2:=aS.imp' (λ v q ⟨a,h1,h2⟩=>⟨a,h1,lf0 a _ (G9 h2 hp nofun) (LTH.ne h2 nofun) (G9 h2 hpa nofun) h2⟩) hys;have ll:(U2 ys i').length<=1000:=cO a2g (by omega);refine ⟨_,rfl,_,rfl,p,C,dx2,_,_,rfl,hp2,TKd.cl,TKd.nW,rfl,r2,wa2,U2 ys i',ys2,U2 L.2 i',qs,rfl,SqL.of hr23,SqL.of hwa2,W7 (a2j i' hys'),W7 hys2,ll,λ cl ts H4 e4 hcl0 hcl ch=>?_⟩;have free:∀ {b:aA},H3 b=none->H b=none:=λ h=>e12.free (lf.free (by rw [hp2]; nofun) (by rw [hpa2]; nofun) L2 h);have ncl:∀ b∈r::wl::lo,cl≠b:=λ b hb z0=>by
  subst z0;obtain ⟨zs,hz⟩:=KP2.ls cl hb;rw [hz] at hcl0; cases hcl0
 exact q i' rfl (by omega) H4 r wl cl qs (KP2.same e4) sh hr0 (e12.free hwl) (λ b o n1 n2 n3 q0=>e4 _ _ (lf0 b o n1 n2 n3 q0)) (L2.same e4) (free hcl0) ⟨_,_,ts,FrL.same e4 (W7 (a2j i' hys')),FrL.same e4 (W7 hys2),hcl,ch⟩ (ncl r (.head _)) (ncl wl (.tail _ (.head _)))
def a3k (K:aE) (C:aA):Sp:=λ vs H Q _=>∃ (p pa:aA) (kt kg:Nat) (z:Str) (L:Lev) (past:List Lev) (lo:List aA),vs=[.ref p]/\KpAt K C H p kt kg z L past pa lo ∧
 ∀ (l:aA) (xs:List V) (H':Hp),Same H H'->H l=none->H' l=some (.lst xs)->Bk K H' xs L.1->Q (.ref l) H'
theorem a7W:m6 ["self"] ["self"] (j4 T7):=⟨rfl,rfl,rfl,by decide +kernel,rfl,by decide +kernel,by decide +kernel⟩
theorem a5H (F:Fun K "houses" "Kept.houses" T7 f fd) (T:x8 mg) (TKd:TK K C):FnOk P w K mg base E1 (n+1) f fd ["self"] (a3k K C):=by
 refine F.ok a7W (λ vs H Q E h=>?_) (λ cdv A outer s H vs Q E hr h=>?_)
 ·obtain ⟨p,pa,kt,kg,z,L,past,lo,rfl,_⟩:=h
  rfl
 obtain ⟨p,pa,kt,kg,z,L,past,lo,rfl,KP,q⟩:=h;refine ⟨_,j5 (o8 (v8 A6 rfl T.list fG (d0 (t9 (pv 0) rfl) h8))),?_⟩;obtain ⟨dx,ta,wa,pv0,hp,⟨lv1,lv2,⟨xs,hta,hxs⟩,ys,hwa,hys⟩,hpa,hps⟩:=KP.ex;refine ⟨_,rfl,p,C,dx,_,_,rfl,hp,TKd.cl,TKd.nH,rfl,ta,xs,rfl,.inl (SqL.of hta),λ l hl=>?_⟩;have s1:=Same.new hl (.lst xs);exact q l xs _ s1 hl upd_same (Bk.same s1 hxs)
end
section
variable {P:aL} {w:aI} {K:aE} {mg:Str->Option aC} {base:aG} {f C CN CB CT CL Pt:aA} {fd:aJ} {n:Nat}
def a5G {α:Type} (l:List α) (i:Nat) (x:α):List α:=(l.take i++[x])++l.drop (i+1)
def a4y (K:aE) (C CN CB Pt:aA):Sp:=λ vs H Q E=>∃ (p pa:aA) (num:Int) (v:V) (h:j3) (kt kg:Nat) (z:Str) (L:Lev) (past:List Lev) (lo:List aA),vs=[.ref p,.int num,v]/\KpAt K C H p kt kg z L past pa lo/\Fit z kt kg/\HS K H v h/\a1i h/\(∀ g∈L.1,HG (10 ^ 9) kt kg g)/\L.1.length<=16/\L.2.length=L.1.length ∧
 past.length<=1000/\num.natAbs.log2<1920/\LT Pt H ∧
 (∀ i:Nat,num=(i:Int)->i<L.1.length->GoodK h kt kg->∀ (H':Hp) (ha wa cl:aA) (qs:List Q2),KpAt K C H' p kt kg z (a5G L.1 i h,qs) (past++[L]) pa (ha::wa::lo)->Shs z (a5G L.1 i h) kt kg qs->H ha=none->H wa=none->Left Pt p pa H H'->LT Pt H' →
  H cl=none->b3v K H' cl L.2 qs->cl≠ha->cl≠wa->Q (.ref cl) H') ∧
 (¬ J4 L.1.length num->∀ H',Same H H'->E (.ref CN) none H')/\(J4 L.1.length num->¬ GoodK h kt kg->∀ H',Same H H'->E (.ref CB) none H')
theorem scAlterK:m6 ["self","number","house","ahead"] ["self","number","house"] (j4 V2):=⟨rfl,rfl,rfl,by decide +kernel,rfl,by decide +kernel,by decide +kernel⟩
theorem b0a {α:Type} {l:List α} {i:Nat} {x g:α} (h:g∈a5G l i x):g=x\/g∈l:=by
 unfold a5G at h;simp only [bU,cX] at h;rcases h with (h | h) | h
 ·exact .inr (gR h)
 ·exact .inl h
 ·exact .inr (gS h)
theorem b0r {α:Type} {l:List α} {i:Nat} {x:α} (h:i<l.length):(a5G l i x).length=l.length:=by unfold a5G; simp; omega
theorem a7R {f1 f2 f3:aA} {d1 d2 d3:aJ} (F:Fun K "alter" "Kept.alter" V2 f fd) (TKd:TK K C) (Ct:a2G P w K mg base E1 n C "turn_to" ["self","houses"] (a1Z K C Pt) f1 d1)
  (Ca:L9 P w K mg base n "with_another" ["houses","number","house","many_takes","many_gives"] (a3f K CN CB) f2 d2) (Cc:Cal P w K mg base n "changes" ["ahead","behind"] (a6l K) f3 d3) :
  FnOk P w K mg base (Q7 P w) (n+1) f fd ["self","number","house"] (a4y K C CN CB Pt):=by
 refine F.ok1 scAlterK (λ vs H Q E h=>?_) (λ cdv A outer s H vs Q E hr h=>?_)
 ·obtain ⟨p,pa,num,v,h,kt,kg,z,L,past,lo,rfl,_⟩:=h
  rfl
 obtain ⟨p,pa,num,v,h,kt,kg,z,L,past,lo,rfl,KP,ft,hH,hs,hG,h16,hql,hpl,lm,LTH,q,hN,hB⟩:=h;refine ⟨_,j0 (o7 (i:=3) scAlterK.nd rfl (aM rfl) (t9 (pv 0) rfl))
  (j0 (E8 (Q4 (pv 0) TKd.cl Ct.me Ct.ok hr Ct.bd .nil v5 (d0 (j6 Ca.ok hr rfl Ca.m Ca.k Ca.b .nil B9 (d0 (t9 (pv 0) rfl) (d0 (pv 1) (d0 (pv 2) (d0 (t9 (pv 0) rfl) (d0 (t9 (pv 0) rfl) h8)))))) h8)))
  (PSs.nox (j5 (o8 (j6 Cc.ok hr rfl Cc.m Cc.k Cc.b .nil v5 (d0 (pv 3) (d0 (t9 (pv 0) rfl) h8))))))),?_⟩
 obtain ⟨dx,ta,wa,pv0,hp,hlv,hpa,hps⟩:=KP.ex;obtain ⟨lv1,lv2,⟨xs,hta,hxs⟩,ys,hwa,hys⟩:=hlv;have xl:xs.length=L.1.length:=dH hxs;have yl:ys.length=L.2.length:=W4 hys;refine ⟨_,rfl,p,C,dx,_,_,rfl,hp,TKd.cl,TKd.nW,rfl,?_⟩;refine ⟨_,rfl,p,dx,_,rfl,hp,rfl,?_⟩;refine ⟨_,rfl,p,C,dx,_,_,rfl,hp,TKd.cl,TKd.nH,rfl,_,rfl,_,rfl,_,rfl,p,C,dx,_,_,rfl,hp,TKd.cl,TKd.nT,rfl,_,rfl,p,C,dx,_,_,rfl,hp,TKd.cl,TKd.nG,rfl,?_⟩;refine ⟨ta,v,xs,h,num,(kt:Int),(kg:Int),rfl,hta,by omega,hH,hs,lm,Z8 (by have:=ft.t4; omega),Z8 (by have:=ft.g4; omega),λ i hi hil g1 r H1 e1 hr0 hr1=>?_,λ bad H1 e1=>hN (by rw [<- xl]; exact bad) H1 e1,λ gd bad H1 e1=>hB (by rw [<- xl]; exact gd) bad H1 e1⟩;subst hi;have nrpa:r≠pa:=λ z0=>by subst z0; rw [hpa] at hr0; cases hr0
 refine ⟨p,r,pa,kt,kg,z,L,past,lo,_,a5G L.1 i h,rfl,KP.same e1,ft,hr1,aS.app (aS.app (aS.take i (Bk.same e1 hxs)) (.cons (hH.same e1) .nil)) (aS.drop (i+1) (Bk.same e1 hxs)),λ g hg=>?_,by rw [b0r (by omega)]; exact h16,nrpa,hpl,LTH.same e1,λ H3 wl qs KP2 sh hwl lf L2=>?_⟩
 ·rcases b0a hg with rfl | hg
  ·exact g1.hg
  ·exact hG g hg
 have lf0:Left Pt p pa H H3:=λ b o n1 n2 n3 q0=>lf b o n1 n2 n3 (e1 _ _ q0);obtain ⟨dx2,ta2,wa2,pv2,hp2,⟨m1,m2,_,ys2,hwa2,hys2⟩,hpa2,_⟩:=KP2.ex;have nwp:wa≠p:=G9 hwa hp nofun;have nwa:wa≠pa:=λ z0=>KP.no (z0 ▸ lv2);have nwt:wa≠Pt:=LTH.ne hwa nofun;have hwa':H3 wa=some (.lst ys):=lf0 wa _ nwp nwt nwa hwa;have hys':cW (FrT H3) ys L.2:=aS.imp' (λ v q ⟨a,h1,h2⟩=>⟨a,h1,lf0 a _ (G9 h2 hp nofun) (LTH.ne h2 nofun) (G9 h2 hpa nofun) h2⟩) hys;refine ⟨_,rfl,_,rfl,p,C,dx2,_,_,rfl,hp2,TKd.cl,TKd.nW,rfl,wa,wa2,ys,ys2,L.2,qs,rfl,SqL.of hwa',SqL.of hwa2,W7 hys',W7 hys2,by omega,λ cl ts H4 e4 hcl0 hcl ch=>?_⟩;have free:∀ {b:aA},H3 b=none->H b=none:=λ h=>e1.free (lf.free (by rw [hp2]; nofun) (by rw [hpa2]; nofun) L2 h);have ncl:∀ b∈r::wl::lo,cl≠b:=λ b hb z0=>by
  subst z0;obtain ⟨zs,hz⟩:=KP2.ls cl hb;rw [hz] at hcl0; cases hcl0
 exact q i rfl (by omega) g1 H4 r wl cl qs (KP2.same e4) sh hr0 (e1.free hwl) (λ b o n1 n2 n3 q0=>e4 _ _ (lf0 b o n1 n2 n3 q0)) (L2.same e4) (free hcl0) ⟨_,_,ts,FrL.same e4 (W7 hys'),FrL.same e4 (W7 hys2),hcl,ch⟩ (ncl r (.head _)) (ncl wl (.tail _ (.head _)))
end
theorem a8d {D:Int} (hD:0<D):low D D=(1,1):=(b0m (t':=1) (b':=1) hD (by decide) (by omega)).trans (by decide)
theorem a6z {n:Nat} {x:Q2} (h:FrB n x):qd x x=(1,1):=by
 unfold qd;rw [bJ x.2 x.1];exact a8d (eF h.p1 h.p2)
section
variable {hs:List j3} {h:j3} {kt kg:Nat} {far A B k:Int}
end
section
variable {K:aE} {C Pt:aA} {H H':Hp} {p pa:aA} {lo:List aA} {kt kg:Nat} {z:Str} {L:Lev} {past:List Lev}
theorem b0k (T:LT Pt H) (e:Same1 Pt H H'):Fr0 (λ b=>b=Pt) H H':=⟨λ b o n h=>e b o n h,λ x hx=>by subst hx; exact a1n T⟩
theorem KpAt.same1 (T:LT Pt H) (e:Same1 Pt H H') (h:KpAt K C H p kt kg z L past pa lo):KpAt K C H' p kt kg z L past pa lo:=by
 obtain ⟨dx,ta,wa,pv0,hp,_,hpa,_⟩:=h.ex;refine h.fr0 (b0k T e) (λ b hb=>?_) (T.ne hp nofun) (T.ne hpa nofun);obtain ⟨zs,hz⟩:=h.ls b hb;exact T.ne hz nofun
end
theorem made {K:aE} {C:aA} {H:Hp} {Q:VK} {kt kg:Nat} {z:Str} {E:XK} (h:∀ p pa lo H',Same H H'->H p=none->H pa=none->(∀ b∈lo,H b=none)->KpAt K C H' p kt kg z ([],[]) [] pa lo->Q (.ref p) H') :
  ∀ x dx:aA,H x=none->H dx=none->dx≠x->a4g K C [.ref x,.int (kt:Int),.int (kg:Int),.str z] (upd (upd H dx (.own x)) x (.ins C dx [])) (λ v H'=>v=.non/\Q (.ref x) H') E:=by
 intro x dx hx hdx nd;have sx:∀ b o,H b=some o->(upd (upd H dx (.own x)) x (.ins C dx [])) b=some o:=λ b o q0=>by rw [i7 (i9 q0 hx),i7 (i9 q0 hdx)]; exact q0
 have fr:∀ b,(upd (upd H dx (.own x)) x (.ins C dx [])) b=none->H b=none:=λ b hb=>by
  cases q:H b with
  | none=>rfl
  | some o=>rw [sx b o q] at hb; cases hb
 exact ⟨x,dx,kt,kg,z,rfl,upd_same,λ H4 pa lo KP k f1 f2=>⟨rfl,h x pa lo H4 (λ b o q0=>k b o (i9 q0 hx) (sx b o q0)) hx (fr _ f1) (λ b hb=>fr b (f2 b hb)) KP⟩⟩
section
variable {P:aL} {w:aI} {K:aE} {mg:Str->Option aC} {base:aG} {f C Pt CN CB CM:aA} {fd:aJ} {n:Nat}
theorem Left.fr {p pa:aA} {H H':Hp} {dx:aA} {fs:List (Str×V)} {pv:List V} (l:Left Pt p pa H H') (hp:H p=some (.ins C dx fs)) (ha:H pa=some (.lst pv)) (T:LT Pt H):Fr0 (λ b=>b=p\/b=pa\/b=Pt) H H' :=
 ⟨λ b o hx e=>l b o (λ z=>hx (.inl z)) (λ z=>hx (.inr (.inr z))) (λ z=>hx (.inr (.inl z))) e,λ x hx=>by
  rcases hx with rfl | rfl | rfl
  ·exact a1x hp
  ·exact a1c ha
  ·exact a1n T⟩
structure b2v (P:aL) (w:aI) (K:aE) (mg:Str->Option aC) (base:aG) (n:Nat) (C CN CB CM Pt:aA) (a1 a2 a3 a4 a5 a6 a7 a8 a9 a10:aA) (d1 d2 d3 d4 d5 d6 d7 d8 d9 d10:aJ):Prop where
 co:L9 P w K mg base n "covers_house" ["book","one","other"] (b2z K CN) a1 d1
 al:L9 P w K mg base n "share_alone" ["book","number"] (b2L K CN) a2 d2
 sc:L9 P w K mg base n "scale" ["book","number"] (a6Y K CN Pt) a3 d3
 mv:L9 P w K mg base n "moved" ["before","after","number","sizes"] (a4L K CB CN Pt) a4 d4
 mr:L9 P w K mg base n "merged" ["book","numbers"] (b2q K CN CM) a5 d5
 at':a2G P w K mg base (Q7 P w) n C "alter" ["self","number","house"] (a4y K C CN CB Pt) a6 d6
 go:a2G P w K mg base (Q7 P w) n C "go" ["self","number"] (b2h K C CN Pt) a7 d7
 sh:L9 P w K mg base n "share" ["book","number","sizes"] (a0g K CN Pt) a8 d8
 gr:L9 P w K mg base n "growth" ["book","number","sizes"] (a4w K CN Pt) a9 d9
 ot:L9 P w K mg base n "share_of_others" ["book","number","sizes"] (a4F K CN Pt) a10 d10
theorem b3n:m6 ["door","book","number","kept"] ["door","book","number","kept"] (j4 E5):=⟨rfl,rfl,rfl,by decide +kernel,rfl,by decide +kernel,by decide +kernel⟩
noncomputable def b4i {cdv:aC} {A:aY} {outer:List Env} {s:aD} {H:Hp} {E:XK} {a1 a2 a3 a4 a5 a6 a7 a8 a9 a10:aA} {d1 d2 d3 d4 d5 d6 d7 d8 d9 d10:aJ} (TKd:TK K C) (D:b2v P w K mg base n C CN CB CM Pt a1 a2 a3 a4 a5 a6 a7 a8 a9 a10 d1 d2 d3 d4 d5 d6 d7 d8 d9 d10)
  (hr:Room n (A.deeper (fY "_law_a_door" (j4 E5) s.heap.objs.size f cdv))) :
  { t:TS // PSs (M0 (Q7 P w) P w K mg base ["door","book","number","kept"] "_law_a_door" (j4 E5) f cdv A outer s H E) (w4 E5) t } :=
 ⟨_,j0 (w8 (r6 K8 (pv 0) i8 (r8 _)) (j5 (o8 (j6 D.co.ok hr rfl D.co.m D.co.k D.co.b .nil B9 (d0 (pv 1) (d0 (pv 2) (d0 i8 h8)))))) t7)
  (j0 (w8 (r6 K8 (pv 0) i8 (r8 _)) (j5 (o8 (j6 D.co.ok hr rfl D.co.m D.co.k D.co.b .nil B9 (d0 (pv 1) (d0 i8 (d0 (pv 2) h8)))))) t7)
  (j0 (w8 (r6 K8 (pv 0) i8 (r8 _)) (j5 (o8 (j6 D.al.ok hr rfl D.al.m D.al.k D.al.b .nil B9 (d0 (pv 1) (d0 (pv 2) h8))))) t7)
  (j0 (w8 (r6 K8 (pv 0) i8 (r8 _)) (j5 (o8 (j6 D.sc.ok hr rfl D.sc.m D.sc.k D.sc.b .nil B9 (d0 (pv 1) (d0 (pv 2) h8))))) t7)
  (j0 (w8 (r6 K8 (pv 0) i8 (r8 _)) (j5 (o8 (j6 D.mv.ok hr rfl D.mv.m D.mv.k D.mv.b .nil B9 (d0 (pv 1) (d0 (pv 1) (d0 (pv 2) (d0 C5 h8))))))) t7)
  (j0 (w8 (r6 K8 (pv 0) i8 (r8 _)) (j5 (o8 (j6 D.mr.ok hr rfl D.mr.m D.mr.k D.mr.b .nil B9 (d0 (pv 1) (d0 (v7 (d0 (pv 2) h8)) h8))))) t7)
  (j0 (w8 (r6 K8 (pv 0) i8 (r8 _)) (j5 (o8 (Q4 (pv 3) TKd.cl D.at'.me D.at'.ok hr D.at'.bd .nil B9 (d0 (pv 2) (d0 (p7 j9 (pv 1) i8 (λ _ _=>rfl)) h8))))) t7)
  (j0 (w8 (r6 K8 (pv 0) i8 (r8 _)) (j5 (o8 (Q4 (pv 3) TKd.cl D.go.me D.go.ok hr D.go.bd .nil B9 (d0 (pv 2) h8)))) t7)
  (j0 (w8 (r6 K8 (pv 0) i8 (r8 _)) (j5 (o8 (j6 D.sh.ok hr rfl D.sh.m D.sh.k D.sh.b .nil B9 (d0 (pv 1) (d0 (pv 2) (d0 C5 h8)))))) t7)
  (j0 (w8 (r6 K8 (pv 0) i8 (r8 _)) (j5 (o8 (j6 D.gr.ok hr rfl D.gr.m D.gr.k D.gr.b .nil B9 (d0 (pv 1) (d0 (pv 2) (d0 C5 h8)))))) t7)
  (j5 (o8 (j6 D.ot.ok hr rfl D.ot.m D.ot.k D.ot.b .nil B9 (d0 (pv 1) (d0 (pv 2) (d0 C5 h8)))))))))))))))⟩
def a4C (K:aE) (C CN Pt:aA):Sp:=λ vs H Q E=>∃ (ba p pa:aA) (xs:List V) (hs:List j3) (door:Nat) (number:Int) (kt kg:Nat) (L:Lev) (past:List Lev) (lo:List aA),vs=[.int (door:Int),.ref ba,.int number,.ref p]/\BookIn K H ba xs hs (10 ^ 9) kt kg/\1<=hs.length/\1<=kt/\kt<=4/\1<=kg/\kg<=4/\number.natAbs.log2<1920/\KpAt K C H p kt kg "any" L past pa lo/\(∀ g∈L.1,HG (10 ^ 9) kt kg g)/\L.1.length<=hs.length/\L.2.length=L.1.length/\past.length<=1000/\LT Pt H ∧
 ((¬ J4 xs.length number/\∀ H',Same H H'->E (.ref CN) none H')\/(number=0/\((door=0/\∀ H',Same H H'->Q (.bl true) H')\/(door=4/\∀ (H':Hp) (t:aA) (c r:V),Same1 Pt H H'->LT Pt H'->H' t=some (.tup [c,r])->FrT H' c (1,1)->FrT H' r (1,1)->Q (.ref t) H')\/(door=5/\∀ (r:aA) (ys:List V) (H':Hp),Same H H'->H' r=some (.lst ys)->Bk K H' ys hs->Q (.ref r) H'))))
theorem a6t {r:List Int} {k:Nat} (h:r.length=k):a2z [r] k=r:=by
 unfold a2z col;refine eD λ i=>?_;rw [aQ]
 by_cases hi:i<k
 ·rw [bZ hi,aV (by omega)]
  show some (([r].map λ r=>r.getD i 0).sum)=_
  simp [aZ,aV (show i<r.length by omega)]
 ·rw [cK (by rw [fF]; omega),cK (by omega)]; rfl
theorem a8N {hs:List j3} {k kt kg:Nat} {h:j3} (hh:hs[k]?=some h) (l1:h.1.length=kt) (l2:h.2.length=kg):mgH hs [(k:Int)] kt kg=h:=by
 have e:a1k hs [(k:Int)]=[h]:=by
  unfold a1k;rw [cJ,bW,aZ,hh]; rfl
 unfold mgH;rw [e]
 show (a2z [h.1] kt,a2z [h.2] kg)=h
 rw [a6t l1,a6t l2]
theorem a4I (hs:List j3):∀ n,n<=hs.length->(aR n).filterMap (λ i=>hs[i]?)=hs.take n
 | 0,_=>rfl
 | n+1,h=>by
  rw [lX,wD,a4I hs n (by omega),lP,aV (by omega)];simp [aV (show n<hs.length by omega)]
theorem b1q {hs:List j3} {k kt kg:Nat} {h:j3} (hh:hs[k]?=some h) (l1:h.1.length=kt) (l2:h.2.length=kg):a9x hs [(k:Int)] kt kg (k:Int)=hs:=by
 unfold a9x;rw [a8N hh l1 l2,bW];have es:hs.set k h=hs:=by
  refine eD λ i=>?_
  by_cases hi:k=i
  ·subst hi
   rw [dI (bP.mp hh).1,hh]
  ·rw [bY hi]
 rw [es];have ef:(aR hs.length).filter (a0p [(k:Int)] (k:Int))=aR hs.length:=by
  refine List.filter_eq_self.mpr λ i _=>?_;unfold a0p
  by_cases hi:(i:Int)=(k:Int)
  ·rw [decide_eq_true hi]; rfl
  ·rw [decide_eq_false hi]
   simp [hi]
 rw [ef,a4I hs _ (aU _),oE]
theorem a9d {h:j3}:Cov h h:=λ _ _=>dR _
theorem b1E {H:Hp} {t:aA} {z:Str} {hs:List j3} {h:j3} {kt kg:Nat} {far:Int} (hz:Szw z) (m:MvV H t z hs hs h h kt kg) (hG:∀ g∈hs,HG far kt kg g) (gh:HG far kt kg h):∃ c r:V,H t=some (.tup [c,r])/\FrT H c (1,1)/\FrT H r (1,1):=by
 obtain ⟨c,r,x1,x2,ht,X1,X2,hc,q⟩:=m;have e:x2=x1:=X2.eq hz X1 hG gh;subst e;rw [a6z X2.b] at hc;refine ⟨c,r,ht,hc,?_⟩;rcases q with ⟨y1,y2,Y1,Y2,hr⟩ | ⟨_,N⟩
 ·rw [Y1.eq hz X2 hG gh,Y2.eq hz X2 hG gh,a6z X2.b,show qm (1,1) (1,1)=(1,1) by decide] at hr
  exact hr
 ·have N':IsNone z hs h kt kg:=N.elim id id
  obtain ⟨A,B,I,_⟩:=X2.s;exact (N'.notShare hz (λ g hg=>⟨(hG g hg).lt,(hG g hg).lg⟩) gh I).elim
theorem b1d {a1 a2 a3 a4 a5 a6 a7 a8 a9 a10:aA} {d1 d2 d3 d4 d5 d6 d7 d8 d9 d10:aJ} (F:Fun K "_law_a_door" "_law_a_door" E5 f fd) (TKd:TK K C) (D:b2v P w K mg base n C CN CB CM Pt a1 a2 a3 a4 a5 a6 a7 a8 a9 a10 d1 d2 d3 d4 d5 d6 d7 d8 d9 d10):FnOk P w K mg base (Q7 P w) (n+1) f fd ["door","book","number","kept"] (a4C K C CN Pt):=by
 refine F.ok1 b3n (λ vs H Q E h=>?_) (λ cdv A outer s H vs Q E hr h=>?_)
 ·obtain ⟨ba,p,pa,xs,hs,door,number,kt,kg,L,past,lo,rfl,_⟩:=h
  rfl
 obtain ⟨ba,p,pa,xs,hs,door,number,kt,kg,L,past,lo,rfl,B,n1,kt1,kt4,kg1,kg4,lm,KP,gL,lL,l2,lp,LTH,hq⟩:=h;refine ⟨_,(b4i TKd D hr).2,?_⟩;have xl:xs.length=hs.length:=dH B.b;have few:=B.few;have l0:(0:Int).natAbs.log2<1920:=by decide
 have kgl:∀ h∈hs,h.2.length=kg:=λ h hh=>(B.g h hh).lg;have ft:Fit "any" kt kg:=⟨.inl rfl,kt1,kt4,kg4⟩;obtain ⟨dx,ta,wa,pv0,hp,hlv,hpa,hps⟩:=KP.ex;obtain ⟨v0,hv0⟩:∃ v,xs[0]?=some v:=⟨_,aV (by omega)⟩;obtain ⟨h0,hh0,HS0⟩:=aS.at B.b hv0;have g0:=B.g h0 (bN hh0);rcases hq with ⟨bad,qE⟩ | ⟨rfl,hq⟩
 ·have ng:∀ {i:Nat} {h:j3},number=(i:Int)->hs[i]?=some h->False:=λ {i h} hi hh=>bad ⟨by omega,by have:=(bP.mp hh).1; omega⟩
  have badL:¬ J4 L.1.length number:=λ g=>bad ⟨g.1,by have:=g.2; omega⟩;have e0:=qE H (Same.refl _);refine ⟨_,rfl,rfl,_,rfl,w6 (λ _=>?_) (λ _=>?_)⟩
  ·exact ⟨_,rfl,_,rfl,ba,xs,hs,number,0,kg,rfl,B.l,B.b,kgl,by omega,lm,l0,λ i j h o hi hj hh hh'=>(ng hi hh).elim,λ _=>e0⟩
  refine ⟨_,rfl,rfl,_,rfl,w6 (λ _=>?_) (λ _=>?_)⟩
  ·exact ⟨_,rfl,_,rfl,ba,xs,hs,0,number,kg,rfl,B.l,B.b,kgl,by omega,l0,lm,λ i j h o hi hj hh hh'=>(ng hj hh').elim,λ _=>e0⟩
  refine ⟨_,rfl,rfl,_,rfl,w6 (λ _=>?_) (λ _=>?_)⟩
  ·exact ⟨_,rfl,_,rfl,ba,xs,hs,number,kt,kg,rfl,B.l,B.b,B.g,kt1,by omega,lm,λ i h hi hh=>(ng hi hh).elim,λ _=>e0⟩
  refine ⟨_,rfl,rfl,_,rfl,w6 (λ _=>?_) (λ _=>?_)⟩
  ·exact ⟨_,rfl,_,rfl,ba,xs,hs,number,10 ^ 9,kt,kg,rfl,B,kt1,lm,LTH,λ i h H' t hi hh=>(ng hi hh).elim,λ _=>e0⟩
  refine ⟨_,rfl,rfl,_,rfl,w6 (λ _=>?_) (λ _=>?_)⟩
  ·exact ⟨_,rfl,_,rfl,_,rfl,ba,ba,xs,xs,hs,hs,number,"less",10 ^ 9,kt,kg,kt,kg,rfl,.inr (.inr (.inl rfl)),B,B,n1,n1,kt1,lm,LTH,λ _ _=>⟨λ i h1 h2 hi hh1 hh2=>(ng hi hh1).elim,λ _=>e0⟩,λ nb=>absurd ⟨rfl,rfl⟩ nb⟩
  refine ⟨_,rfl,rfl,_,rfl,w6 (λ _=>?_) (λ _=>?_)⟩
  ·refine ⟨_,rfl,_,rfl,(by show 1<=sizeLine; decide),λ nl knl=>?_⟩
   have s1:=Same.new knl (.lst [V.int number]);have gd:¬ ∀ m∈[number],J4 xs.length m:=λ g=>bad (g number (.head _));exact ⟨ba,nl,xs,hs,[number],10 ^ 9,kt,kg,rfl,⟨s1.seq B.l,Bk.same s1 B.b,B.g,B.far,B.few,B.t,B.k⟩,kt1,kg1,SqL.of upd_same,aU _,(by show 1<=100; decide),λ m hm=>by rw [cX.mp hm]; exact lm,λ H' e' _=>qE H' (s1.trans e'),λ H' e' g=>absurd g gd,λ r ys place H' e' _ g=>absurd g gd⟩
  refine ⟨_,rfl,rfl,_,rfl,w6 (λ _=>?_) (λ _=>?_)⟩
  ·refine ⟨_,rfl,p,dx,_,rfl,hp,rfl,_,rfl,_,rfl,ba,_,0,_,rfl,rfl,B.l,B6 (j:=0) hv0,?_⟩
   exact ⟨p,pa,number,v0,h0,kt,kg,"any",L,past,lo,rfl,KP,ft,HS0,⟨by rw [g0.lt]; omega,by rw [g0.lg]; omega⟩,gL,by omega,l2,lp,lm,LTH,λ i hi hil=>absurd ⟨by omega,by omega⟩ badL,λ _ H' e'=>qE H' e',λ g=>absurd g badL⟩
  refine ⟨_,rfl,rfl,_,rfl,w6 (λ _=>?_) (λ _=>?_)⟩
  ·refine ⟨_,rfl,p,dx,_,rfl,hp,rfl,_,rfl,?_⟩
   exact ⟨p,pa,number,kt,kg,"any",L,past,lo,rfl,KP,ft,gL,by omega,l2,lp,lm,LTH,λ i hi hil=>absurd ⟨by omega,by omega⟩ badL,λ _ H' e'=>qE H' e'⟩
  refine ⟨_,rfl,rfl,_,rfl,w6 (λ _=>?_) (λ _=>?_)⟩
  ·exact ⟨_,rfl,_,rfl,ba,xs,hs,number,"more",10 ^ 9,kt,kg,rfl,.inr (.inr (.inr rfl)),B,lm,LTH,λ i h S H' u hi hh=>(ng hi hh).elim,λ _=>e0⟩
  refine ⟨_,rfl,rfl,_,rfl,w6 (λ _=>?_) (λ _=>?_)⟩
  ·exact ⟨_,rfl,_,rfl,ba,xs,hs,number,"any",10 ^ 9,kt,kg,rfl,.inl rfl,B,kt1,lm,LTH,λ i h S H' u hi hh=>(ng hi hh).elim,λ _=>e0⟩
  exact ⟨_,rfl,_,rfl,ba,xs,hs,number,"one",10 ^ 9,kt,kg,rfl,.inr (.inl rfl),B,kt1,lm,LTH,λ i h A B H' u hi hh=>(ng hi hh).elim,λ i h H' hi hh=>(ng hi hh).elim,λ _=>e0⟩
 ·have nb:∀ {m:Int},¬ ¬ J4 xs.length 0:=λ h=>h ⟨by omega,by omega⟩
  have at0:∀ {i:Nat} {h:j3},(0:Int)=(i:Int)->hs[i]?=some h->h=h0:=λ {i h} hi hh=>by
   have:i=0:=by omega
   subst this;rw [hh0] at hh; cases hh; rfl
  rcases hq with ⟨rfl,q⟩ | ⟨rfl,q⟩ | ⟨rfl,q⟩
  ·refine ⟨_,rfl,rfl,_,rfl,w6 (λ _=>?_) (λ c=>absurd (by decide) c)⟩
   refine ⟨_,rfl,_,rfl,ba,xs,hs,0,0,kg,rfl,B.l,B.b,kgl,by omega,l0,l0,λ i j h o hi hj hh hh' b H' e' hb=>?_,λ z=>z.elim (λ z=>absurd z (nb (m:=0))) (λ z=>absurd z (nb (m:=0)))⟩;rw [at0 hi hh,at0 hj hh'] at hb;have:b=true:=hb.mpr a9d;subst this;exact q H' e'
  ·refine ⟨_,rfl,rfl,_,rfl,w6 (λ c=>absurd c (by decide)) (λ _=>?_)⟩
   refine ⟨_,rfl,rfl,_,rfl,w6 (λ c=>absurd c (by decide)) (λ _=>?_)⟩;refine ⟨_,rfl,rfl,_,rfl,w6 (λ c=>absurd c (by decide)) (λ _=>?_)⟩;refine ⟨_,rfl,rfl,_,rfl,w6 (λ c=>absurd c (by decide)) (λ _=>?_)⟩;refine ⟨_,rfl,rfl,_,rfl,w6 (λ _=>?_) (λ c=>absurd (by decide) c)⟩;refine ⟨_,rfl,_,rfl,_,rfl,ba,ba,xs,xs,hs,hs,0,"less",10 ^ 9,kt,kg,kt,kg,rfl,.inr (.inr (.inl rfl)),B,B,n1,n1,kt1,l0,LTH,λ _ _=>⟨λ i h1 h2 hi hh1 hh2 H' t m e' L'=>?_,λ z=>absurd ⟨⟨by omega,by omega⟩,⟨by omega,by omega⟩⟩ z⟩,λ nb=>absurd ⟨rfl,rfl⟩ nb⟩;rw [at0 hi hh1,at0 hi hh2] at m;obtain ⟨c,r,z1,z2,z3⟩:=b1E (.inr (.inr (.inl rfl))) m B.g g0;exact q H' t c r e' L' z1 z2 z3
  ·refine ⟨_,rfl,rfl,_,rfl,w6 (λ c=>absurd c (by decide)) (λ _=>?_)⟩
   refine ⟨_,rfl,rfl,_,rfl,w6 (λ c=>absurd c (by decide)) (λ _=>?_)⟩;refine ⟨_,rfl,rfl,_,rfl,w6 (λ c=>absurd c (by decide)) (λ _=>?_)⟩;refine ⟨_,rfl,rfl,_,rfl,w6 (λ c=>absurd c (by decide)) (λ _=>?_)⟩;refine ⟨_,rfl,rfl,_,rfl,w6 (λ c=>absurd c (by decide)) (λ _=>?_)⟩;refine ⟨_,rfl,rfl,_,rfl,w6 (λ _=>?_) (λ c=>absurd (by decide) c)⟩;refine ⟨_,rfl,_,rfl,(by show 1<=sizeLine; decide),λ nl knl=>?_⟩;have s1:=Same.new knl (.lst [V.int 0]);refine ⟨ba,nl,xs,hs,[0],10 ^ 9,kt,kg,rfl,⟨s1.seq B.l,Bk.same s1 B.b,B.g,B.far,B.few,B.t,B.k⟩,kt1,kg1,SqL.of upd_same,aU _,(by show 1<=100; decide),λ m hm=>by rw [cX.mp hm]; exact l0,λ H' e' ⟨m,hm,hb⟩=>?_,λ H' e' g ⟨v,hv,hb⟩=>?_,λ r ys place H' e' _ g _ lp hr hy=>?_⟩
   ·rw [cX.mp hm] at hb
    exact absurd hb (nb (m:=0))
   ·rw [show mgH hs [0] kt kg=h0 from a8N (k:=0) hh0 g0.lt g0.lg] at hv
    rcases bU.mp hv with hv | hv
    ·have:=(g0.t v hv).2; omega
    ·have:=(g0.g v hv).2; omega
   ·have ep:place=0:=cX.mp lp.m
    rw [ep,show a9x hs [0] kt kg 0=hs from b1q (k:=0) hh0 g0.lt g0.lg] at hy;exact q r ys H' (s1.trans e') hr hy
end
section
variable {P:aL} {w:aI} {K:aE} {mg:Str->Option aC} {base:aG} {f C Pt:aA} {fd:aJ} {n:Nat}
def b4y:List V:=b0S false true false false false false
def a6J (K:aE) (C Pt:aA):Sp:=λ vs H Q _=>∃ (ba p pa:aA) (xs:List V) (hs:List j3) (door:Nat) (number:Int) (kt kg:Nat) (L:Lev) (past:List Lev) (lo:List aA),vs=[.int (door:Int),.ref ba,.int number,.ref p]/\BookIn K H ba xs hs (10 ^ 9) kt kg/\1<=hs.length/\1<=kt/\kt<=4/\1<=kg/\kg<=4/\number.natAbs.log2<1920/\KpAt K C H p kt kg "any" L past pa lo/\(∀ g∈L.1,HG (10 ^ 9) kt kg g)/\L.1.length<=hs.length/\L.2.length=L.1.length/\past.length<=1000/\LT Pt H ∧
  ((¬ J4 xs.length number/\∀ (H':Hp) (r kl:aA),Same H H'->H' r=some (.tup [.non,.ref kl])->H' kl=some (.lst b4y)->Q (.ref r) H') ∨
   (number=0/\((door=0/\∀ (H':Hp) (r kl:aA),Same H H'->H' r=some (.tup [.bl true,.ref kl])->H' kl=some (.lst [])->Q (.ref r) H') ∨
     (door=4/\∀ (H':Hp) (r kl t:aA) (c d:V),Same1 Pt H H'->LT Pt H'->H' r=some (.tup [.ref t,.ref kl])->H' kl=some (.lst [])->H' t=some (.tup [c,d])->FrT H' c (1,1)->FrT H' d (1,1)->Q (.ref r) H') ∨
     (door=5/\∀ (H':Hp) (r kl l:aA) (ys:List V),Same H H'->H' r=some (.tup [.ref l,.ref kl])->H' kl=some (.lst [])->H' l=some (.lst ys)->Bk K H' ys hs->Q (.ref r) H'))))
theorem scAsk37:m6 ["door","book","number","kept","found","kin","e"] ["door","book","number","kept"] (j4 W5):=⟨rfl,rfl,rfl,by decide +kernel,rfl,by decide +kernel,by decide +kernel⟩
theorem a8z {cE cB cH cR cT cM cL fa fc:aA} {da dc:aJ} (F:Fun K "_law_asked" "_law_asked" W5 f fd) (R:b3s K mg cE cB cH cR cT cM cL) (MH:a4v K cH cE cB cH cR cT cM cL false true false false false false)
  (Cc:L9 P w K mg base n "_law_a_door" ["door","book","number","kept"] (a4C K C cH Pt) fa da) (Ck:b6A P w K mg base n "_law_a_kin" ["e"] (a8t K cE cB cH cR cT cM cL) fc dc):FnOk P w K mg base E1 (n+1) f fd ["door","book","number","kept"] (a6J K C Pt):=by
 refine F.ok scAsk37 (λ vs H Q E h=>?_) (λ cdv A outer s H vs Q E hr h=>?_)
 ·obtain ⟨ba,p,pa,xs,hs,door,number,kt,kg,L,past,lo,rfl,_⟩:=h
  rfl
 obtain ⟨ba,p,pa,xs,hs,door,number,kt,kg,L,past,lo,rfl,B,n1,kt1,kt4,kg1,kg4,lm,KP,gL,lL,l2,lp,LTH,hq⟩:=h;refine ⟨_,j0 (o7 (i:=4) scAsk37.nd rfl (aM rfl) M2)
  (j0 (o7 (i:=5) scAsk37.nd rfl (aM rfl) (v7 h8))
  (j0 (b2W (i:=6) R.kE scAsk37.nd rfl rfl rfl rfl R.mE
   (λ EX pn WE hx=>j5 (o7 (i:=4) scAsk37.nd rfl (aM rfl) (a8R Cc.ok hr rfl Cc.m Cc.k Cc.b hx (d0 (pv 0) (d0 (pv 1) (d0 (pv 2) (d0 (pv 3) h8)))))))
   (λ ea=>j5 (o7 (i:=5) scAsk37.nd rfl (aM rfl) (a9w Ck.ok (hr.u _) rfl Ck.m Ck.k Ck.b (d0 (pv 6) h8)))))
  (j5 (o8 (D3 (d0 (pv 4) (d0 (pv 5) h8))))))),?_⟩
 refine ⟨(by show 0<=sizeLine; decide),λ kl hkl=>?_⟩;have s1:=Same.new hkl (.lst []);have hkl1:(upd H kl (.lst [])) kl=some (.lst []):=upd_same;generalize upd H kl (.lst [])=H1 at *;have L1:=LTH.same s1;have B1:BookIn K H1 ba xs hs (10 ^ 9) kt kg:=⟨s1.seq B.l,Bk.same s1 B.b,B.g,B.far,B.few,B.t,B.k⟩;refine ⟨λ σ' C' _ H'=>σ'=[some (.int (door:Int)),some (.ref ba),some (.int number),some (.ref p),some .non,some (.ref kl),none]/\Same H H'/\C'=.ref cH/\¬ J4 xs.length number,?_,?_⟩
 ·refine ⟨_,rfl,_,rfl,_,rfl,_,rfl,ba,p,pa,xs,hs,door,number,kt,kg,L,past,lo,rfl,B1,n1,kt1,kt4,kg1,kg4,lm,KP.same s1,gL,lL,l2,lp,L1,?_⟩
  rcases hq with ⟨bad,q⟩ | ⟨rfl,hq⟩
  ·exact .inl ⟨bad,λ H' e'=>⟨rfl,s1.trans e',rfl,bad⟩⟩
  ·refine .inr ⟨rfl,?_⟩
   rcases hq with ⟨rfl,q⟩ | ⟨rfl,q⟩ | ⟨rfl,q⟩
   ·refine .inl ⟨rfl,λ H' e'=>?_⟩
    refine ⟨_,rfl,_,rfl,(by show 2<=sizeLine; decide),λ r hr'=>?_⟩;have s3:=Same.new hr' (.tup [V.bl true,V.ref kl]);exact q _ r kl (s1.trans (e'.trans s3)) upd_same ((e'.trans s3) _ _ hkl1)
   ·refine .inr (.inl ⟨rfl,λ H' t c d e' L' ht hc hd=>?_⟩)
    refine ⟨_,rfl,_,rfl,(by show 2<=sizeLine; decide),λ r hr'=>?_⟩;have s3:=Same.new hr' (.tup [V.ref t,V.ref kl]);exact q _ r kl t c d (s1.to1.trans (e'.trans s3.to1)) (L'.same s3) upd_same (s3 _ _ (e'.get L1 hkl1 nofun)) (s3 _ _ ht) (hc.same s3) (hd.same s3)
   ·refine .inr (.inr ⟨rfl,λ l ys H' e' hl hy=>?_⟩)
    refine ⟨_,rfl,_,rfl,(by show 2<=sizeLine; decide),λ r hr'=>?_⟩;have s3:=Same.new hr' (.tup [V.ref l,V.ref kl]);exact q _ r kl l ys (s1.trans (e'.trans s3)) upd_same ((e'.trans s3) _ _ hkl1) (s3 _ _ hl) (Bk.same s3 hy)
 ·rintro σ' H' C' ea d' ⟨rfl,e2,hc,bad⟩ hea Da hC
  cases hC
  cases hc;rcases hq with ⟨_,q⟩ | ⟨rfl,_⟩
  ·refine ⟨MH.k,MH.sub,?_⟩
   refine ⟨_,rfl,ea,_,_,_,_,_,_,_,rfl,upd_same,MH,λ r2 H3 e3 hr2=>?_⟩;refine ⟨_,rfl,_,rfl,(by show 2<=sizeLine; decide),λ r hr'=>?_⟩;have s3:=Same.new hr' (.tup [V.non,V.ref r2]);exact q _ r r2 (e2.trans ((Same.new hea _).trans (e3.trans s3))) upd_same (s3 _ _ hr2)
  ·have xl:xs.length=hs.length:=dH B.b
   exact absurd ⟨by omega,by omega⟩ bad
end
section
variable {P:aL} {w:aI} {K:aE} {mg:Str->Option aC} {base:aG} {f C CN CB CT Pt:aA} {fd:aJ} {n:Nat}
theorem scLaw:m6 ["script","book","kept","house","odd","door"] ["script"] (j4 a1O):=⟨rfl,rfl,rfl,by decide +kernel,rfl,by decide +kernel,by decide +kernel⟩
structure b2g (P:aL) (w:aI) (K:aE) (mg:Str->Option aC) (base:aG) (C fi:aA) (di:aJ):Prop where
 mak:Mk K C fi
 ok:∀ m:Nat,FnOk P w K mg base E1 (m+1) fi di ["self","takes","gives","sizes"] (a4g K C)
 bd:Binds K di ["self","takes","gives","sizes"] []
 m:mg "Kept"=some (.ref C)
structure Calls (P:aL) (w:aI) (K:aE) (mg:Str->Option aC) (base:aG) (n:Nat) (C CB CT Pt:aA) (a1 a2 a3 a4 a5:aA) (d1 d2 d3 d4 d5:aJ):Prop where
 ab:Cal P w K mg base n "_law_a_book" ["script","at","most","far"] (a6n K) a1 d1
 cm:a2G P w K mg base (Q7 P w) n C "come" ["self","house"] (a7f K C CB CT Pt) a2 d2
 ho:a2G P w K mg base E1 n C "houses" ["self"] (a3k K C) a3 d3
 ak:P3 P w K mg base n "_law_asked" ["door","book","number","kept"] (a6J K C Pt) a4 d4
 du:Cal P w K mg base n "_law_due_kin" ["name"] b0w a5 d5
noncomputable def b5G {cdv:aC} {A:aY} {outer:List Env} {s:aD} {H:Hp} {E:XK} {a1 a2 a3 a4 a5 fi:aA} {d1 d2 d3 d4 d5 di:aJ} (T:x8 mg) (TKd:TK K C) (M:b2g P w K mg base C fi di) (Cs:Calls P w K mg base (n+2) C CB CT Pt a1 a2 a3 a4 a5 d1 d2 d3 d4 d5)
  (hr:Room (n+2) (A.deeper (fY "law" (j4 a1O) s.heap.objs.size f cdv))) :
  { t:TS // PSs (M0 E1 P w K mg base ["script","book","kept","house","odd","door"] "law" (j4 a1O) f cdv A outer s H E).nox (w4 a1O) t } :=
 ⟨_,v6 (o7 (i:=1) scLaw.nd rfl (aM rfl) (j6 Cs.ab.ok hr rfl Cs.ab.m Cs.ab.k Cs.ab.b .nil v5 (d0 (pv 0) (d0 i8 (d0 i8 (d0 (j7 a1b i8 i8) h8))))))
  (v6 (o7 (i:=2) scLaw.nd rfl (aM rfl) (a6E M.mak (M.ok n) hr rfl M.m M.bd .nil v5 (d0 (j8 m8 rfl T.len cD (d0 (p7 A9 (p7 j9 (pv 1) i8 (λ _ _=>rfl)) i8 (λ _ _=>rfl)) h8)) (d0 (j8 m8 rfl T.len cD (d0 (p7 A9 (p7 j9 (pv 1) i8 (λ _ _=>rfl)) i8 (λ _ _=>rfl)) h8)) (d0 C5 h8)))))
  (v6 (T6 fQ rfl (J7 (G1 M3 (pv 1) N8 (K1 i8))) (m9 (i:=3) scLaw.nd rfl (aM rfl))
   (j5 (E8 (Q4 (pv 2) TKd.cl Cs.cm.me Cs.cm.ok hr Cs.cm.bd .nil a8r (d0 (pv 3) h8)))))
  (v6 (T6 fQ rfl (a1z (D3 (d0 (R9 K3 i8) (d0 (j8 m8 rfl T.len cD (d0 (pv 1) h8)) (d0 i8 (d0 (j7 a1b i8 i8) (d0 (j7 a6c i8 (j7 a1b i8 i8)) h8))))))) (m9 (i:=4) scLaw.nd rfl (aM rfl))
   (v6 (T6 fQ rfl (N0 rfl T.range (d0 i8 h8)) (m9 (i:=5) scLaw.nd rfl (aM rfl))
    (j5 (w8 (PW.pt (a2l (r6 a0q (pv 4) i8 (r8 _)) (a0t (r6 a4W (pv 4) (j8 m8 rfl T.len cD (d0 (pv 1) h8)) (r8 _)))))
     (j5 (w8 (r6 (a2B hr) (j6 Cs.ak.ok hr rfl Cs.ak.m Cs.ak.k Cs.ak.b .nil v5 (d0 (pv 5) (d0 (pv 1) (d0 (pv 4) (d0 (pv 2) h8))))) (D3 (d0 M2 (d0 (j6 Cs.du.ok hr rfl Cs.du.m Cs.du.k Cs.du.b .nil v5 (d0 C5 h8)) h8))) (r8 _)) (j5 (o8 a1E)) t7)) t7)))
   (j5 (w8 (r6 (a2B hr) (X7 (pv 2) TKd.cl Cs.ho.me Cs.ho.ok hr Cs.ho.bd .nil v5) (G1 M3 (pv 1) N8 (K1 i8)) (r8 _)) (j5 (o8 a1E)) t7))))
  (v6 (w8 (r6 (a2B hr) (j6 Cs.ak.ok hr rfl Cs.ak.m Cs.ak.k Cs.ak.b .nil v5 (d0 i8 (d0 (pv 1) (d0 i8 (d0 (pv 2) h8))))) (D3 (d0 (D3 (d0 (D3 (d0 i8 (d0 i8 h8))) (d0 (D3 (d0 i8 (d0 i8 h8))) h8))) (d0 (v7 h8) h8))) (r8 _)) (j5 (o8 a1E)) t7)
  (j5 (o8 (a3C (M7 (a3L hr) (j6 Cs.ak.ok hr rfl Cs.ak.m Cs.ak.k Cs.ak.b .nil v5 (d0 i8 (d0 (pv 1) (d0 i8 (d0 (pv 2) h8))))) (D3 (d0 a1E (d0 (v7 h8) h8))) (r8 _)) (a3P (M7 (a3L hr) (j6 Cs.ak.ok hr rfl Cs.ak.m Cs.ak.k Cs.ak.b .nil v5 (d0 i8 (d0 (pv 1) (d0 i8 (d0 (pv 2) h8))))) (D3 (d0 (pv 1) (d0 (v7 h8) h8))) (r8 _))))))))))⟩
end
theorem b0s:b5l "NoHouse"=b4y:=by decide
theorem HG.good {h:j3} {kt kg:Nat} (g:HG (10 ^ 9) kt kg h):GoodK h kt kg:=⟨⟨by rw [g.lt],λ x hx=>⟨(g.t x hx).1,(g.t x hx).2⟩⟩,⟨by rw [g.lg],λ x hx=>⟨(g.g x hx).1,(g.g x hx).2⟩⟩,g.p⟩
theorem a3x (hs:List j3):eG (.list (hs.map G7))=true:=by rw [eG]; exact a2J _
theorem a8J (hs:List j3):hZ (.list (hs.map G7))<=9:=by
 rw [hZ];have:=a2O hs;omega
theorem Left.trans {Pt p pa:aA} {H H' H'':Hp} (a:Left Pt p pa H H') (b:Left Pt p pa H' H''):Left Pt p pa H H'':=λ c o n1 n2 n3 h=>b c o n1 n2 n3 (a c o n1 n2 n3 h)
section
variable {P:aL} {w:aI} {K:aE} {mg:Str->Option aC} {base:aG} {f C CB CT Pt:aA} {fd:aJ} {n:Nat}
def a6F (K:aE) (Pt:aA):Sp:=λ vs H Q _=>∃ (a:aA) (ns:List Int),vs=[.ref a]/\SqL K H a (ns.map V.int)/\ns.length<=63/\LT Pt H/\∀ H',Q (.bl true) H'
theorem b2V {a1 a2 a3 a4 a5 fi:aA} {d1 d2 d3 d4 d5 di:aJ} (F:Fun K "law" "law" a1O f fd) (T:x8 mg) (TKd:TK K C) (M:b2g P w K mg base C fi di) (Cs:Calls P w K mg base (n+2) C CB CT Pt a1 a2 a3 a4 a5 d1 d2 d3 d4 d5) :
  FnOk P w K mg base E1 (n+3) f fd ["script"] (a6F K Pt):=by
 refine F.ok scLaw (λ vs H Q E h=>?_) (λ cdv A outer s H vs Q E hr h=>?_)
 ·obtain ⟨a,ns,rfl,_⟩:=h
  rfl
 obtain ⟨a,ns,rfl,hS,h63,L,q⟩:=h;refine ⟨_,(b5G T TKd M Cs hr).2,?_⟩;refine ⟨λ σ' H1=>∃ (bl:aA) (xs:List V) (hs:List j3) (kt kg:Nat),σ'=[some (.ref a),some (.ref bl),none,none,none,none]/\Same H H1/\H1 bl=some (.lst xs)/\Bk K H1 xs hs/\1<=hs.length/\hs.length<=16/\1<=kt/\kt<=4/\1<=kg/\kg<=4/\∀ h∈hs,HG (10 ^ 9) kt kg h,?_,?_⟩
 ·refine ⟨_,rfl,_,_,rfl,rfl,⟨by decide,by decide,by decide⟩,a,ns,0,16,_,rfl,hS,by decide,by decide,by decide,by decide,λ bl H1 xs hs kt kg e1 hbl hB hn1 hn16 kt1 kt4 kg1 kg4 hG=>?_⟩
  exact ⟨bl,xs,hs,kt,kg,rfl,e1,hbl,hB,hn1,by omega,kt1,kt4,kg1,kg4,hG⟩
 intro σ1 H1 hM_; refine E9 λ G_ hG_=>?_; obtain ⟨bl,xs,hs,kt,kg,rfl,e1,hbl,hB,hn1,hn16,kt1,kt4,kg1,kg4,hG⟩:=hM_; subst hG_;have L1:=L.same e1;have xl:xs.length=hs.length:=dH hB;have s1k:=p6 (show (1000:Nat)<=1000 from aU _);obtain ⟨xv0,hxv0⟩:∃ xv,xs[0]?=some xv:=⟨_,aV (by omega)⟩;obtain ⟨g0,hg0,⟨a0,t0,ga0,rfl,r1,r2,r3⟩⟩:=aS.at hB hxv0;have gg0:=hG g0 (bN hg0);have at00:atI xs 0=some (V.ref a0):=B6 (j:=0) hxv0;have lt0:(g0.1.map V.int).length=kt:=by rw [aH]; exact gg0.lt
 have lg0:(g0.2.map V.int).length=kg:=by rw [aH]; exact gg0.lg
 have ft:Fit "any" kt kg:=⟨.inl rfl,kt1,kt4,kg4⟩;refine ⟨λ σ' H'=>∃ p pa lo,σ'=[some (.ref a),some (.ref bl),some (.ref p),none,none,none]/\Same H1 H'/\H1 p=none/\H1 pa=none/\KpAt K C H' p kt kg "any" ([],[]) [] pa lo,?_,?_⟩
 ·refine ⟨_,rfl,bl,_,0,_,rfl,rfl,SqL.of hbl,at00,a0,_,0,_,rfl,rfl,r1,U4 _ _,t0,_,rfl,.inr r2,?_⟩
  refine ⟨_,rfl,bl,_,0,_,rfl,rfl,SqL.of hbl,at00,a0,_,1,_,rfl,rfl,r1,W8 _ _,ga0,_,rfl,.inr r3,?_⟩;rw [lt0,lg0];refine made (K:=K) (C:=C) (H:=H1) (kt:=kt) (kg:=kg) (z:="any") (E:=E0) (Q:=λ v H'=>∃ p pa lo,[some (.ref a),some (.ref bl),some v,none,none,none]=[some (.ref a),some (.ref bl),some (.ref p),none,none,none]/\Same H1 H'/\H1 p=none/\H1 pa=none/\KpAt K C H' p kt kg "any" ([],[]) [] pa lo) λ p pa lo H' e' n1 n2 n3 KP=>?_;exact ⟨p,pa,lo,rfl,e',n1,n2,KP⟩
 intro σ2 H2 hM_; refine E9 λ G_ hG_=>?_; obtain ⟨p,pa,lo0,rfl,e2,np,npa,KP0⟩:=hM_; subst hG_;have L2:=L1.same e2;have hbl2:=e2 _ _ hbl;have B2:=Bk.same e2 hB;have nbp:bl≠p:=λ z=>by rw [z,np] at hbl; cases hbl
 have nba:bl≠pa:=λ z=>by rw [z,npa] at hbl; cases hbl
 have nbt:bl≠Pt:=L2.ne hbl2 nofun;have c3:M5 xs none (some 3)=xs.take 3:=by
  unfold M5;rw [show HT.sIx xs.length xs.length (some 3)=min 3 xs.length from HT.sIx_nat _ _ 3,HT.sIx_none,oF,wJ]
  by_cases h:3<=xs.length
  ·rw [oG h]
  ·rw [wP (by omega),oE,gF (by omega)]
 obtain ⟨dx0,ta0,wa0,pv0,hp0,_,hpa0,_⟩:=KP0.ex;refine ⟨λ σ' H'=>∃ (o3:Option V) (qs:List Q2) (past:List Lev) (lo:List aA),σ'=[some (.ref a),some (.ref bl),some (.ref p),o3,none,none]/\Left Pt p pa H2 H'/\LT Pt H'/\KpAt K C H' p kt kg "any" (hs.take 3,qs) past pa lo/\qs.length=(hs.take 3).length/\past.length<=3,?_,?_⟩
 ·refine ⟨_,rfl,_,rfl,bl,_,rfl,SqL.of hbl2,λ l3 kl3=>?_⟩
  rw [c3];have s3:=Same.new kl3 (.lst (xs.take 3));have hl3:=upd_same (H:=H2) (a:=l3) (o:=.lst (xs.take 3));have nlp:l3≠p:=λ z=>by rw [z,hp0] at kl3; cases kl3
  have nla:l3≠pa:=λ z=>by rw [z,hpa0] at kl3; cases kl3
  have L3:=L2.same s3;have nlt:l3≠Pt:=L3.ne hl3 nofun;have B3:=Bk.same s3 B2;have hp3:=s3 _ _ hp0;have hpa3:=s3 _ _ hpa0;have KP3:=KP0.same s3;generalize upd H2 l3 (.lst (xs.take 3))=H3 at *;refine ⟨l3,rfl,⟨_,SqL.of hl3⟩,?_⟩;refine a8K (xs:=xs.take 3) (λ i σ H'=>∃ (o3:Option V) (qs:List Q2) (past:List Lev) (lo:List aA),σ=[some (.ref a),some (.ref bl),some (.ref p),o3,none,none]/\Left Pt p pa H3 H'/\LT Pt H'/\KpAt K C H' p kt kg "any" (hs.take i,qs) past pa lo/\qs.length=(hs.take i).length/\past.length=i/\i<=3)
   ⟨_,[],[],lo0,rfl,λ _ _ _ _ _ h=>h,L3,KP3,rfl,rfl,by omega⟩ (λ i σ H' _ ⟨_,_,_,_,_,lf,_⟩=>SqL.of (lf _ _ nlp nlt nla hl3)) ?_ ?_
  ·rintro i v σ H4 hv ⟨o3,qs,past,lo,rfl,lf,L4,KP4,lq,lpast,hi3⟩
   have hi:=(bP.mp hv).1;rw [cU] at hi;rw [List.getElem?_take,if_pos (by omega)] at hv;obtain ⟨h,hh,hHS⟩:=aS.at (Bk.fr0 (lf.fr hp3 hpa3 L3) B3) hv;have gh:=hG h (bN hh);obtain ⟨dx,ta,wa,pv,hp4,_,hpa4,_⟩:=id KP4.ex;have tk:hs.take i++[h]=hs.take (i+1):=by rw [lP,hh]; rfl
   have gl:∀ g∈hs.take i,HG (10 ^ 9) kt kg g:=λ g hg=>hG g (gR hg);have li:(hs.take i).length=i:=by rw [cU]; omega
   refine ⟨_,rfl,p,dx,_,rfl,hp4,rfl,_,rfl,?_⟩;refine ⟨p,pa,v,h,kt,kg,"any",(hs.take i,qs),past,lo,rfl,KP4,ft,hHS,⟨by rw [gh.lt]; omega,by rw [gh.lg]; omega⟩,gl,by show (hs.take i).length<=16; omega,lq,by omega,L4,λ gk l16 H5 ha wa' r cl u qs' x KP5 sh n1 n2 lf5 L5 n4 hr5 hu n5 ch _ _=>?_,λ bad=>absurd gh.good bad,λ _ l16=>absurd l16 (by show ¬ 16<=(hs.take i).length; omega)⟩;refine ⟨_,qs'++[x],past++[(hs.take i,qs)],_,rfl,lf.trans lf5,L5,by rw [<- tk]; exact KP5,by rw [<- tk]; exact sh.1,by rw [bF,lpast]; rfl,by omega⟩
  ·rintro σ H4 ⟨o3,qs,past,lo,rfl,lf,L4,KP4,lq,lpast,hi3⟩
   have tk:hs.take (xs.take 3).length=hs.take 3:=by
    rw [cU,xl]
    by_cases h:3<=hs.length
    ·rw [oG h]
    ·rw [wP (by omega),oE,gF (by omega)]
   rw [tk] at KP4 lq;exact ⟨o3,qs,past,lo,rfl,λ b o n1 n2 n3 h=>lf b o n1 n2 n3 (s3 _ _ h),L4,KP4,lq,by omega⟩
 intro σ5 H5 hM_; refine E9 λ G_ hG_=>?_; obtain ⟨o3,qs,past,lo,rfl,lf,L5,KP5,lq,lpast⟩:=hM_; subst hG_;have hbl5:H5 bl=some (.lst xs):=lf _ _ nbp nbt nba hbl2;have B5:Bk K H5 xs hs:=Bk.fr0 (lf.fr hp0 hpa0 L2) B2;have gl3:∀ g∈hs.take 3,HG (10 ^ 9) kt kg g:=λ g hg=>hG g (gR hg);have ll3:(hs.take 3).length<=hs.length:=by rw [cU]; omega
 have BI:∀ {H':Hp},Same H5 H'->BookIn K H' bl xs hs (10 ^ 9) kt kg:=λ e=>⟨SqL.of (e _ _ hbl5),Bk.same e B5,hG,by decide,hn16,by omega,by omega⟩;refine ⟨λ σ' H'=>∃ o4 o5:Option V,σ'=[some (.ref a),some (.ref bl),some (.ref p),o3,o4,o5]/\Same H5 H',?_,?_⟩
 ·refine ⟨_,rfl,_,rfl,bl,_,rfl,.inl (SqL.of hbl5),_,_,rfl,rfl,⟨by decide,by decide,by decide⟩,_,_,rfl,rfl,⟨by decide,by decide,by decide⟩,_,_,rfl,rfl,(by show 5<=sizeLine; decide),λ tp ktp=>?_⟩
  have sT:=Same.new ktp (.tup [V.int (-1),V.int (xs.length:Int),V.int 16,V.int (10 ^ (30:Int).toNat),V.int (0 - 10 ^ (30:Int).toNat)]);have hT:(upd H5 tp (.tup [V.int (-1),V.int (xs.length:Int),V.int 16,V.int (10 ^ (30:Int).toNat),V.int (0 - 10 ^ (30:Int).toNat)])) tp=some (.tup [V.int (-1),V.int (xs.length:Int),V.int 16,V.int (10 ^ (30:Int).toNat),V.int (0 - 10 ^ (30:Int).toNat)]):=upd_same;have vals:∀ v∈[V.int (-1),V.int (xs.length:Int),V.int 16,V.int (10 ^ (30:Int).toNat),V.int (0 - 10 ^ (30:Int).toNat)],∃ x:Int,v=.int x/\x.natAbs.log2<1920:=λ v hv=>by
   simp only [bD,bX,or_false] at hv;rcases hv with rfl | rfl | rfl | rfl | rfl
   ·exact ⟨_,rfl,by decide⟩
   ·exact ⟨_,rfl,Z8 (by omega)⟩
   ·exact ⟨_,rfl,by decide⟩
   ·exact ⟨_,rfl,by decide +kernel⟩
   ·exact ⟨_,rfl,by decide +kernel⟩
  refine ⟨tp,rfl,⟨_,SqT.of upd_same⟩,?_⟩;refine b1k (xs:=[V.int (-1),V.int (xs.length:Int),V.int 16,V.int (10 ^ (30:Int).toNat),V.int (0 - 10 ^ (30:Int).toNat)]) (λ i σ H'=>∃ o4 o5:Option V,σ=[some (.ref a),some (.ref bl),some (.ref p),o3,o4,o5]/\Same (upd H5 tp (.tup [V.int (-1),V.int (xs.length:Int),V.int 16,V.int (10 ^ (30:Int).toNat),V.int (0 - 10 ^ (30:Int).toNat)])) H')
   ⟨_,_,rfl,Same.refl _⟩ (λ i σ H' _ ⟨_,_,_,e⟩=>SqT.of (e _ _ hT)) ?_ ?_
  rotate_left
  ·rintro σ H6 ⟨o4,o5,rfl,e6⟩
   exact ⟨o4,o5,rfl,sT.trans e6⟩
  rintro i v σ H6 hv ⟨o4,o5,rfl,e6⟩;obtain ⟨x,rfl,lx⟩:=vals v (bN hv);have e56:=sT.trans e6;refine ⟨λ σ' H'=>∃ o5:Option V,σ'=[some (.ref a),some (.ref bl),some (.ref p),o3,some (.int x),o5]/\Same H6 H',?_,?_⟩
  ·refine ⟨_,rfl,by decide,by decide,?_⟩
   refine a0m (n:=11) (λ i σ H'=>∃ o5:Option V,σ=[some (.ref a),some (.ref bl),some (.ref p),o3,some (.int x),o5]/\Same H6 H') ⟨_,rfl,Same.refl _⟩ ?_ (λ σ H' h=>h);rintro j σ H7 hj ⟨o5,rfl,e7⟩;rw [lW];have e57:=e56.trans e7
   by_cases g:J4 xs.length x
   ·refine ⟨_,rfl,_,_,rfl,rfl,_,rfl,w6 (λ c=>absurd (of_decide_eq_true c) (by have:=g.1; omega)) (λ _=>?_)⟩
    exact ⟨_,rfl,_,rfl,bl,_,rfl,.inl (SqL.of (e57 _ _ hbl5)),_,_,rfl,rfl,_,rfl,w6 (λ c=>absurd (of_decide_eq_true c) (by have:=g.2; omega)) (λ _=>⟨_,rfl,e7⟩)⟩
   ·refine ⟨_,rfl,_,_,rfl,rfl,_,rfl,w6 (λ _=>?_) (λ c1=>⟨_,rfl,_,rfl,bl,_,rfl,.inl (SqL.of (e57 _ _ hbl5)),_,_,rfl,rfl,_,rfl,w6 (λ _=>?_) (λ c2=>absurd (show J4 xs.length x from ⟨?_,?_⟩) g)⟩)⟩
    case refine_3=>exact Int.not_lt.mp λ h=>c1 (decide_eq_true h)
    case refine_4=>exact Int.not_le.mp λ h=>c2 (decide_eq_true h)
    all_goals
     refine ⟨_,rfl,_,rfl,_,rfl,_,rfl,bl,p,pa,xs,hs,j,x,kt,kg,(hs.take 3,qs),past,lo,rfl,BI e57,hn1,kt1,kt4,kg1,kg4,lx,KP5.same e57,gl3,ll3,lq,by omega,L5.same e57,.inl ⟨g,λ H8 r kl e8 hr8 hkl=>?_⟩⟩;refine ⟨_,rfl,λ dl H9 e9 hdl=>?_⟩;refine ⟨(by show 2<=sizeLine; decide),λ t2 k2=>?_⟩;have s2:=Same.new k2 (.tup [V.non,V.ref dl]);have eA:=e9.trans s2;have lay:eG (.tuple [.none,a6x false true false false false false])=true:=by decide
     refine ⟨.tuple [.none,a6x false true false false false false],.tuple [.none,a6x false true false false false false],.tup (SqT.of (eA _ _ hr8)) (.cons .non (.cons (a6G (eA _ _ hkl)) .nil)),.tup (SqT.of upd_same) (.cons .non (.cons (a6G (s2 _ _ (by rw [hdl,b0s]; rfl))) .nil)),lay,lay,by decide,_,rfl,?_⟩;rw [U1 _ lay];exact a1Q ⟨_,rfl,e7.trans (e8.trans eA)⟩
  intro σ8 H8 hM_; refine E9 λ G_ hG_=>?_; obtain ⟨o5',rfl,e8⟩:=hM_; subst hG_;have e58:=e56.trans e8;obtain ⟨dx,ta,wa,pv,hp8,_,hpa8,_⟩:=id (KP5.same e58).ex;refine ⟨_,rfl,p,dx,_,rfl,hp8,rfl,p,pa,kt,kg,"any",(hs.take 3,qs),past,lo,rfl,KP5.same e58,λ l ys H9 e9 _ hl9 hB9=>?_⟩;refine ⟨_,rfl,_,rfl,bl,_,rfl,SqL.of ((e58.trans e9) _ _ hbl5),λ l3 kl3=>?_⟩;rw [c3];have s10:=Same.new kl3 (.lst (xs.take 3));have B10:Bk K (upd H9 l3 (.lst (xs.take 3))) (xs.take 3) (hs.take 3):=aS.take 3 (Bk.same (e58.trans (e9.trans s10)) B5);refine ⟨.list ((hs.take 3).map G7),.list ((hs.take 3).map G7),.lst (SqL.of (s10 _ _ hl9)) (Bk.dps (Bk.same s10 hB9)),.lst (SqL.of upd_same) (Bk.dps B10),a3x _,a3x _,cO (mJ _ _) (cO (a8J _) (by decide)),_,rfl,?_⟩;rw [U1 _ (a3x _)];exact a1Q ⟨_,_,rfl,e6.trans (e8.trans (e9.trans s10))⟩
 intro σ6 H6 hM_; refine E9 λ G_ hG_=>?_; obtain ⟨o4,o5,rfl,e6⟩:=hM_; subst hG_;have L6:=L5.same e6;have l0:(0:Int).natAbs.log2<1920:=by decide
 refine ⟨λ σ' H'=>σ'=[some (.ref a),some (.ref bl),some (.ref p),o3,o4,o5]/\Same1 Pt H6 H'/\LT Pt H',?_,?_⟩
 ·refine ⟨_,rfl,_,rfl,bl,p,pa,xs,hs,4,0,kt,kg,(hs.take 3,qs),past,lo,rfl,BI e6,hn1,kt1,kt4,kg1,kg4,l0,KP5.same e6,gl3,ll3,lq,by omega,L6,.inr ⟨rfl,.inr (.inl ⟨rfl,λ H7 r kl t c d e7 L7 hr7 hkl ht hc hd=>?_⟩)⟩⟩
  refine ⟨(by show 2<=sizeLine; decide),λ t1 k1=>?_⟩;have s1:=Same.new k1 (.tup [V.int 1,V.int 1]);refine ⟨(by show 2<=sizeLine; decide),λ t2 k2=>?_⟩;have s2:=Same.new k2 (.tup [V.int 1,V.int 1]);refine ⟨(by show 2<=sizeLine; decide),λ t3 k3=>?_⟩;have s3:=Same.new k3 (.tup [V.ref t1,V.ref t2]);refine ⟨(by show 0<=sizeLine; decide),λ l4 k4=>?_⟩;have s4:=Same.new k4 (.lst []);refine ⟨(by show 2<=sizeLine; decide),λ t5 k5=>?_⟩;have s5:=Same.new k5 (.tup [V.ref t3,V.ref l4]);have eA:=s1.trans (s2.trans (s3.trans (s4.trans s5)));have lay:eG (.tuple [.tuple [dF (1,1),dF (1,1)],.list []])=true:=by decide
  refine ⟨.tuple [.tuple [dF (1,1),dF (1,1)],.list []],.tuple [.tuple [dF (1,1),dF (1,1)],.list []],.tup (SqT.of (eA _ _ hr7)) (.cons (.tup (SqT.of (eA _ _ ht)) (.cons (FrV.dp (hc.same eA).v) (.cons (FrV.dp (hd.same eA).v) .nil))) (.cons (.lst (SqL.of (eA _ _ hkl)) .nil) .nil)),.tup (SqT.of upd_same) (.cons (.tup (SqT.of ((s4.trans s5) _ _ upd_same)) (.cons (FrV.dp ⟨t1,rfl,SqT.of ((s2.trans (s3.trans (s4.trans s5))) _ _ upd_same)⟩) (.cons (FrV.dp ⟨t2,rfl,SqT.of ((s3.trans (s4.trans s5)) _ _ upd_same)⟩) .nil))) (.cons (.lst (SqL.of (s5 _ _ upd_same)) .nil) .nil)),lay,lay,by decide,_,rfl,?_⟩;rw [U1 _ lay];exact a1Q ⟨rfl,e7.trans eA.to1,L7.same eA⟩
 intro σ7 H7 hM_; refine E9 λ G_ hG_=>?_; obtain ⟨rfl,e7,L7⟩:=hM_; subst hG_;have hbl6:=e6 _ _ hbl5;have hbl7:H7 bl=some (.lst xs):=e7.get L6 hbl6 nofun;have B7:Bk K H7 xs hs:=Bk.same1 L6 e7 (Bk.same e6 B5);have KP7:=KpAt.same1 L6 e7 (KP5.same e6);have BI7:∀ {H':Hp},Same H7 H'->BookIn K H' bl xs hs (10 ^ 9) kt kg:=λ e=>⟨SqL.of (e _ _ hbl7),Bk.same e B7,hG,by decide,hn16,by omega,by omega⟩;refine ⟨_,rfl,_,rfl,bl,p,pa,xs,hs,0,0,kt,kg,(hs.take 3,qs),past,lo,rfl,BI7 (Same.refl _),hn1,kt1,kt4,kg1,kg4,l0,KP7,gl3,ll3,lq,by omega,L7,.inr ⟨rfl,.inl ⟨rfl,λ H8 r kl e8 hr8 hkl=>?_⟩⟩⟩;refine ⟨(by show 0<=sizeLine; decide),λ l1 k1=>?_⟩;have s1:=Same.new k1 (.lst []);refine ⟨(by show 2<=sizeLine; decide),λ t2 k2=>?_⟩;have s2:=Same.new k2 (.tup [V.bl true,V.ref l1]);have eA:=s1.trans s2;have e7A:=e8.trans eA;have lay1:eG (.tuple [.bool true,.list []])=true:=by decide
 refine ⟨.tuple [.bool true,.list []],.tuple [.bool true,.list []],.tup (SqT.of (eA _ _ hr8)) (.cons (.bl _) (.cons (.lst (SqL.of (eA _ _ hkl)) .nil) .nil)),.tup (SqT.of upd_same) (.cons (.bl _) (.cons (.lst (SqL.of (s2 _ _ upd_same)) .nil) .nil)),lay1,lay1,by decide,_,rfl,?_⟩;rw [U1 _ lay1];refine a1N ?_;refine ⟨_,rfl,_,rfl,bl,p,pa,xs,hs,5,0,kt,kg,(hs.take 3,qs),past,lo,rfl,BI7 e7A,hn1,kt1,kt4,kg1,kg4,l0,KP7.same e7A,gl3,ll3,lq,by omega,L7.same e7A,.inr ⟨rfl,.inr (.inr ⟨rfl,λ H9 r' kl' l ys e9 hr9 hkl9 hl9 hy9=>?_⟩)⟩⟩;refine ⟨_,rfl,(by show 0<=sizeLine; decide),λ l1' k1'=>?_⟩;have s3:=Same.new k1' (.lst []);refine ⟨(by show 2<=sizeLine; decide),λ t4 k4=>?_⟩;have s4:=Same.new k4 (.tup [V.ref bl,V.ref l1']);have eB:=s3.trans s4;have e7B:=e7A.trans (e9.trans eB);have lay2:eG (.tuple [.list (hs.map G7),.list []])=true:=by
  rw [eG,eN,eN,a3x]; rfl
 refine ⟨.tuple [.list (hs.map G7),.list []],.tuple [.list (hs.map G7),.list []],.tup (SqT.of (eB _ _ hr9)) (.cons (.lst (SqL.of (eB _ _ hl9)) (Bk.dps (Bk.same eB hy9))) (.cons (.lst (SqL.of (eB _ _ hkl9)) .nil) .nil)),.tup (SqT.of upd_same) (.cons (.lst (SqL.of (e7B _ _ hbl7)) (Bk.dps (Bk.same e7B B7))) (.cons (.lst (SqL.of (s4 _ _ upd_same)) .nil) .nil)),lay2,lay2,?_,?_⟩
 ·refine cO (mJ _ _) ?_
  have:=a8J hs;rw [hZ,fH,fH,fH];have:hZ (.list [])<=1:=by decide
  omega
 rw [U1 _ lay2];exact q _
end
theorem all_mk {l:rA} {w:aI} {K:aE} {h:aG} {mg:Str->Option aC} {fa:aA} {Ct Pt:aA} (X:K.In h) (G:h.Ns mainGlobals mg) (hfa:mg "law"=some (.ref fa))
    {f1 f2 f3 f4 f5 f6 f7 f8 f9 f10 f11 f12 f13 f14 f15 f16 f17 f18 f19 f20 f21 f22 f23 f24 f25 f26 f27 f28 f29 f30 f31 f32 f33 f34 f35 f36 f37 f38 f39 f40 f41 f42 f43 f44 f45 f46 f47 f48 f49 f50 f51 f52 f53 f54 CB CK dS tS0 tS1 tS2 tS3 cE_NoHouse cE_NoBook cE_RimError cE_NoRow cE_NoText cE_TooMany cE_NothingLeft:aA} {cd1 cd2 cd3 cd4 cd5 cd6 cd7 cd9 cd10 cd11 cd12 cd13 cd14 cd15 cd16 cd17 cd18 cd19 cd20 cd21 cd22 cd23 cd24 cd25 cd26 cd27 cd28 cd29 cd30 cd31 cd32 cd33 cd34 cd35 cd36 cd37 cd38 cd39 cd40 cd41 cd42 cd43 cd44 cd45 cd46 cd47 cd48 cd49 cd50 cd51 cd52 cd53 ocL kVL dcL pmL cdL ctL:aC} {odL anL:Option aA} {slL:Array (Option aC)} {odS0 odS1 odS2 odS3:Option aA} {slS0 slS1 slS2 slS3:Array (Option aC)} {eS:Array DictEntry} {nS nS0 nS1 nS2 nS3:Nat} {tkA tkB tkC tkD:Tok} {tkC_MOST_AMOUNT:Tok} {tkC_MOST_HOUSES:Tok} {oC_NOUGHT:aA} {odC_NOUGHT:Option aA} {slC_NOUGHT:Array (Option aC)} {nC_NOUGHT:Nat} {tkC0_NOUGHT tkC1_NOUGHT:Tok}
    (aK:aW K mainGlobals "Kept"=some (some (.ref CK)))
    (aB:aW K mainGlobals "Board"=some (some (.ref CB)))
    (a1:bB K (.ref CK) "__init__"=some (some (.ref f1)))
    (l1:FunI K "__init__" "Kept.__init__" P1 f1 cd1)
    (n1:eI K (.ref f1)=true)
    (a2:aW K mainGlobals "_law_cell_at"=some (some (.ref f2)))
    (l2:FunI K "_law_cell_at" "_law_cell_at" b0t f2 cd2)
    (a3:aW K mainGlobals "_law_draws"=some (some (.ref f3)))
    (l3:FunI K "_law_draws" "_law_draws" a5u f3 cd3)
    (a4:aW K mainGlobals "_law_near"=some (some (.ref f4)))
    (l4:FunI K "_law_near" "_law_near" a9m f4 cd4)
    (a5:aW K mainGlobals "_law_a_book"=some (some (.ref f5)))
    (l5:FunI K "_law_a_book" "_law_a_book" a1t f5 cd5)
    (a6:aW K mainGlobals "house_of"=some (some (.ref f6)))
    (l6:FunI K "house_of" "house_of" b3Q f6 cd6)
    (a7:bB K (.ref CB) "__init__"=some (some (.ref f7)))
    (l7:FunI K "__init__" "Board.__init__" a4Q f7 cd7)
    (n7:eI K (.ref f7)=true)
    (a8:bB K (.ref CB) "coming"=some (some (.ref f8)))
    (l8:FunI K "coming" "Board.coming" a3I f8 (.ref Ct))
    (n8:eI K (.ref f8)=true)
    (a9:bB K (.ref CB) "is_ahead"=some (some (.ref f9)))
    (l9:FunI K "is_ahead" "Board.is_ahead" a5X f9 cd9)
    (n9:eI K (.ref f9)=true)
    (a10:bB K (.ref CB) "going"=some (some (.ref f10)))
    (l10:FunI K "going" "Board.going" a5z f10 cd10)
    (n10:eI K (.ref f10)=true)
    (a11:aW K mainGlobals "swept"=some (some (.ref f11)))
    (l11:FunI K "swept" "swept" a5s f11 cd11)
    (a12:bB K (.ref CB) "exchange"=some (some (.ref f12)))
    (l12:FunI K "exchange" "Board.exchange" Q5 f12 cd12)
    (n12:eI K (.ref f12)=true)
    (a13:bB K (.ref CB) "amounts"=some (some (.ref f13)))
    (l13:FunI K "amounts" "Board.amounts" b0d f13 cd13)
    (n13:eI K (.ref f13)=true)
    (a14:bB K (.ref CB) "weights"=some (some (.ref f14)))
    (l14:FunI K "weights" "Board.weights" b3o f14 cd14)
    (n14:eI K (.ref f14)=true)
    (a15:aW K mainGlobals "greatest"=some (some (.ref f15)))
    (l15:FunI K "greatest" "greatest" N5 f15 cd15)
    (a16:aW K mainGlobals "house_rows"=some (some (.ref f16)))
    (l16:FunI K "house_rows" "house_rows" R1 f16 cd16)
    (a17:aW K mainGlobals "greatest_earned"=some (some (.ref f17)))
    (l17:FunI K "greatest_earned" "greatest_earned" Z6 f17 cd17)
    (a18:aW K mainGlobals "common_divisor"=some (some (.ref f18)))
    (l18:FunI K "common_divisor" "common_divisor" b3L f18 cd18)
    (a19:aW K mainGlobals "lowest"=some (some (.ref f19)))
    (l19:FunI K "lowest" "lowest" b2R f19 cd19)
    (a20:aW K mainGlobals "held_against"=some (some (.ref f20)))
    (l20:FunI K "held_against" "held_against" a9K f20 cd20)
    (a21:aW K mainGlobals "share"=some (some (.ref f21)))
    (l21:FunI K "share" "share" a5S f21 cd21)
    (a22:bB K (.ref CK) "turn_to"=some (some (.ref f22)))
    (l22:FunI K "turn_to" "Kept.turn_to" D6 f22 cd22)
    (n22:eI K (.ref f22)=true)
    (a23:aW K mainGlobals "is_whole"=some (some (.ref f23)))
    (l23:FunI K "is_whole" "is_whole" a0v f23 cd23)
    (a24:aW K mainGlobals "are_amounts"=some (some (.ref f24)))
    (l24:FunI K "are_amounts" "are_amounts" T5 f24 cd24)
    (a25:aW K mainGlobals "is_house"=some (some (.ref f25)))
    (l25:FunI K "is_house" "is_house" a0w f25 cd25)
    (a26:aW K mainGlobals "refuse_unfit"=some (some (.ref f26)))
    (l26:FunI K "refuse_unfit" "refuse_unfit" S1 f26 cd26)
    (a27:aW K mainGlobals "with_one_more"=some (some (.ref f27)))
    (l27:FunI K "with_one_more" "with_one_more" P2 f27 cd27)
    (a28:aW K mainGlobals "changes"=some (some (.ref f28)))
    (l28:FunI K "changes" "changes" a1s f28 cd28)
    (a29:bB K (.ref CK) "come"=some (some (.ref f29)))
    (l29:FunI K "come" "Kept.come" X3 f29 cd29)
    (n29:eI K (.ref f29)=true)
    (a30:bB K (.ref CK) "houses"=some (some (.ref f30)))
    (l30:FunI K "houses" "Kept.houses" T7 f30 cd30)
    (n30:eI K (.ref f30)=true)
    (a31:aW K mainGlobals "gives_no_less"=some (some (.ref f31)))
    (l31:FunI K "gives_no_less" "gives_no_less" P4 f31 cd31)
    (a32:aW K mainGlobals "covers_house"=some (some (.ref f32)))
    (l32:FunI K "covers_house" "covers_house" R3 f32 cd32)
    (a33:aW K mainGlobals "compared"=some (some (.ref f33)))
    (l33:FunI K "compared" "compared" a0A f33 cd33)
    (a34:aW K mainGlobals "least_times"=some (some (.ref f34)))
    (l34:FunI K "least_times" "least_times" O4 f34 cd34)
    (a35:aW K mainGlobals "share_alone"=some (some (.ref f35)))
    (l35:FunI K "share_alone" "share_alone" O3 f35 cd35)
    (a36:aW K mainGlobals "scale"=some (some (.ref f36)))
    (l36:FunI K "scale" "scale" a3z f36 cd36)
    (a37:aW K mainGlobals "are_like_counts"=some (some (.ref f37)))
    (l37:FunI K "are_like_counts" "are_like_counts" a9M f37 cd37)
    (a38:aW K mainGlobals "divided"=some (some (.ref f38)))
    (l38:FunI K "divided" "divided" a1v f38 cd38)
    (a39:aW K mainGlobals "multiplied"=some (some (.ref f39)))
    (l39:FunI K "multiplied" "multiplied" V6 f39 cd39)
    (a40:aW K mainGlobals "moved"=some (some (.ref f40)))
    (l40:FunI K "moved" "moved" a0i f40 cd40)
    (a41:aW K mainGlobals "together"=some (some (.ref f41)))
    (l41:FunI K "together" "together" a0D f41 cd41)
    (a42:aW K mainGlobals "merged"=some (some (.ref f42)))
    (l42:FunI K "merged" "merged" U5 f42 cd42)
    (a43:aW K mainGlobals "with_another"=some (some (.ref f43)))
    (l43:FunI K "with_another" "with_another" R4 f43 cd43)
    (a44:bB K (.ref CK) "alter"=some (some (.ref f44)))
    (l44:FunI K "alter" "Kept.alter" V2 f44 cd44)
    (n44:eI K (.ref f44)=true)
    (a45:aW K mainGlobals "without"=some (some (.ref f45)))
    (l45:FunI K "without" "without" a2u f45 cd45)
    (a46:bB K (.ref CK) "go"=some (some (.ref f46)))
    (l46:FunI K "go" "Kept.go" a1d f46 cd46)
    (n46:eI K (.ref f46)=true)
    (a47:aW K mainGlobals "greatest_given"=some (some (.ref f47)))
    (l47:FunI K "greatest_given" "greatest_given" a1w f47 cd47)
    (a48:aW K mainGlobals "growth"=some (some (.ref f48)))
    (l48:FunI K "growth" "growth" a3E f48 cd48)
    (a49:aW K mainGlobals "share_of_others"=some (some (.ref f49)))
    (l49:FunI K "share_of_others" "share_of_others" a4m f49 cd49)
    (a50:aW K mainGlobals "_law_a_door"=some (some (.ref f50)))
    (l50:FunI K "_law_a_door" "_law_a_door" E5 f50 cd50)
    (a51:aW K mainGlobals "_law_a_kin"=some (some (.ref f51)))
    (l51:FunI K "_law_a_kin" "_law_a_kin" V3 f51 cd51)
    (a52:aW K mainGlobals "_law_asked"=some (some (.ref f52)))
    (l52:FunI K "_law_asked" "_law_asked" W5 f52 cd52)
    (a53:aW K mainGlobals "_law_due_kin"=some (some (.ref f53)))
    (l53:FunI K "_law_due_kin" "_law_due_kin" R8 f53 cd53)
    (a54:aW K mainGlobals "law"=some (some (.ref f54)))
    (l54:K.lookup f54=some ⟨ocL,odL,.func (gW "law" "law" (G5 a1O) (w4 a1O) (j4 a1O) .none kVL dcL pmL anL cdL ctL),slL⟩)
    (c54:lK K cdL "law"=true)
    (k54:dL K (.ref f54)=true)
    (z1:aW K mainGlobals "len"=some none)
    (z2:aW K mainGlobals "all"=some none)
    (z3:aW K mainGlobals "any"=some none)
    (z4:aW K mainGlobals "max"=some none)
    (z5:aW K mainGlobals "min"=some none)
    (z6:aW K mainGlobals "sum"=some none)
    (z7:aW K mainGlobals "tuple"=some none)
    (z8:aW K mainGlobals "list"=some none)
    (z9:aW K mainGlobals "int"=some none)
    (z10:aW K mainGlobals "bool"=some none)
    (z11:aW K mainGlobals "range"=some none)
    (z12:aW K mainGlobals "isinstance"=some none)
    (z13:aW K mainGlobals "abs"=some none)
    (z14:aW K mainGlobals "zip"=some none)
    (z15:aW K mainGlobals "enumerate"=some none)
    (z16:aW K mainGlobals "ValueError"=some none)
    (z17:aW K mainGlobals "sorted"=some none)
    (bp:jT K CB jU=true)
    (bh:lG K CB=true)
    (bo:mV K CB=true)
    (bs:bB K (.ref CB) "__setattr__"=some (some (.builtin "object.__setattr__")))
    (b_many:bB K (.ref CB) "many"=some none)
    (b_scale:bB K (.ref CB) "scale"=some none)
    (b_cells:bB K (.ref CB) "cells"=some none)
    (b_outs:bB K (.ref CB) "outs"=some none)
    (b_ins:bB K (.ref CB) "ins"=some none)
    (bm:mW K CB=true)
    (bk:dL K (.ref CB)=true)
    (kp:jT K CK jU=true)
    (kh:lG K CK=true)
    (ko:mV K CK=true)
    (ks:bB K (.ref CK) "__setattr__"=some (some (.builtin "object.__setattr__")))
    (k_many_takes:bB K (.ref CK) "many_takes"=some none)
    (k_many_gives:bB K (.ref CK) "many_gives"=some none)
    (k_sizes:bB K (.ref CK) "sizes"=some none)
    (k_there:bB K (.ref CK) "there"=some none)
    (k_worth:bB K (.ref CK) "worth"=some none)
    (k_past:bB K (.ref CK) "past"=some none)
    (km:mW K CK=true)
    (kk:dL K (.ref CK)=true)
    (s1:aW K mainGlobals "SIZE_SIGNS"=some (some (.ref dS)))
    (s3:K.lookup dS=some ⟨.type "dict",none,.dict eS nS,#[]⟩)
    (s4:W.KeysLit w.params eS.toList)
    (sa0:aW K dS "any"=some (some (.ref tS0)))
    (sb0:K.lookup tS0=some ⟨.type "tuple",odS0,.seq #[] nS0,slS0⟩)
    (sa1:aW K dS "one"=some (some (.ref tS1)))
    (sb1:K.lookup tS1=some ⟨.type "tuple",odS1,.seq #[.int 1 tkA,.int (-1) tkB] nS1,slS1⟩)
    (sa2:aW K dS "less"=some (some (.ref tS2)))
    (sb2:K.lookup tS2=some ⟨.type "tuple",odS2,.seq #[.int (-1) tkC] nS2,slS2⟩)
    (sa3:aW K dS "more"=some (some (.ref tS3)))
    (sb3:K.lookup tS3=some ⟨.type "tuple",odS3,.seq #[.int 1 tkD] nS3,slS3⟩)
    (xmNoHouse:aW K mainGlobals "NoHouse"=some (some (.ref cE_NoHouse)))
    (xoNoHouse:jO K cE_NoHouse [.type "ValueError",.type "Exception",.type "BaseException",.type "object"] "ValueError.__new__"=true)
    (xgaNoHouse:bB K (.ref cE_NoHouse) "__getattribute__"=some (some (.builtin "BaseException.__getattribute__")))
    (xgnNoHouse:bB K (.ref cE_NoHouse) "__getattr__"=some none)
    (xcaNoHouse:bB K (.ref cE_NoHouse) "__class__"=some (some (.builtin "object.__class__")))
    (xmoNoHouse:dM K cE_NoHouse (.type "object")=some true)
    (xmbNoHouse:dM K cE_NoHouse (.type "BaseException")=some true)
    (xmNoBook:aW K mainGlobals "NoBook"=some (some (.ref cE_NoBook)))
    (xoNoBook:jO K cE_NoBook [.type "ValueError",.type "Exception",.type "BaseException",.type "object"] "ValueError.__new__"=true)
    (xgaNoBook:bB K (.ref cE_NoBook) "__getattribute__"=some (some (.builtin "BaseException.__getattribute__")))
    (xgnNoBook:bB K (.ref cE_NoBook) "__getattr__"=some none)
    (xcaNoBook:bB K (.ref cE_NoBook) "__class__"=some (some (.builtin "object.__class__")))
    (xmoNoBook:dM K cE_NoBook (.type "object")=some true)
    (xmbNoBook:dM K cE_NoBook (.type "BaseException")=some true)
    (xmRimError:aW K mainGlobals "RimError"=some (some (.ref cE_RimError)))
    (xoRimError:jO K cE_RimError [.type "ValueError",.type "Exception",.type "BaseException",.type "object"] "ValueError.__new__"=true)
    (xgaRimError:bB K (.ref cE_RimError) "__getattribute__"=some (some (.builtin "BaseException.__getattribute__")))
    (xgnRimError:bB K (.ref cE_RimError) "__getattr__"=some none)
    (xcaRimError:bB K (.ref cE_RimError) "__class__"=some (some (.builtin "object.__class__")))
    (xmoRimError:dM K cE_RimError (.type "object")=some true)
    (xmbRimError:dM K cE_RimError (.type "BaseException")=some true)
    (xmNoRow:aW K mainGlobals "NoRow"=some (some (.ref cE_NoRow)))
    (xoNoRow:jO K cE_NoRow [.type "ValueError",.type "Exception",.type "BaseException",.type "object"] "ValueError.__new__"=true)
    (xgaNoRow:bB K (.ref cE_NoRow) "__getattribute__"=some (some (.builtin "BaseException.__getattribute__")))
    (xgnNoRow:bB K (.ref cE_NoRow) "__getattr__"=some none)
    (xcaNoRow:bB K (.ref cE_NoRow) "__class__"=some (some (.builtin "object.__class__")))
    (xmoNoRow:dM K cE_NoRow (.type "object")=some true)
    (xmbNoRow:dM K cE_NoRow (.type "BaseException")=some true)
    (xmNoText:aW K mainGlobals "NoText"=some (some (.ref cE_NoText)))
    (xoNoText:jO K cE_NoText [.type "ValueError",.type "Exception",.type "BaseException",.type "object"] "ValueError.__new__"=true)
    (xgaNoText:bB K (.ref cE_NoText) "__getattribute__"=some (some (.builtin "BaseException.__getattribute__")))
    (xgnNoText:bB K (.ref cE_NoText) "__getattr__"=some none)
    (xcaNoText:bB K (.ref cE_NoText) "__class__"=some (some (.builtin "object.__class__")))
    (xmoNoText:dM K cE_NoText (.type "object")=some true)
    (xmbNoText:dM K cE_NoText (.type "BaseException")=some true)
    (xmTooMany:aW K mainGlobals "TooMany"=some (some (.ref cE_TooMany)))
    (xoTooMany:jO K cE_TooMany [.type "ValueError",.type "Exception",.type "BaseException",.type "object"] "ValueError.__new__"=true)
    (xgaTooMany:bB K (.ref cE_TooMany) "__getattribute__"=some (some (.builtin "BaseException.__getattribute__")))
    (xgnTooMany:bB K (.ref cE_TooMany) "__getattr__"=some none)
    (xcaTooMany:bB K (.ref cE_TooMany) "__class__"=some (some (.builtin "object.__class__")))
    (xmoTooMany:dM K cE_TooMany (.type "object")=some true)
    (xmbTooMany:dM K cE_TooMany (.type "BaseException")=some true)
    (xmNothingLeft:aW K mainGlobals "NothingLeft"=some (some (.ref cE_NothingLeft)))
    (xoNothingLeft:jO K cE_NothingLeft [.type "ValueError",.type "Exception",.type "BaseException",.type "object"] "ValueError.__new__"=true)
    (xgaNothingLeft:bB K (.ref cE_NothingLeft) "__getattribute__"=some (some (.builtin "BaseException.__getattribute__")))
    (xgnNothingLeft:bB K (.ref cE_NothingLeft) "__getattr__"=some none)
    (xcaNothingLeft:bB K (.ref cE_NothingLeft) "__class__"=some (some (.builtin "object.__class__")))
    (xmoNothingLeft:dM K cE_NothingLeft (.type "object")=some true)
    (xmbNothingLeft:dM K cE_NothingLeft (.type "BaseException")=some true)
    (cmMOST_AMOUNT:aW K mainGlobals "MOST_AMOUNT"=some (some (.int 1000000000 tkC_MOST_AMOUNT)))
    (cmMOST_HOUSES:aW K mainGlobals "MOST_HOUSES"=some (some (.int 16 tkC_MOST_HOUSES)))
    (cmNOUGHT:aW K mainGlobals "NOUGHT"=some (some (.ref oC_NOUGHT)))
    (clNOUGHT:K.lookup oC_NOUGHT=some ⟨.type "tuple",odC_NOUGHT,.seq #[.int 0 tkC0_NOUGHT,.int 1 tkC1_NOUGHT] nC_NOUGHT,slC_NOUGHT⟩)
    (eSub_NoHouse:dM K cE_NoHouse (.ref cE_RimError)=some true)
    (eI_NoHouse_NoBook:bV K (.ref cE_NoHouse) (.ref cE_NoBook)=some false)
    (eI_NoHouse_NoRow:bV K (.ref cE_NoHouse) (.ref cE_NoRow)=some false)
    (eI_NoHouse_NoText:bV K (.ref cE_NoHouse) (.ref cE_NoText)=some false)
    (eI_NoHouse_TooMany:bV K (.ref cE_NoHouse) (.ref cE_TooMany)=some false)
    (eI_NoHouse_NothingLeft:bV K (.ref cE_NoHouse) (.ref cE_NothingLeft)=some false)
    (eIV_NoHouse:bV K (.ref cE_NoHouse) (.type "ValueError")=some true)
    (eSub_NoBook:dM K cE_NoBook (.ref cE_RimError)=some true)
    (eI_NoBook_NoHouse:bV K (.ref cE_NoBook) (.ref cE_NoHouse)=some false)
    (eI_NoBook_NoRow:bV K (.ref cE_NoBook) (.ref cE_NoRow)=some false)
    (eI_NoBook_NoText:bV K (.ref cE_NoBook) (.ref cE_NoText)=some false)
    (eI_NoBook_TooMany:bV K (.ref cE_NoBook) (.ref cE_TooMany)=some false)
    (eI_NoBook_NothingLeft:bV K (.ref cE_NoBook) (.ref cE_NothingLeft)=some false)
    (eIV_NoBook:bV K (.ref cE_NoBook) (.type "ValueError")=some true)
    (eSub_TooMany:dM K cE_TooMany (.ref cE_RimError)=some true)
    (eI_TooMany_NoBook:bV K (.ref cE_TooMany) (.ref cE_NoBook)=some false)
    (eI_TooMany_NoHouse:bV K (.ref cE_TooMany) (.ref cE_NoHouse)=some false)
    (eI_TooMany_NoRow:bV K (.ref cE_TooMany) (.ref cE_NoRow)=some false)
    (eI_TooMany_NoText:bV K (.ref cE_TooMany) (.ref cE_NoText)=some false)
    (eI_TooMany_NothingLeft:bV K (.ref cE_TooMany) (.ref cE_NothingLeft)=some false)
    (eIV_TooMany:bV K (.ref cE_TooMany) (.type "ValueError")=some true)
   :∃ fd:aJ,(∀ (s:aD) (v:aC),iJ s fd ⟨[v],[]⟩ [("script",v)])/\∀ base:aG,K.In base->base.Ns mainGlobals mg->V9 mg base->(∀ t∈[(Ct,Pt)],kK base t.1 t.2)->FnOk l.prog w K mg base E1 13 fa fd ["script"] (a6F K Pt):=by
  have e:=hfa.symm.trans (aX X G a54)
  cases e;obtain ⟨_,F1,hc1,k1⟩:=l1.fn;obtain ⟨_,F2,hc2,k2⟩:=l2.fn;obtain ⟨_,F3,hc3,k3⟩:=l3.fn;obtain ⟨_,F4,hc4,k4⟩:=l4.fn;obtain ⟨_,F5,hc5,k5⟩:=l5.fn;obtain ⟨_,F6,hc6,k6⟩:=l6.fn;obtain ⟨_,F7,hc7,k7⟩:=l7.fn;obtain ⟨_,F8,hc8,k8⟩:=l8.fn;obtain ⟨_,F9,hc9,k9⟩:=l9.fn;obtain ⟨_,F10,hc10,k10⟩:=l10.fn;obtain ⟨_,F11,hc11,k11⟩:=l11.fn;obtain ⟨_,F12,hc12,k12⟩:=l12.fn;obtain ⟨_,F13,hc13,k13⟩:=l13.fn;obtain ⟨_,F14,hc14,k14⟩:=l14.fn;obtain ⟨_,F15,hc15,k15⟩:=l15.fn;obtain ⟨_,F16,hc16,k16⟩:=l16.fn;obtain ⟨_,F17,hc17,k17⟩:=l17.fn;obtain ⟨_,F18,hc18,k18⟩:=l18.fn;obtain ⟨_,F19,hc19,k19⟩:=l19.fn;obtain ⟨_,F20,hc20,k20⟩:=l20.fn;obtain ⟨_,F21,hc21,k21⟩:=l21.fn;obtain ⟨_,F22,hc22,k22⟩:=l22.fn;obtain ⟨_,F23,hc23,k23⟩:=l23.fn;obtain ⟨_,F24,hc24,k24⟩:=l24.fn;obtain ⟨_,F25,hc25,k25⟩:=l25.fn;obtain ⟨_,F26,hc26,k26⟩:=l26.fn;obtain ⟨_,F27,hc27,k27⟩:=l27.fn;obtain ⟨_,F28,hc28,k28⟩:=l28.fn;obtain ⟨_,F29,hc29,k29⟩:=l29.fn;obtain ⟨_,F30,hc30,k30⟩:=l30.fn;obtain ⟨_,F31,hc31,k31⟩:=l31.fn;obtain ⟨_,F32,hc32,k32⟩:=l32.fn;obtain ⟨_,F33,hc33,k33⟩:=l33.fn;obtain ⟨_,F34,hc34,k34⟩:=l34.fn;obtain ⟨_,F35,hc35,k35⟩:=l35.fn;obtain ⟨_,F36,hc36,k36⟩:=l36.fn;obtain ⟨_,F37,hc37,k37⟩:=l37.fn;obtain ⟨_,F38,hc38,k38⟩:=l38.fn;obtain ⟨_,F39,hc39,k39⟩:=l39.fn;obtain ⟨_,F40,hc40,k40⟩:=l40.fn;obtain ⟨_,F41,hc41,k41⟩:=l41.fn;obtain ⟨_,F42,hc42,k42⟩:=l42.fn;obtain ⟨_,F43,hc43,k43⟩:=l43.fn;obtain ⟨_,F44,hc44,k44⟩:=l44.fn;obtain ⟨_,F45,hc45,k45⟩:=l45.fn;obtain ⟨_,F46,hc46,k46⟩:=l46.fn;obtain ⟨_,F47,hc47,k47⟩:=l47.fn;obtain ⟨_,F48,hc48,k48⟩:=l48.fn;obtain ⟨_,F49,hc49,k49⟩:=l49.fn;obtain ⟨_,F50,hc50,k50⟩:=l50.fn;obtain ⟨_,F51,hc51,k51⟩:=l51.fn;obtain ⟨_,F52,hc52,k52⟩:=l52.fn;obtain ⟨_,F53,hc53,k53⟩:=l53.fn;have F54:=a9g (st:=a1O) l54 c54 k54;have b1:Binds K _ ["self","takes","gives","sizes"] []:=F1.b4 λ _ _ _ _ _ _ _ _ _ _=>rfl;have b2:Binds K _ ["script","k"] []:=F2.b2 λ _ _ _ _ _ _ _ _=>rfl;have b3:Binds K _ ["cell","many","base"] []:=F3.b3 λ _ _ _ _ _ _ _ _ _=>rfl;have b4:Binds K _ ["house","picks","far"] []:=F4.b3 λ _ _ _ _ _ _ _ _ _=>rfl;have b5:Binds K _ ["script","at","most","far"] []:=F5.b4 λ _ _ _ _ _ _ _ _ _ _=>rfl;have b6:Binds K _ ["book","number"] []:=F6.b2 λ _ _ _ _ _ _ _ _=>rfl;have b7:Binds K _ ["self","goal","rows","bounds"] []:=F7.b4 λ _ _ _ _ _ _ _ _ _ _=>rfl;have b8:Binds K _ ["self"] []:=F8.b1 λ _ _ _ _ _ _ _=>rfl;have b9:Binds K _ ["self","row","other","column"] []:=F9.b4 λ _ _ _ _ _ _ _ _ _ _=>rfl;have b10:Binds K _ ["self","column"] []:=F10.b2 λ _ _ _ _ _ _ _ _=>rfl;have b11:Binds K _ ["cells","lead","column","scale"] []:=F11.b4 λ _ _ _ _ _ _ _ _ _ _=>rfl;have b12:Binds K _ ["self","row","column"] []:=F12.b3 λ _ _ _ _ _ _ _ _ _=>rfl;have b13:Binds K _ ["self"] []:=F13.b1 λ _ _ _ _ _ _ _=>rfl;have b14:Binds K _ ["self"] []:=F14.b1 λ _ _ _ _ _ _ _=>rfl;have b15:Binds K _ ["goal","rows","bounds"] []:=F15.b3 λ _ _ _ _ _ _ _ _ _=>rfl;have b16:Binds K _ ["houses","sizes"] []:=F16.b2 λ _ _ _ _ _ _ _ _=>rfl;have b17:Binds K _ ["houses","house","sizes"] []:=F17.b3 λ _ _ _ _ _ _ _ _ _=>rfl;have b18:Binds K _ ["one","other"] []:=F18.b2 λ _ _ _ _ _ _ _ _=>rfl;have b19:Binds K _ ["top","bottom"] []:=F19.b2 λ _ _ _ _ _ _ _ _=>rfl;have b20:Binds K _ ["houses","house","sizes"] []:=F20.b3 λ _ _ _ _ _ _ _ _ _=>rfl;have b21:Binds K _ ["book","number","sizes"] []:=F21.b3 λ _ _ _ _ _ _ _ _ _=>rfl;have b22:Binds K _ ["self","houses"] []:=F22.b2 λ _ _ _ _ _ _ _ _=>rfl;have b23:Binds K _ ["thing"] []:=F23.b1 λ _ _ _ _ _ _ _=>rfl;have b24:Binds K _ ["thing","many","least"] []:=F24.b3 λ _ _ _ _ _ _ _ _ _=>rfl;have b25:Binds K _ ["thing","many_takes","many_gives"] []:=F25.b3 λ _ _ _ _ _ _ _ _ _=>rfl;have b26:Binds K _ ["thing","many_takes","many_gives"] []:=F26.b3 λ _ _ _ _ _ _ _ _ _=>rfl;have b27:Binds K _ ["houses","house","many_takes","many_gives"] []:=F27.b4 λ _ _ _ _ _ _ _ _ _ _=>rfl;have b28:Binds K _ ["ahead","behind"] []:=F28.b2 λ _ _ _ _ _ _ _ _=>rfl;have b29:Binds K _ ["self","house"] []:=F29.b2 λ _ _ _ _ _ _ _ _=>rfl;have b30:Binds K _ ["self"] []:=F30.b1 λ _ _ _ _ _ _ _=>rfl;have b31:Binds K _ ["house","other"] []:=F31.b2 λ _ _ _ _ _ _ _ _=>rfl;have b32:Binds K _ ["book","one","other"] []:=F32.b3 λ _ _ _ _ _ _ _ _ _=>rfl;have b33:Binds K _ ["one","other"] []:=F33.b2 λ _ _ _ _ _ _ _ _=>rfl;have b34:Binds K _ ["takes","others"] []:=F34.b2 λ _ _ _ _ _ _ _ _=>rfl;have b35:Binds K _ ["book","number"] []:=F35.b2 λ _ _ _ _ _ _ _ _=>rfl;have b36:Binds K _ ["book","number"] []:=F36.b2 λ _ _ _ _ _ _ _ _=>rfl;have b37:Binds K _ ["house","other"] []:=F37.b2 λ _ _ _ _ _ _ _ _=>rfl;have b38:Binds K _ ["one","other"] []:=F38.b2 λ _ _ _ _ _ _ _ _=>rfl;have b39:Binds K _ ["one","other"] []:=F39.b2 λ _ _ _ _ _ _ _ _=>rfl;have b40:Binds K _ ["before","after","number","sizes"] []:=F40.b4 λ _ _ _ _ _ _ _ _ _ _=>rfl;have b41:Binds K _ ["rows"] []:=F41.b1 λ _ _ _ _ _ _ _=>rfl;have b42:Binds K _ ["book","numbers"] []:=F42.b2 λ _ _ _ _ _ _ _ _=>rfl;have b43:Binds K _ ["houses","number","house","many_takes","many_gives"] []:=F43.b5 λ _ _ _ _ _ _ _ _ _ _ _=>rfl;have b44:Binds K _ ["self","number","house"] []:=F44.b3 λ _ _ _ _ _ _ _ _ _=>rfl;have b45:Binds K _ ["houses","number"] []:=F45.b2 λ _ _ _ _ _ _ _ _=>rfl;have b46:Binds K _ ["self","number"] []:=F46.b2 λ _ _ _ _ _ _ _ _=>rfl;have b47:Binds K _ ["houses","house","sizes"] []:=F47.b3 λ _ _ _ _ _ _ _ _ _=>rfl;have b48:Binds K _ ["book","number","sizes"] []:=F48.b3 λ _ _ _ _ _ _ _ _ _=>rfl;have b49:Binds K _ ["book","number","sizes"] []:=F49.b3 λ _ _ _ _ _ _ _ _ _=>rfl;have b50:Binds K _ ["door","book","number","kept"] []:=F50.b4 λ _ _ _ _ _ _ _ _ _ _=>rfl;have b51:Binds K _ ["e"] []:=F51.b1 λ _ _ _ _ _ _ _=>rfl;have b52:Binds K _ ["door","book","number","kept"] []:=F52.b4 λ _ _ _ _ _ _ _ _ _ _=>rfl;have b53:Binds K _ ["name"] []:=F53.b1 λ _ _ _ _ _ _ _=>rfl;have T:x8 mg:=⟨W.mg_none_of X G z1,eO X G z2,eO X G z3,eO X G z4,eO X G z5,eO X G z6,eO X G z7,eO X G z8,eO X G z9,eO X G z10,eO X G z11,eO X G z12,eO X G z13,eO X G z14,eO X G z15,eO X G z16,eO X G z17⟩;have TBd:TB K CB:=⟨⟨bp,bh,bo,bs⟩,b_many,b_scale,b_cells,b_outs,b_ins⟩;have TKd:TK K CK:=⟨⟨kp,kh,ko,ks⟩,k_many_takes,k_many_gives,k_sizes,k_there,k_worth,k_past⟩;have SG:Sg K w.params mg dS:=⟨W.mg_of X G s1,⟨_,_,s3,s4⟩,λ z hz=>by
    rcases hz with rfl | rfl | rfl | rfl
    . exact ⟨_,sa0,λ H=>.inr ⟨_,_,_,sb0,rfl,rfl,(by show 0<=sizeLine; decide),.nil⟩⟩
    . exact ⟨_,sa1,λ H=>.inr ⟨_,_,_,sb1,rfl,rfl,(by show 2<=sizeLine; decide),.cons ⟨_,rfl⟩ (.cons ⟨_,rfl⟩ .nil)⟩⟩
    . exact ⟨_,sa2,λ H=>.inr ⟨_,_,_,sb2,rfl,rfl,(by show 1<=sizeLine; decide),.cons ⟨_,rfl⟩ .nil⟩⟩
    . exact ⟨_,sa3,λ H=>.inr ⟨_,_,_,sb3,rfl,rfl,(by show 1<=sizeLine; decide),.cons ⟨_,rfl⟩ .nil⟩⟩
    ⟩
  have C_MOST_AMOUNT:∃ t,mg "MOST_AMOUNT"=some (.int 1000000000 t):=⟨_,aX X G cmMOST_AMOUNT⟩;have C_MOST_HOUSES:∃ t,mg "MOST_HOUSES"=some (.int 16 t):=⟨_,aX X G cmMOST_HOUSES⟩;have C_NOUGHT:a6b K mg oC_NOUGHT:=⟨W.mg_of X G cmNOUGHT,λ H=>.inr ⟨_,_,_,clNOUGHT,rfl,rfl,(by show 2<=sizeLine; decide),.cons ⟨_,rfl⟩ (.cons ⟨_,rfl⟩ .nil)⟩⟩;have k_NoHouse:S4 K cE_NoHouse:=⟨a0z xoNoHouse,xgaNoHouse,xgnNoHouse,xcaNoHouse,xmoNoHouse,xmbNoHouse⟩;have m_NoHouse:=aX X G xmNoHouse;have k_NoBook:S4 K cE_NoBook:=⟨a0z xoNoBook,xgaNoBook,xgnNoBook,xcaNoBook,xmoNoBook,xmbNoBook⟩;have m_NoBook:=aX X G xmNoBook;have k_RimError:S4 K cE_RimError:=⟨a0z xoRimError,xgaRimError,xgnRimError,xcaRimError,xmoRimError,xmbRimError⟩;have m_RimError:=aX X G xmRimError;have k_NoRow:S4 K cE_NoRow:=⟨a0z xoNoRow,xgaNoRow,xgnNoRow,xcaNoRow,xmoNoRow,xmbNoRow⟩;have m_NoRow:=aX X G xmNoRow;have k_NoText:S4 K cE_NoText:=⟨a0z xoNoText,xgaNoText,xgnNoText,xcaNoText,xmoNoText,xmbNoText⟩;have m_NoText:=aX X G xmNoText;have k_TooMany:S4 K cE_TooMany:=⟨a0z xoTooMany,xgaTooMany,xgnTooMany,xcaTooMany,xmoTooMany,xmbTooMany⟩;have m_TooMany:=aX X G xmTooMany;have k_NothingLeft:S4 K cE_NothingLeft:=⟨a0z xoNothingLeft,xgaNothingLeft,xgnNothingLeft,xcaNothingLeft,xmoNothingLeft,xmbNothingLeft⟩;have m_NothingLeft:=aX X G xmNothingLeft;have R:b3s K mg cE_RimError cE_NoBook cE_NoHouse cE_NoRow cE_NoText cE_TooMany cE_NothingLeft:=⟨m_RimError,m_NoBook,m_NoHouse,m_NoRow,m_NoText,m_TooMany,m_NothingLeft,k_RimError⟩;have M_NoHouse:a4v K cE_NoHouse cE_RimError cE_NoBook cE_NoHouse cE_NoRow cE_NoText cE_TooMany cE_NothingLeft false true false false false false:=⟨k_NoHouse,eSub_NoHouse,eI_NoHouse_NoBook,U6 _,eI_NoHouse_NoRow,eI_NoHouse_NoText,eI_NoHouse_TooMany,eI_NoHouse_NothingLeft,eIV_NoHouse⟩;have M_NoBook:a4v K cE_NoBook cE_RimError cE_NoBook cE_NoHouse cE_NoRow cE_NoText cE_TooMany cE_NothingLeft true false false false false false:=⟨k_NoBook,eSub_NoBook,U6 _,eI_NoBook_NoHouse,eI_NoBook_NoRow,eI_NoBook_NoText,eI_NoBook_TooMany,eI_NoBook_NothingLeft,eIV_NoBook⟩;have M_TooMany:a4v K cE_TooMany cE_RimError cE_NoBook cE_NoHouse cE_NoRow cE_NoText cE_TooMany cE_NothingLeft false false false false true false:=⟨k_TooMany,eSub_TooMany,eI_TooMany_NoBook,eI_TooMany_NoHouse,eI_TooMany_NoRow,eI_TooMany_NoText,U6 _,eI_TooMany_NothingLeft,eIV_TooMany⟩;refine ⟨W.fnOf "law" "law" (G5 a1O) (w4 a1O) (j4 a1O) .none kVL dcL pmL anL cdL ctL,λ s v=>.of_eq rfl,λ base _ _ BM hCH=>?_⟩;have g1:=λ n:Nat=>a8v (mg:=mg) (P:=l.prog) (w:=w) (base:=base) (n:=n) F1 TKd;have g2:=λ n:Nat=>b1M (mg:=mg) (P:=l.prog) (w:=w) (base:=base) (n:=n) F2 T;have g3:=λ n:Nat=>a9C (mg:=mg) (P:=l.prog) (w:=w) (base:=base) (n:=n) F3 T;have g4:=λ n:Nat=>b1F (mg:=mg) (P:=l.prog) (w:=w) (base:=base) (n:=n) F4 T;have g5:=λ n:Nat=>a8G (mg:=mg) (P:=l.prog) (w:=w) (base:=base) F5 T (g2 (n+0)) b2 k2 (aX X G a2) (g3 (n+0)) b3 k3 (aX X G a3) (g4 (n+0)) b4 k4 (aX X G a4);have g6:=λ n:Nat=>b3A (mg:=mg) (P:=l.prog) (w:=w) (base:=base) (n:=n) F6 T k_NoHouse m_NoHouse;have g7:=λ n:Nat=>b0P (mg:=mg) (P:=l.prog) (w:=w) (base:=base) (n:=n) F7 T TBd;have g8:=λ n:Nat=>a7T (mg:=mg) (P:=l.prog) (w:=w) (base:=base) (n:=n) F8 hc8 (hCH _ (.head _)) BM T TBd;have g9:=λ n:Nat=>a8B (mg:=mg) (P:=l.prog) (w:=w) (base:=base) (n:=n) F9 TBd;have g10:=λ n:Nat=>a9P (mg:=mg) (P:=l.prog) (w:=w) (base:=base) F10 T TBd ⟨g9 (n+0),b9,⟨a9,n9,k9⟩⟩;have g11:=λ n:Nat=>a9k (mg:=mg) (P:=l.prog) (w:=w) (base:=base) (n:=n) F11 T;have g12:=λ n:Nat=>a4x (mg:=mg) (P:=l.prog) (w:=w) (base:=base) F12 TBd ⟨g11 (n+0),b11,k11,(aX X G a11)⟩;have g13:=λ n:Nat=>b1Y (mg:=mg) (P:=l.prog) (w:=w) (base:=base) (n:=n) F13 T TBd;have g14:=λ n:Nat=>b2B (mg:=mg) (P:=l.prog) (w:=w) (base:=base) (n:=n) F14 T TBd;have g15:=λ n:Nat=>a5h (mg:=mg) (P:=l.prog) (w:=w) (base:=base) F15 TBd ⟨⟨bm,a7,n7,bk⟩,g7 (n+2),b7,aX X G aB,⟨g8 (n+0),b8,⟨a8,n8,k8⟩⟩,⟨g10 (n+1),b10,⟨a10,n10,k10⟩⟩,⟨g12 (n+1),b12,⟨a12,n12,k12⟩⟩,⟨g13 (n+2),b13,⟨a13,n13,k13⟩⟩,⟨g14 (n+2),b14,⟨a14,n14,k14⟩⟩⟩;have g16:=λ n:Nat=>a4k (mg:=mg) (P:=l.prog) (w:=w) (base:=base) (n:=n) F16 T SG;have g17:=λ n:Nat=>a7v (mg:=mg) (P:=l.prog) (w:=w) (base:=base) F17 T SG ⟨g15 (n+0),b15,k15,(aX X G a15)⟩ ⟨g16 (n+4),b16,k16,(aX X G a16)⟩;have g18:=λ n:Nat=>b2H (mg:=mg) (P:=l.prog) (w:=w) (base:=base) (n:=n) F18 T;have g19:=λ n:Nat=>b2T (mg:=mg) (P:=l.prog) (w:=w) (base:=base) F19 T ⟨g18 (n+0),b18,k18,(aX X G a18)⟩;have g20:=λ n:Nat=>b1R (mg:=mg) (P:=l.prog) (w:=w) (base:=base) F20 ⟨g17 (n+0),b17,k17,(aX X G a17)⟩ ⟨g19 (n+4),b19,k19,(aX X G a19)⟩;have g21:=λ n:Nat=>a8w (mg:=mg) (P:=l.prog) (w:=w) (base:=base) F21 ⟨g6 (n+6),b6,k6,(aX X G a6)⟩ ⟨g20 (n+0),b20,k20,(aX X G a20)⟩;have g22:=λ n:Nat=>a9v (mg:=mg) (P:=l.prog) (w:=w) (base:=base) F22 T TKd ⟨g21 (n+0),b21,k21,(aX X G a21)⟩;have g23:=λ n:Nat=>b1D (mg:=mg) (P:=l.prog) (w:=w) (base:=base) (n:=n) F23 T;have g24:=λ n:Nat=>b0H (mg:=mg) (P:=l.prog) (w:=w) (base:=base) F24 T C_MOST_AMOUNT ⟨g23 (n+0),b23,k23,(aX X G a23)⟩;have g25:=λ n:Nat=>b1i (mg:=mg) (P:=l.prog) (w:=w) (base:=base) F25 T ⟨g24 (n+0),b24,k24,(aX X G a24)⟩;have g26:=λ n:Nat=>a8i (mg:=mg) (P:=l.prog) (w:=w) (base:=base) F26 k_NoBook m_NoBook ⟨g25 (n+0),b25,k25,(aX X G a25)⟩;have g27:=λ n:Nat=>a6g (mg:=mg) (P:=l.prog) (w:=w) (base:=base) F27 T k_TooMany m_TooMany C_MOST_HOUSES ⟨g26 (n+0),b26,k26,(aX X G a26)⟩;have g28:=λ n:Nat=>a5C (mg:=mg) (P:=l.prog) (w:=w) (base:=base) (n:=n) F28 T;have g29:=λ n:Nat=>a9Q (mg:=mg) (P:=l.prog) (w:=w) (base:=base) F29 TKd ⟨g22 (n+0),b22,⟨a22,n22,k22⟩⟩ ⟨g27 (n+4),b27,k27,(aX X G a27)⟩ ⟨g28 (n+8),b28,k28,(aX X G a28)⟩;have g30:=λ n:Nat=>a5H (mg:=mg) (P:=l.prog) (w:=w) (base:=base) (n:=n) F30 T TKd;have g31:=λ n:Nat=>b2N (mg:=mg) (P:=l.prog) (w:=w) (base:=base) (n:=n) F31 T;have g32:=λ n:Nat=>b3q (mg:=mg) (P:=l.prog) (w:=w) (base:=base) F32 ⟨g31 (n+0),b31,k31,(aX X G a31)⟩ ⟨g6 (n+0),b6,k6,(aX X G a6)⟩;have g33:=λ n:Nat=>b1S (mg:=mg) (P:=l.prog) (w:=w) (base:=base) (n:=n) F33;have g34:=λ n:Nat=>b2X (mg:=mg) (P:=l.prog) (w:=w) (base:=base) F34 T C_NOUGHT ⟨g19 (n+0),b19,k19,(aX X G a19)⟩ ⟨g33 (n+1),b33,k33,(aX X G a33)⟩;have g35:=λ n:Nat=>b3l (mg:=mg) (P:=l.prog) (w:=w) (base:=base) F35 T ⟨g6 (n+2),b6,k6,(aX X G a6)⟩ ⟨g31 (n+2),b31,k31,(aX X G a31)⟩ ⟨g34 (n+0),b34,k34,(aX X G a34)⟩ ⟨g33 (n+2),b33,k33,(aX X G a33)⟩;have g36:=λ n:Nat=>a9A (mg:=mg) (P:=l.prog) (w:=w) (base:=base) F36 ⟨g21 (n+0),b21,k21,(aX X G a21)⟩;have g37:=λ n:Nat=>b0I (mg:=mg) (P:=l.prog) (w:=w) (base:=base) (n:=n) F37 T;have g38:=λ n:Nat=>a5W (mg:=mg) (P:=l.prog) (w:=w) (base:=base) F38 ⟨g19 (n+0),b19,k19,(aX X G a19)⟩;have g39:=λ n:Nat=>a2T (mg:=mg) (P:=l.prog) (w:=w) (base:=base) F39 ⟨g19 (n+0),b19,k19,(aX X G a19)⟩;have g40:=λ n:Nat=>a7u (mg:=mg) (P:=l.prog) (w:=w) (base:=base) F40 T k_NoBook m_NoBook ⟨g37 (n+6),b37,k37,(aX X G a37)⟩ ⟨g6 (n+6),b6,k6,(aX X G a6)⟩ ⟨g20 (n+0),b20,k20,(aX X G a20)⟩ ⟨g38 (n+4),b38,k38,(aX X G a38)⟩ ⟨g39 (n+4),b39,k39,(aX X G a39)⟩;have g41:=λ n:Nat=>b3b (mg:=mg) (P:=l.prog) (w:=w) (base:=base) (n:=n) F41 T;have g42:=λ n:Nat=>b3K (mg:=mg) (P:=l.prog) (w:=w) (base:=base) F42 T k_TooMany m_TooMany C_MOST_AMOUNT ⟨g6 (n+0),b6,k6,(aX X G a6)⟩ ⟨g41 (n+0),b41,k41,(aX X G a41)⟩;have g43:=λ n:Nat=>a5x (mg:=mg) (P:=l.prog) (w:=w) (base:=base) F43 ⟨g6 (n+3),b6,k6,(aX X G a6)⟩ ⟨g26 (n+0),b26,k26,(aX X G a26)⟩;have g44:=λ n:Nat=>a7R (mg:=mg) (P:=l.prog) (w:=w) (base:=base) F44 TKd ⟨g22 (n+0),b22,⟨a22,n22,k22⟩⟩ ⟨g43 (n+4),b43,k43,(aX X G a43)⟩ ⟨g28 (n+8),b28,k28,(aX X G a28)⟩;have g45:=λ n:Nat=>a5P (mg:=mg) (P:=l.prog) (w:=w) (base:=base) F45 ⟨g6 (n+0),b6,k6,(aX X G a6)⟩;have g46:=λ n:Nat=>b3N (mg:=mg) (P:=l.prog) (w:=w) (base:=base) F46 TKd ⟨g22 (n+0),b22,⟨a22,n22,k22⟩⟩ ⟨g45 (n+7),b45,k45,(aX X G a45)⟩ ⟨g28 (n+8),b28,k28,(aX X G a28)⟩;have g47:=λ n:Nat=>a9c (mg:=mg) (P:=l.prog) (w:=w) (base:=base) F47 T SG ⟨g15 (n+0),b15,k15,(aX X G a15)⟩ ⟨g16 (n+4),b16,k16,(aX X G a16)⟩;have g48:=λ n:Nat=>a7M (mg:=mg) (P:=l.prog) (w:=w) (base:=base) F48 ⟨g6 (n+5),b6,k6,(aX X G a6)⟩ ⟨g47 (n+0),b47,k47,(aX X G a47)⟩ ⟨g19 (n+4),b19,k19,(aX X G a19)⟩;have g49:=λ n:Nat=>a8b (mg:=mg) (P:=l.prog) (w:=w) (base:=base) F49 ⟨g6 (n+6),b6,k6,(aX X G a6)⟩ ⟨g45 (n+5),b45,k45,(aX X G a45)⟩ ⟨g20 (n+0),b20,k20,(aX X G a20)⟩;have g50:=λ n:Nat=>b1d (mg:=mg) (P:=l.prog) (w:=w) (base:=base) F50 TKd ⟨⟨g32 (n+8),b32,k32,(aX X G a32)⟩,⟨g35 (n+6),b35,k35,(aX X G a35)⟩,⟨g36 (n+1),b36,k36,(aX X G a36)⟩,⟨g40 (n+2),b40,k40,(aX X G a40)⟩,⟨g42 (n+8),b42,k42,(aX X G a42)⟩,⟨g44 (n+0),b44,⟨a44,n44,k44⟩⟩,⟨g46 (n+0),b46,⟨a46,n46,k46⟩⟩,⟨g21 (n+2),b21,k21,(aX X G a21)⟩,⟨g48 (n+3),b48,k48,(aX X G a48)⟩,⟨g49 (n+2),b49,k49,(aX X G a49)⟩⟩;have g51:=λ n:Nat=>b1T (mg:=mg) (P:=l.prog) (w:=w) (base:=base) (n:=n) F51 T R;have g52:=λ n:Nat=>a8z (mg:=mg) (P:=l.prog) (w:=w) (base:=base) F52 R M_NoHouse ⟨g50 (n+0),b50,k50,(aX X G a50)⟩ ⟨g51 (n+10),b51,k51,(aX X G a51)⟩;have g53:=λ n:Nat=>b1a (mg:=mg) (P:=l.prog) (w:=w) (base:=base) (n:=n) F53 T;exact b2V F54 T TKd ⟨⟨km,a1,n1,kk⟩,g1,b1,aX X G aK⟩ ⟨⟨g5 10,b5,k5,(aX X G a5)⟩,⟨g29 2,b29,⟨a29,n29,k29⟩⟩,⟨g30 11,b30,⟨a30,n30,k30⟩⟩,⟨g52 0,b52,k52,(aX X G a52)⟩,⟨g53 11,b53,k53,(aX X G a53)⟩⟩
end Rim
def PySem.W.Fast.tw7395718360283841186:Nat:=0
def PySem.W.Fast.tw3071817209217180776:Nat:=0
def PySem.W.Fast.tw17990623224882771391:Nat:=0
def PySem.W.Fast.tw3275625745198311995:Nat:=0
def PySem.W.Fast.tw15533562797815753213:Nat:=0
def PySem.W.Fast.tw11701046964992701459:Nat:=0
def PySem.W.Fast.tw10850674788272165529:Nat:=0
def PySem.W.Fast.tw12719762127773791204:Nat:=0
def PySem.W.Fast.tw2350846371025881773:Nat:=0
def PySem.W.Fast.tw18365508906461685100:Nat:=0
def PySem.W.Fast.tw1374100991897023093:Nat:=0
def PySem.W.Fast.tw17109318521939020160:Nat:=0
def PySem.W.Fast.tw1297716624629355332:Nat:=0
def PySem.W.Fast.tw16086790395793778779:Nat:=0
def PySem.W.Fast.tw5302392799047574715:Nat:=0
def PySem.W.Fast.tw8050870614589838940:Nat:=0
def PySem.W.Fast.tw6543801357983232654:Nat:=0
def PySem.W.Fast.tw12502590951546292533:Nat:=0
def PySem.W.Fast.tw13480919518389357029:Nat:=0
def PySem.W.Fast.tw4609758481799121078:Nat:=0
def PySem.W.Fast.tw13476429220603032845:Nat:=0
def PySem.W.Fast.tw15726298289814225902:Nat:=0
def PySem.W.Fast.tw3698127707791162171:Nat:=0
def PySem.W.Fast.tw8426618453109727370:Nat:=0
def PySem.W.Fast.tw15916941117873477443:Nat:=0
def PySem.W.Fast.tw8574256470089770170:Nat:=0
def PySem.W.Fast.tw12214076546795952748:Nat:=0
def PySem.W.Fast.tw2092444034468851083:Nat:=0
def PySem.W.Fast.tw13865445548579880948:Nat:=0
def PySem.W.Fast.tw8321970264255187162:Nat:=0
def PySem.W.Fast.tw286420703653805202:Nat:=0
def PySem.W.Fast.tw13583358528812782336:Nat:=0
def PySem.W.Fast.tw9786703116118253563:Nat:=0
def PySem.W.Fast.tw3820570470180774667:Nat:=0
def PySem.W.Fast.tw13300035885015034996:Nat:=0
def PySem.W.Fast.tw6829063560919476100:Nat:=0
def PySem.W.Fast.tw14607154034951623002:Nat:=0
def PySem.W.Fast.tw13316984406302766081:Nat:=0
def PySem.W.Fast.tw16494289443512383667:Nat:=0
def PySem.W.Fast.tw17684190901757911319:Nat:=0
def PySem.W.Fast.tw15771502423173791948:Nat:=0
def PySem.W.Fast.tw16557810436468707386:Nat:=0
def PySem.W.Fast.tw15587500256043154930:Nat:=0
def PySem.W.Fast.tw3108283854799084974:Nat:=0
def PySem.W.Fast.tw9492776110697397951:Nat:=0
def PySem.W.Fast.tw13743987685864302152:Nat:=0
def PySem.W.Fast.tw14688910918971529354:Nat:=0
def PySem.W.Fast.tw9423266569792096675:Nat:=0
def PySem.W.Fast.tw14159430157385624505:Nat:=0
def PySem.W.Fast.tw18144750165212784524:Nat:=0
def PySem.W.Fast.tw7648004116181256890:Nat:=0
def PySem.W.Fast.tw11915432086361047223:Nat:=0
def PySem.W.Fast.tw7314584653167366892:Nat:=0
def PySem.W.Fast.tw6998003930397572083:Nat:=0
def PySem.W.Fast.tw1204337980815266936:Nat:=0
def PySem.W.Fast.tw3220463142050182236:Nat:=0
def PySem.W.Fast.tw5289244430886290098:Nat:=0
def PySem.W.Fast.tw10657029105519930189:Nat:=0
def PySem.W.Fast.tw1902700249012249553:Nat:=0
def PySem.W.Fast.tw18328899172900467567:Nat:=0
def PySem.W.Fast.tw17356779030803691899:Nat:=0
def PySem.W.Fast.tw13240732102683898244:Nat:=0
def PySem.W.Fast.tw16607984508711826595:Nat:=0
def PySem.W.Fast.tw3771696863486992418:Nat:=0
def PySem.W.Fast.tw13504427883359657789:Nat:=0
def PySem.W.Fast.tw3091186149685799705:Nat:=0
def PySem.W.Fast.tw7231791224944491763:Nat:=0
def PySem.W.Fast.tw13345417005135040255:Nat:=0
def PySem.W.Fast.tw10551650242935467000:Nat:=0
def PySem.W.Fast.tw1297805428800376226:Nat:=0
def PySem.W.Fast.tw8668429652052786992:Nat:=0
def PySem.W.Fast.tw14686002238625300462:Nat:=0
def PySem.W.Fast.tw13867288206295643615:Nat:=0
def PySem.W.Fast.tw5265848029594936091:Nat:=0
def PySem.W.Fast.tw16277311158245577070:Nat:=0
def PySem.W.Fast.tw7839188286577100323:Nat:=0
def PySem.W.Fast.tw4313744120095213555:Nat:=0
def PySem.W.Fast.tw10907308719964273203:Nat:=0
def PySem.W.Fast.tw13898876188361380936:Nat:=0
def PySem.W.Fast.tw6944218687723279540:Nat:=0
def PySem.W.Fast.tw14598194481109126890:Nat:=0
def PySem.W.Fast.tw13044399537429225974:Nat:=0
def PySem.W.Fast.tw2523872648482717961:Nat:=0
def PySem.W.Fast.tw5577512350782408174:Nat:=0
def PySem.W.Fast.tw11859522735607271366:Nat:=0
def PySem.W.Fast.tw228311151898271459:Nat:=0
def PySem.W.Fast.tw15874740651748632410:Nat:=0
def PySem.W.Fast.tw2769545506346517936:Nat:=0
def PySem.W.Fast.tw16347406501523831101:Nat:=0
def PySem.W.Fast.tw8993024506238961073:Nat:=0
def PySem.W.Fast.tw3457772453849193650:Nat:=0
def PySem.W.Fast.tw1177020515130189471:Nat:=0
def PySem.W.Fast.tw13949939105299746477:Nat:=0
def PySem.W.Fast.tw16204085495016782653:Nat:=0
def PySem.W.Fast.tw10016870282874147806:Nat:=0
def PySem.W.Fast.tw6282117716711858808:Nat:=0
def PySem.W.Fast.tw16055215213060276221:Nat:=0
def PySem.W.Fast.tw16903527949693367850:Nat:=0
def PySem.W.Fast.tw12003959376595332410:Nat:=0
def PySem.W.Fast.tw4582477321929074030:Nat:=0
def PySem.W.Fast.tw8440839072127568557:Nat:=0
def PySem.W.Fast.tw5944421054837548526:Nat:=0
def PySem.W.Fast.tw6051011936378972352:Nat:=0
def PySem.W.Fast.tw6953581216598467981:Nat:=0
def PySem.W.Fast.tw11888512036949299347:Nat:=0
def PySem.W.Fast.tw18275892123698713444:Nat:=0
def PySem.W.Fast.tw15710943021537926515:Nat:=0
def PySem.W.Fast.tw17124239551460013507:Nat:=0
def PySem.W.Fast.tw5127834040971242509:Nat:=0
def PySem.W.Fast.tw5906448360156331345:Nat:=0
def PySem.W.Fast.tw17187766178549530649:Nat:=0
def PySem.W.Fast.tw8390700894301195424:Nat:=0
def PySem.W.Fast.tw12663877286399961944:Nat:=0
def PySem.W.Fast.tw8353533475870419161:Nat:=0
def PySem.W.Fast.tw4696956773082382330:Nat:=0
def PySem.W.Fast.tw4869505140668626716:Nat:=0
def PySem.W.Fast.tw1173441945626895421:Nat:=0
def PySem.W.Fast.tw6764282225301552288:Nat:=0
def PySem.W.Fast.tw18183374955018426069:Nat:=0
def PySem.W.Fast.tw13667057358325090005:Nat:=0
def PySem.W.Fast.tw3157478138404398005:Nat:=0
def PySem.W.Fast.tw3249417222455011129:Nat:=0
def PySem.W.Fast.tw3507462969463317885:Nat:=0
def PySem.W.Fast.tw12020735699714821097:Nat:=0
def PySem.W.Fast.tw12093700403486114258:Nat:=0
def PySem.W.Fast.tw16313843696232950687:Nat:=0
def PySem.W.Fast.tw18113052337909706311:Nat:=0
def PySem.W.Fast.tw15216373477816288573:Nat:=0
def PySem.W.Fast.tw3857265937632899764:Nat:=0
def PySem.W.Fast.tw3845810060128705965:Nat:=0
def PySem.W.Fast.tw18352760584399940529:Nat:=0
def PySem.W.Fast.tw10552278685273649714:Nat:=0
def PySem.W.Fast.tw6926607182605754505:Nat:=0
def PySem.W.Fast.tw10161224746896818606:Nat:=0
def PySem.W.Fast.tw2367706746913691463:Nat:=0
def PySem.W.Fast.tw8477507449830521759:Nat:=0
def PySem.W.Fast.tw1223074995497425646:Nat:=0
def PySem.W.Fast.tw18093666051442325284:Nat:=0
def PySem.W.Fast.tw16930630936693228795:Nat:=0
def PySem.W.Fast.tw12811209165839133655:Nat:=0
def PySem.W.Fast.tw13081397298031601542:Nat:=0
def PySem.W.Fast.tw16855086661179065584:Nat:=0
def PySem.W.Fast.tw17242274326596872289:Nat:=0
def PySem.W.Fast.tw15967289390557456341:Nat:=0
def PySem.W.Fast.tw9080436316367639439:Nat:=0
def PySem.W.Fast.tw10700764196582578682:Nat:=0
def PySem.W.Fast.tw7565606796430987357:Nat:=0
def PySem.W.Fast.tw3076248503241573921:Nat:=0
def PySem.W.Fast.tw3182856159769999203:Nat:=0
def PySem.W.Fast.tw314137615909313590:Nat:=0
def PySem.W.Fast.tw8536176158409920516:Nat:=0
def PySem.W.Fast.tw6014020165481769018:Nat:=0
def PySem.W.Fast.tw8371438597147281516:Nat:=0
def PySem.W.Fast.tw11997372444694596142:Nat:=0
def PySem.W.Fast.tw1051931092007309100:Nat:=0
def PySem.W.Fast.tw14211771562048022543:Nat:=0
def PySem.W.Fast.tw16084460631050004475:Nat:=0
def PySem.W.Fast.tw1681405766326718590:Nat:=0
def PySem.W.Fast.tw9822837882234201943:Nat:=0
def PySem.W.Fast.tw3832782276069281227:Nat:=0
def PySem.W.Fast.tw14264796451325934130:Nat:=0
def PySem.W.Fast.tw1721585738301738298:Nat:=0
def PySem.W.Fast.tw9365701542119252185:Nat:=0
def PySem.W.Fast.tw6937669670585649827:Nat:=0
def PySem.W.Fast.tw8906641426894043816:Nat:=0
def PySem.W.Fast.tw17081518069689605523:Nat:=0
def PySem.W.Fast.tw11391958161666469846:Nat:=0
def PySem.W.Fast.tw13649993727002168947:Nat:=0
def PySem.W.Fast.tw4264256395993958181:Nat:=0
def PySem.W.Fast.tw2451984729689317633:Nat:=0
def PySem.W.Fast.tw13161930180448453805:Nat:=0
def PySem.W.Fast.tw5643892170854703593:Nat:=0
def PySem.W.Fast.tw11901916285306444428:Nat:=0
def PySem.W.Fast.tw8857138449692231096:Nat:=0
def PySem.W.Fast.tw14266952722945535926:Nat:=0
def PySem.W.Fast.tw17304821608292718690:Nat:=0
def PySem.W.Fast.tw9549995834573369410:Nat:=0
def PySem.W.Fast.tw16612192972000825609:Nat:=0
def PySem.W.Fast.tw6184305436630277013:Nat:=0
def PySem.W.Fast.tw6469158734968254521:Nat:=0
def PySem.W.Fast.tw15838627374298150890:Nat:=0
def PySem.W.Fast.tw4999276447900786782:Nat:=0
def PySem.W.Fast.tw12065180855655847202:Nat:=0
def PySem.W.Fast.tw1603000922475650394:Nat:=0
def PySem.W.Fast.tw4230040838270160247:Nat:=0
def PySem.W.Fast.tw5128724769531263738:Nat:=0
def PySem.W.Fast.tw16387681498132382665:Nat:=0
def PySem.W.Fast.tw16047529850765578056:Nat:=0
def PySem.W.Fast.tw14040089291021338615:Nat:=0
def PySem.W.Fast.tw18121815853453513659:Nat:=0
def PySem.W.Fast.tw11186120369663672483:Nat:=0
def PySem.W.Fast.tw4668828286230197111:Nat:=0
def PySem.W.Fast.tw7536963941291934819:Nat:=0
def PySem.W.Fast.tw10890526861477516698:Nat:=0
def PySem.W.Fast.tw3530429582452100070:Nat:=0
def PySem.W.Fast.tw12147843977435768300:Nat:=0
def PySem.W.Fast.tw2288223926870685040:Nat:=0
def PySem.W.Fast.tw1703368154167344700:Nat:=0
def PySem.W.Fast.tw11440849458915575873:Nat:=0
def PySem.W.Fast.tw4914126021597830904:Nat:=0
def PySem.W.Fast.tw14035333327283108436:Nat:=0
def PySem.W.Fast.tw190929366135281010:Nat:=0
def PySem.W.Fast.tw8492795759430478570:Nat:=0
def PySem.W.Fast.tw6966697285037780323:Nat:=0
def PySem.W.Fast.tw7612999789417751194:Nat:=0
def PySem.W.Fast.tw11545414075362515714:Nat:=0
def PySem.W.Fast.tw460689287391302:Nat:=0
def PySem.W.Fast.tw2797121776367254992:Nat:=0
def PySem.W.Fast.tw1377535305320570654:Nat:=0
def PySem.W.Fast.tw16255770969246136232:Nat:=0
def PySem.W.Fast.tw6313368017379464047:Nat:=0
def PySem.W.Fast.tw8423845629806335020:Nat:=0
def PySem.W.Fast.tw12847519817725496488:Nat:=0
def PySem.W.Fast.tw2860614698748279044:Nat:=0
def PySem.W.Fast.tw15295892859170857326:Nat:=0
def PySem.W.Fast.tw3847789073357048272:Nat:=0
def PySem.W.Fast.tw8283755332821587720:Nat:=0
def PySem.W.Fast.tw9241997498693698943:Nat:=0
def PySem.W.Fast.tw17189065770310440372:Nat:=0
def PySem.W.Fast.tw17610373563863640109:Nat:=0
def PySem.W.Fast.tw1809039792576389925:Nat:=0
def PySem.W.Fast.tw12137110068781721582:Nat:=0
def PySem.W.Fast.tw6871152906018259485:Nat:=0
def PySem.W.Fast.tw11125768667801047272:Nat:=0
def PySem.W.Fast.tw16524276164327098637:Nat:=0
def PySem.W.Fast.tw11182166238931376421:Nat:=0
def PySem.W.Fast.tw7943717367969994458:Nat:=0
def PySem.W.Fast.tw4653646183742460975:Nat:=0
def PySem.W.Fast.tw765062824717549786:Nat:=0
def PySem.W.Fast.tw8508295690005370356:Nat:=0
def PySem.W.Fast.tw869456028564969233:Nat:=0
def PySem.W.Fast.tw5491945140346353277:Nat:=0
def PySem.W.Fast.tw6009015962578179069:Nat:=0
def PySem.W.Fast.tw13951322572324530588:Nat:=0
def PySem.W.Fast.tw14118397173027706842:Nat:=0
def PySem.W.Fast.tw3576017192544706326:Nat:=0
def PySem.W.Fast.tw85600627191028998:Nat:=0
def PySem.W.Fast.tw17059890786224557811:Nat:=0
def PySem.W.Fast.tw13629321419580900018:Nat:=0
def PySem.W.Fast.tw18430497499501848875:Nat:=0
def PySem.W.Fast.tw16969766705415722266:Nat:=0
def PySem.W.Fast.tw7885909054711948675:Nat:=0
def PySem.W.Fast.tw4722702081027669229:Nat:=0
def PySem.W.Fast.tw669281920297804803:Nat:=0
def PySem.W.Fast.tw11309915936991380651:Nat:=0
def PySem.W.Fast.tw18069800627133122351:Nat:=0
def PySem.W.Fast.tw4259539965422538548:Nat:=0
def PySem.W.Fast.tw15009910369226103362:Nat:=0
def PySem.W.Fast.tw16101703970511852072:Nat:=0
def PySem.W.Fast.tw7111134368684695897:Nat:=0
def PySem.W.Fast.tw6651382961382786762:Nat:=0
def PySem.W.Fast.tw11447122518643293580:Nat:=0
def PySem.W.Fast.tw9276276984316662135:Nat:=0
def PySem.W.Fast.tw6355047501179635315:Nat:=0
def PySem.W.Fast.tw6160031379352336716:Nat:=0
def PySem.W.Fast.tw18216673502395013568:Nat:=0
def PySem.W.Fast.tw17068272191837981720:Nat:=0
def PySem.W.Fast.tw2538389132565055321:Nat:=0
def PySem.W.Fast.tw10608714388600142792:Nat:=0
def PySem.W.Fast.tw2819679891323632617:Nat:=0
def PySem.W.Fast.tw15296858276004252904:Nat:=0
def PySem.W.Fast.tw12294353696905728963:Nat:=0
def PySem.W.Fast.tw7889971130874235712:Nat:=0
def PySem.W.Fast.tw11054439841618021775:Nat:=0
def PySem.W.Fast.tw4219934383123591452:Nat:=0
def PySem.W.Fast.tw1946240402957002974:Nat:=0
def PySem.W.Fast.tw10316353360312684027:Nat:=0
def PySem.W.Fast.tw9362556815429232716:Nat:=0
def PySem.W.Fast.tw9781509662210458820:Nat:=0
def PySem.W.Fast.tw7876439755190473828:Nat:=0
def PySem.W.Fast.tw10254406123687709544:Nat:=0
def PySem.W.Fast.tw14787648207884818080:Nat:=0
def PySem.W.Fast.tw5319009832975173198:Nat:=0
def PySem.W.Fast.tw5065634794954436428:Nat:=0
def PySem.W.Fast.tw14585094856090239437:Nat:=0
def PySem.W.Fast.tw18175711047217870869:Nat:=0
def PySem.W.Fast.tw17606627467219488781:Nat:=0
def PySem.W.Fast.tw10727823072579730545:Nat:=0
def PySem.W.Fast.tw12080550536105514869:Nat:=0
def PySem.W.Fast.tw2884143789418446638:Nat:=0
def PySem.W.Fast.tw1941930352495157136:Nat:=0
def PySem.W.Fast.tw7206276256327355637:Nat:=0
def PySem.W.Fast.tw8152761102529414139:Nat:=0
def PySem.W.Fast.tw1651321716478441935:Nat:=0
def PySem.W.Fast.tw17523084634693433222:Nat:=0
def PySem.W.Fast.tw8476011885696989638:Nat:=0
def PySem.W.Fast.tw12639931866228090637:Nat:=0
def PySem.W.Fast.tw14578053199595003771:Nat:=0
def PySem.W.Fast.tw238589350732982943:Nat:=0
def PySem.W.Fast.tw14654934548857055607:Nat:=0
def PySem.W.Fast.tw1103109036078445155:Nat:=0
def PySem.W.Fast.tw6971985970302203791:Nat:=0
def PySem.W.Fast.tw3384652570457477102:Nat:=0
def PySem.W.Fast.tw15821587436470032193:Nat:=0
def PySem.W.Fast.tw17211691636249123336:Nat:=0
namespace Rim
open PySem L2 Fr
theorem walk {l:rA} {q:aL} {loose:List Str} {XP:(Str->Option aC)->aG->Prop} {YP:aI->aG->Prop} {d:DefRec} {K:iL->aE} {Ct Pt:aA} (hn:l.most=some 63) (hdf:d.params.defaults=[])
  (hY:∀ (w:aI) (h:aG),YP w h->(K w.params).In h/\∀ t∈[(Ct,Pt)],h.get? t.2=some (kL #[]))
  (hC:∀ (w:aI),∀ t∈[(Ct,Pt)],vQ (K w.params) t.1 t.2=true/\(K w.params).lookup t.2=none)
  (F:∀ (w:aI) (mg:Str->Option aC) (fa:aA) (h:aG),(K w.params).In h->h.Ns mainGlobals mg->mg d.name=some (.ref fa) →
   ∃ fd:aJ,(∀ (s:aD) (u:aC),iJ s fd ⟨[u],[]⟩ [("script",u)])/\∀ base:aG,(K w.params).In base->base.Ns mainGlobals mg->V9 mg base->(∀ t∈[(Ct,Pt)],kK base t.1 t.2)->FnOk l.prog w (K w.params) mg base E1 13 fa fd ["script"] (a6F (K w.params) Pt)) :
  W.WalkO q loose XP YP l.row.toRowW d [] (λ f vs=>pT f vs) :=
 L2.walk_ofT (n:=63) (k:=13) (x:="script") (Ts:=[(Ct,Pt)]) (CX:=λ _=>E1) (sp:=λ w=>a6F (K w.params) Pt) hn (by decide) hdf ⟨rfl,by decide,by decide⟩ hY hC F (λ _ _ a ns hl hT hS=>⟨a,ns,rfl,hS,hl,.inl (hT _ (.head _)),λ _=>rfl⟩) λ _ _ _ _ _ z=>z
end Rim
open PySem PySem.W PyProof.Rows
set_option maxRecDepth 100000 in
set_option maxHeartbeats 0 in
theorem PySem.Challenge.cw_rimhouse_k37_numbers_of_none_at_all_door_holds : PySem.Challenge.rw_rimhouse_k37_numbers_of_none_at_all_door.Holds := by
  w_on; o_law; km_head; (case hw=>w_witness2)
  k_fill
  refine' Rim.walk (l:=PySem.Challenge.rw_rimhouse_k37_numbers_of_none_at_all_door) (Ct:=_) (Pt:=239) rfl rfl ?Y ?C ?F
  case Y=>exact λ w h Y=>⟨W.km_in_of Y,λ t ht=>by rw [cX.mp ht]; exact W.km_tabs_of Y _ (.head _)⟩
  case F =>
    intro w mg fa h KX G hmg;refine' Rim.all_mk KX G hmg ?aK ?aB ?a1 ?l1 ?n1 ?a2 ?l2 ?a3 ?l3 ?a4 ?l4 ?a5 ?l5 ?a6 ?l6 ?a7 ?l7 ?n7 ?a8 ?l8 ?n8 ?a9 ?l9 ?n9 ?a10 ?l10 ?n10 ?a11 ?l11 ?a12 ?l12 ?n12 ?a13 ?l13 ?n13 ?a14 ?l14 ?n14 ?a15 ?l15 ?a16 ?l16 ?a17 ?l17 ?a18 ?l18 ?a19 ?l19 ?a20 ?l20 ?a21 ?l21 ?a22 ?l22 ?n22 ?a23 ?l23 ?a24 ?l24 ?a25 ?l25 ?a26 ?l26 ?a27 ?l27 ?a28 ?l28 ?a29 ?l29 ?n29 ?a30 ?l30 ?n30 ?a31 ?l31 ?a32 ?l32 ?a33 ?l33 ?a34 ?l34 ?a35 ?l35 ?a36 ?l36 ?a37 ?l37 ?a38 ?l38 ?a39 ?l39 ?a40 ?l40 ?a41 ?l41 ?a42 ?l42 ?a43 ?l43 ?a44 ?l44 ?n44 ?a45 ?l45 ?a46 ?l46 ?n46 ?a47 ?l47 ?a48 ?l48 ?a49 ?l49 ?a50 ?l50 ?a51 ?l51 ?a52 ?l52 ?a53 ?l53 ?a54 ?l54 ?c54 ?k54 ?z1 ?z2 ?z3 ?z4 ?z5 ?z6 ?z7 ?z8 ?z9 ?z10 ?z11 ?z12 ?z13 ?z14 ?z15 ?z16 ?z17 ?bp ?bh ?bo ?bs ?b_many ?b_scale ?b_cells ?b_outs ?b_ins ?bm ?bk ?kp ?kh ?ko ?ks ?k_many_takes ?k_many_gives ?k_sizes ?k_there ?k_worth ?k_past ?km ?kk ?s1 ?s3 ?s4 ?sa0 ?sb0 ?sa1 ?sb1 ?sa2 ?sb2 ?sa3 ?sb3 ?xmNoHouse ?xoNoHouse ?xgaNoHouse ?xgnNoHouse ?xcaNoHouse ?xmoNoHouse ?xmbNoHouse ?xmNoBook ?xoNoBook ?xgaNoBook ?xgnNoBook ?xcaNoBook ?xmoNoBook ?xmbNoBook ?xmRimError ?xoRimError ?xgaRimError ?xgnRimError ?xcaRimError ?xmoRimError ?xmbRimError ?xmNoRow ?xoNoRow ?xgaNoRow ?xgnNoRow ?xcaNoRow ?xmoNoRow ?xmbNoRow ?xmNoText ?xoNoText ?xgaNoText ?xgnNoText ?xcaNoText ?xmoNoText ?xmbNoText ?xmTooMany ?xoTooMany ?xgaTooMany ?xgnTooMany ?xcaTooMany ?xmoTooMany ?xmbTooMany ?xmNothingLeft ?xoNothingLeft ?xgaNothingLeft ?xgnNothingLeft ?xcaNothingLeft ?xmoNothingLeft ?xmbNothingLeft ?cmMOST_AMOUNT ?cmMOST_HOUSES ?cmNOUGHT ?clNOUGHT ?eSub_NoHouse ?eI_NoHouse_NoBook ?eI_NoHouse_NoRow ?eI_NoHouse_NoText ?eI_NoHouse_TooMany ?eI_NoHouse_NothingLeft ?eIV_NoHouse ?eSub_NoBook ?eI_NoBook_NoHouse ?eI_NoBook_NoRow ?eI_NoBook_NoText ?eI_NoBook_TooMany ?eI_NoBook_NothingLeft ?eIV_NoBook ?eSub_TooMany ?eI_TooMany_NoBook ?eI_TooMany_NoHouse ?eI_TooMany_NoRow ?eI_TooMany_NoText ?eI_TooMany_NothingLeft ?eIV_TooMany
    (case aK=>k_is)
    (case aB=>k_is)
    (case a1=>k_is)
    (case l1=>(refine' L2.fun_in ?l ?c ?k; (case l=>k_is); (case c=>k_is); (case k=>k_is)))
    (case n1=>k_is)
    (case a2=>k_is)
    (case l2=>(refine' L2.fun_in ?l ?c ?k; (case l=>k_is); (case c=>k_is); (case k=>k_is)))
    (case a3=>k_is)
    (case l3=>(refine' L2.fun_in ?l ?c ?k; (case l=>k_is); (case c=>k_is); (case k=>k_is)))
    (case a4=>k_is)
    (case l4=>(refine' L2.fun_in ?l ?c ?k; (case l=>k_is); (case c=>k_is); (case k=>k_is)))
    (case a5=>k_is)
    (case l5=>(refine' L2.fun_in ?l ?c ?k; (case l=>k_is); (case c=>k_is); (case k=>k_is)))
    (case a6=>k_is)
    (case l6=>(refine' L2.fun_in ?l ?c ?k; (case l=>k_is); (case c=>k_is); (case k=>k_is)))
    (case a7=>k_is)
    (case l7=>(refine' L2.fun_in ?l ?c ?k; (case l=>k_is); (case c=>k_is); (case k=>k_is)))
    (case n7=>k_is)
    (case a8=>k_is)
    (case l8=>(refine' L2.fun_in ?l ?c ?k; (case l=>k_is); (case c=>k_is); (case k=>k_is)))
    (case n8=>k_is)
    (case a9=>k_is)
    (case l9=>(refine' L2.fun_in ?l ?c ?k; (case l=>k_is); (case c=>k_is); (case k=>k_is)))
    (case n9=>k_is)
    (case a10=>k_is)
    (case l10=>(refine' L2.fun_in ?l ?c ?k; (case l=>k_is); (case c=>k_is); (case k=>k_is)))
    (case n10=>k_is)
    (case a11=>k_is)
    (case l11=>(refine' L2.fun_in ?l ?c ?k; (case l=>k_is); (case c=>k_is); (case k=>k_is)))
    (case a12=>k_is)
    (case l12=>(refine' L2.fun_in ?l ?c ?k; (case l=>k_is); (case c=>k_is); (case k=>k_is)))
    (case n12=>k_is)
    (case a13=>k_is)
    (case l13=>(refine' L2.fun_in ?l ?c ?k; (case l=>k_is); (case c=>k_is); (case k=>k_is)))
    (case n13=>k_is)
    (case a14=>k_is)
    (case l14=>(refine' L2.fun_in ?l ?c ?k; (case l=>k_is); (case c=>k_is); (case k=>k_is)))
    (case n14=>k_is)
    (case a15=>k_is)
    (case l15=>(refine' L2.fun_in ?l ?c ?k; (case l=>k_is); (case c=>k_is); (case k=>k_is)))
    (case a16=>k_is)
    (case l16=>(refine' L2.fun_in ?l ?c ?k; (case l=>k_is); (case c=>k_is); (case k=>k_is)))
    (case a17=>k_is)
    (case l17=>(refine' L2.fun_in ?l ?c ?k; (case l=>k_is); (case c=>k_is); (case k=>k_is)))
    (case a18=>k_is)
    (case l18=>(refine' L2.fun_in ?l ?c ?k; (case l=>k_is); (case c=>k_is); (case k=>k_is)))
    (case a19=>k_is)
    (case l19=>(refine' L2.fun_in ?l ?c ?k; (case l=>k_is); (case c=>k_is); (case k=>k_is)))
    (case a20=>k_is)
    (case l20=>(refine' L2.fun_in ?l ?c ?k; (case l=>k_is); (case c=>k_is); (case k=>k_is)))
    (case a21=>k_is)
    (case l21=>(refine' L2.fun_in ?l ?c ?k; (case l=>k_is); (case c=>k_is); (case k=>k_is)))
    (case a22=>k_is)
    (case l22=>(refine' L2.fun_in ?l ?c ?k; (case l=>k_is); (case c=>k_is); (case k=>k_is)))
    (case n22=>k_is)
    (case a23=>k_is)
    (case l23=>(refine' L2.fun_in ?l ?c ?k; (case l=>k_is); (case c=>k_is); (case k=>k_is)))
    (case a24=>k_is)
    (case l24=>(refine' L2.fun_in ?l ?c ?k; (case l=>k_is); (case c=>k_is); (case k=>k_is)))
    (case a25=>k_is)
    (case l25=>(refine' L2.fun_in ?l ?c ?k; (case l=>k_is); (case c=>k_is); (case k=>k_is)))
    (case a26=>k_is)
    (case l26=>(refine' L2.fun_in ?l ?c ?k; (case l=>k_is); (case c=>k_is); (case k=>k_is)))
    (case a27=>k_is)
    (case l27=>(refine' L2.fun_in ?l ?c ?k; (case l=>k_is); (case c=>k_is); (case k=>k_is)))
    (case a28=>k_is)
    (case l28=>(refine' L2.fun_in ?l ?c ?k; (case l=>k_is); (case c=>k_is); (case k=>k_is)))
    (case a29=>k_is)
    (case l29=>(refine' L2.fun_in ?l ?c ?k; (case l=>k_is); (case c=>k_is); (case k=>k_is)))
    (case n29=>k_is)
    (case a30=>k_is)
    (case l30=>(refine' L2.fun_in ?l ?c ?k; (case l=>k_is); (case c=>k_is); (case k=>k_is)))
    (case n30=>k_is)
    (case a31=>k_is)
    (case l31=>(refine' L2.fun_in ?l ?c ?k; (case l=>k_is); (case c=>k_is); (case k=>k_is)))
    (case a32=>k_is)
    (case l32=>(refine' L2.fun_in ?l ?c ?k; (case l=>k_is); (case c=>k_is); (case k=>k_is)))
    (case a33=>k_is)
    (case l33=>(refine' L2.fun_in ?l ?c ?k; (case l=>k_is); (case c=>k_is); (case k=>k_is)))
    (case a34=>k_is)
    (case l34=>(refine' L2.fun_in ?l ?c ?k; (case l=>k_is); (case c=>k_is); (case k=>k_is)))
    (case a35=>k_is)
    (case l35=>(refine' L2.fun_in ?l ?c ?k; (case l=>k_is); (case c=>k_is); (case k=>k_is)))
    (case a36=>k_is)
    (case l36=>(refine' L2.fun_in ?l ?c ?k; (case l=>k_is); (case c=>k_is); (case k=>k_is)))
    (case a37=>k_is)
    (case l37=>(refine' L2.fun_in ?l ?c ?k; (case l=>k_is); (case c=>k_is); (case k=>k_is)))
    (case a38=>k_is)
    (case l38=>(refine' L2.fun_in ?l ?c ?k; (case l=>k_is); (case c=>k_is); (case k=>k_is)))
    (case a39=>k_is)
    (case l39=>(refine' L2.fun_in ?l ?c ?k; (case l=>k_is); (case c=>k_is); (case k=>k_is)))
    (case a40=>k_is)
    (case l40=>(refine' L2.fun_in ?l ?c ?k; (case l=>k_is); (case c=>k_is); (case k=>k_is)))
    (case a41=>k_is)
    (case l41=>(refine' L2.fun_in ?l ?c ?k; (case l=>k_is); (case c=>k_is); (case k=>k_is)))
    (case a42=>k_is)
    (case l42=>(refine' L2.fun_in ?l ?c ?k; (case l=>k_is); (case c=>k_is); (case k=>k_is)))
    (case a43=>k_is)
    (case l43=>(refine' L2.fun_in ?l ?c ?k; (case l=>k_is); (case c=>k_is); (case k=>k_is)))
    (case a44=>k_is)
    (case l44=>(refine' L2.fun_in ?l ?c ?k; (case l=>k_is); (case c=>k_is); (case k=>k_is)))
    (case n44=>k_is)
    (case a45=>k_is)
    (case l45=>(refine' L2.fun_in ?l ?c ?k; (case l=>k_is); (case c=>k_is); (case k=>k_is)))
    (case a46=>k_is)
    (case l46=>(refine' L2.fun_in ?l ?c ?k; (case l=>k_is); (case c=>k_is); (case k=>k_is)))
    (case n46=>k_is)
    (case a47=>k_is)
    (case l47=>(refine' L2.fun_in ?l ?c ?k; (case l=>k_is); (case c=>k_is); (case k=>k_is)))
    (case a48=>k_is)
    (case l48=>(refine' L2.fun_in ?l ?c ?k; (case l=>k_is); (case c=>k_is); (case k=>k_is)))
    (case a49=>k_is)
    (case l49=>(refine' L2.fun_in ?l ?c ?k; (case l=>k_is); (case c=>k_is); (case k=>k_is)))
    (case a50=>k_is)
    (case l50=>(refine' L2.fun_in ?l ?c ?k; (case l=>k_is); (case c=>k_is); (case k=>k_is)))
    (case a51=>k_is)
    (case l51=>(refine' L2.fun_in ?l ?c ?k; (case l=>k_is); (case c=>k_is); (case k=>k_is)))
    (case a52=>k_is)
    (case l52=>(refine' L2.fun_in ?l ?c ?k; (case l=>k_is); (case c=>k_is); (case k=>k_is)))
    (case a53=>k_is)
    (case l53=>(refine' L2.fun_in ?l ?c ?k; (case l=>k_is); (case c=>k_is); (case k=>k_is)))
    (case a54=>k_is)
    (case l54=>k_is)
    (case c54=>k_is)
    (case k54=>k_is)
    (case z1=>k_is)
    (case z2=>k_is)
    (case z3=>k_is)
    (case z4=>k_is)
    (case z5=>k_is)
    (case z6=>k_is)
    (case z7=>k_is)
    (case z8=>k_is)
    (case z9=>k_is)
    (case z10=>k_is)
    (case z11=>k_is)
    (case z12=>k_is)
    (case z13=>k_is)
    (case z14=>k_is)
    (case z15=>k_is)
    (case z16=>k_is)
    (case z17=>k_is)
    (case bp=>k_is)
    (case bh=>k_is)
    (case bo=>k_is)
    (case bs=>k_is)
    (case b_many=>k_is)
    (case b_scale=>k_is)
    (case b_cells=>k_is)
    (case b_outs=>k_is)
    (case b_ins=>k_is)
    (case bm=>k_is)
    (case bk=>k_is)
    (case kp=>k_is)
    (case kh=>k_is)
    (case ko=>k_is)
    (case ks=>k_is)
    (case k_many_takes=>k_is)
    (case k_many_gives=>k_is)
    (case k_sizes=>k_is)
    (case k_there=>k_is)
    (case k_worth=>k_is)
    (case k_past=>k_is)
    (case km=>k_is)
    (case kk=>k_is)
    (case s1=>k_is)
    (case s3=>k_is)
    (case s4=>k_keys)
    (case sa0=>k_is)
    (case sb0=>k_is)
    (case sa1=>k_is)
    (case sb1=>k_is)
    (case sa2=>k_is)
    (case sb2=>k_is)
    (case sa3=>k_is)
    (case sb3=>k_is)
    (case xmNoHouse=>k_is)
    (case xoNoHouse=>k_exc)
    (case xgaNoHouse=>k_is)
    (case xgnNoHouse=>k_is)
    (case xcaNoHouse=>k_is)
    (case xmoNoHouse=>k_is)
    (case xmbNoHouse=>k_is)
    (case xmNoBook=>k_is)
    (case xoNoBook=>k_exc)
    (case xgaNoBook=>k_is)
    (case xgnNoBook=>k_is)
    (case xcaNoBook=>k_is)
    (case xmoNoBook=>k_is)
    (case xmbNoBook=>k_is)
    (case xmRimError=>k_is)
    (case xoRimError=>k_exc)
    (case xgaRimError=>k_is)
    (case xgnRimError=>k_is)
    (case xcaRimError=>k_is)
    (case xmoRimError=>k_is)
    (case xmbRimError=>k_is)
    (case xmNoRow=>k_is)
    (case xoNoRow=>k_exc)
    (case xgaNoRow=>k_is)
    (case xgnNoRow=>k_is)
    (case xcaNoRow=>k_is)
    (case xmoNoRow=>k_is)
    (case xmbNoRow=>k_is)
    (case xmNoText=>k_is)
    (case xoNoText=>k_exc)
    (case xgaNoText=>k_is)
    (case xgnNoText=>k_is)
    (case xcaNoText=>k_is)
    (case xmoNoText=>k_is)
    (case xmbNoText=>k_is)
    (case xmTooMany=>k_is)
    (case xoTooMany=>k_exc)
    (case xgaTooMany=>k_is)
    (case xgnTooMany=>k_is)
    (case xcaTooMany=>k_is)
    (case xmoTooMany=>k_is)
    (case xmbTooMany=>k_is)
    (case xmNothingLeft=>k_is)
    (case xoNothingLeft=>k_exc)
    (case xgaNothingLeft=>k_is)
    (case xgnNothingLeft=>k_is)
    (case xcaNothingLeft=>k_is)
    (case xmoNothingLeft=>k_is)
    (case xmbNothingLeft=>k_is)
    (case cmMOST_AMOUNT=>k_is)
    (case cmMOST_HOUSES=>k_is)
    (case cmNOUGHT=>k_is)
    (case clNOUGHT=>k_is)
    (case eSub_NoHouse=>k_is)
    (case eI_NoHouse_NoBook=>kit_is)
    (case eI_NoHouse_NoRow=>kit_is)
    (case eI_NoHouse_NoText=>kit_is)
    (case eI_NoHouse_TooMany=>kit_is)
    (case eI_NoHouse_NothingLeft=>kit_is)
    (case eIV_NoHouse=>kit_is)
    (case eSub_NoBook=>k_is)
    (case eI_NoBook_NoHouse=>kit_is)
    (case eI_NoBook_NoRow=>kit_is)
    (case eI_NoBook_NoText=>kit_is)
    (case eI_NoBook_TooMany=>kit_is)
    (case eI_NoBook_NothingLeft=>kit_is)
    (case eIV_NoBook=>kit_is)
    (case eSub_TooMany=>k_is)
    (case eI_TooMany_NoBook=>kit_is)
    (case eI_TooMany_NoHouse=>kit_is)
    (case eI_TooMany_NoRow=>kit_is)
    (case eI_TooMany_NoText=>kit_is)
    (case eI_TooMany_NothingLeft=>kit_is)
    (case eIV_TooMany=>kit_is)
  case C=>exact λ w t ht=>by rw [cX.mp ht]; exact ⟨by kernel_rfl,by kernel_rfl⟩
