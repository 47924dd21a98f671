import PyProof.Rows.All
import Wide.All
import OpenK.AllK
import Wide.FinOn
import Lean
import PyProof.EqAt
import PyProof.EqKinds
import PyProof.TupleCall
import PyProof.NeData
import PyProof.ZipIter
import PyProof.EnumMake
import PyProof.EnumFor
import KE.KMinKey
import KE.KUnpack
import KE.KNestM
import KE.KLam
import PySem.Challenge.RW_rimhouse_k27_whole_merged_behind
set_option Elab.async false
set_option maxHeartbeats 16000000
set_option linter.all false
set_option maxRecDepth 100000
open Array renaming getElem?_eq_getElem->dP,getD_eq_getD_getElem?->eG,length_toList->eO,getElem?_eq_some_iff->iL,toList_push->jU,toList->jW,getD->mP
open Bool renaming false_ne_true->bK,and_eq_true->dX,eq_false_iff->fY,eq_iff_iff->gM,false_eq_true->kL
open Classical renaming byContradiction->fJ,propDecidable->lR
open Except renaming ok->jV
open False renaming elim->dB
open ForInStep renaming yield->gS
open Iff renaming rfl->hU
open Int renaming le_of_lt->aN,mul_comm->aR,toNat_natCast->aV,mul_assoc->aX,mul_zero->bJ,le_refl->bO,add_mul->cD,mul_nonneg->cK,emod_lt_of_pos->cX,mul_le_mul_of_nonneg_right->dA,mul_one->dD,add_zero->dH,mul_neg->dN,mul_pos->dR,zero_mul->dY,emod_nonneg->eM,mul_add->eU,neg_mul->eV,mul_le_mul_of_nonneg_left->eW,le_trans->eX,lt_of_le_of_lt->eY,le_of_dvd->fG,one_mul->fH,natAbs_mul->fR,mul_sub->fV,mul_eq_zero->fW,zero_add->fX,toNat_of_nonneg->gG,natAbs_neg->gH,eq_of_mul_eq_mul_right->gX,le_of_mul_le_mul_right->hW,toNat->iO,gcd->jE,dvd_mul_of_dvd_left->jF,mul_ediv_cancel_left->jG,mul_ediv_cancel'->jH,eq_ofNat_of_zero_le->jL,ofNat_dvd_left->jN,fdiv_eq_ediv_of_nonneg->jX,mul_dvd_mul_left->kU,natAbs_dvd_natAbs->kW,sub_mul->lD,mul_le_mul->lG,natAbs_add_le->lM,add_sub_cancel->lO,lt_of_lt_of_le->lP,lt_trans->lV,lt_or_le->lW
open List renaming length_map->aA,getElem?_eq_getElem->aD,getElem?_map->aE,getD_eq_getElem?_getD->aG,range->aH,replicate->aI,length_append->aJ,mem_map->aK,mem_cons->aL,map_cons->aQ,map_map->aS,mem_append->aT,mem_of_getElem?->aU,getElem?_eq_none->aW,getElem?_eq_some_iff->aY,zipWith->bB,sum_cons->bC,getElem?_append_left->bF,mem_singleton->bH,getElem?_range->bI,mem_cons_of_mem->bL,size_toArray->bM,map_append->bN,getElem?_set_ne->bS,getElem?_append_right->bU,not_mem_nil->bV,length_take->bX,length_set->bY,length_replicate->cA,ext_getElem?->cC,mem_append_right->cF,mem_cons_self->cJ,zipWith_cons_cons->cN,getElem?_set_self->cO,mem_append_left->cQ,getElem_mem->cS,length_cons->cV,length_range->cW,length_singleton->cY,map_congr_left->cZ,append_assoc->dE,cons_append->dG,getElem?_replicate->dI,length_drop->dL,lookup_cons->dM,length_nil->dO,mem_range->dZ,getElem?_of_mem->eE,map_nil->eI,replicate_succ->eJ,length_zipWith->eK,mem_filterMap->eP,lookup->eQ,length->fD,nil_append->fE,take_of_length_le->fF,range_succ->fK,mem_of_mem_drop->fL,filterMap_cons->fN,set_comm->fO,filter_append->fT,map_take->fZ,take_left'->gA,flatten_cons->gD,eq_nil_of_length_eq_zero->gJ,mem_of_mem_take->gK,mem_filter->gL,nodup_cons->gN,forIn_cons->gR,getElem_of_mem->gU,length_filter_le->gY,drop_zero->gZ,mem_or_eq_of_mem_set->hV,getElem?_zipWith->hZ,map_drop->iE,mem_replicate->iF,dropLast_concat_getLast->iI,map->iJ,getElem?_toArray->iM,toList_toArray->iN,getElem?_eq_none_iff->iP,append_nil->iS,of_mem_zip->iT,any_cons->iU,foldl->iV,all_eq_true->iX,forIn_nil->iY,length_pos_iff->iZ,take_succ->jA,map_set->jI,map_id->jO,drop_left'->jP,filterMap_append->jQ,exists_mem_of_ne_nil->jR,take_left->jS,sum_nil->jT,getElem?_take_of_lt->jZ,all_cons->kJ,take_succ_eq_append_getElem->kQ,zipIdx_cons->kR,zipIdx_nil->kS,range_succ_eq_map->kX,take_append_drop->kY,getElem?_drop->kZ,set_set->lC,mem_set->lK,drop_left->lX,filter_filter->lY,length_eraseIdx->mK,ext_getElem->mO,filter_cons->mQ
open List.Pairwise renaming nil->kP
open List.Perm renaming append_left->nZ
open Nat renaming le_refl->aF,lt_of_lt_of_le->aZ,le_trans->bA,ne_of_lt->bD,lt_irrefl->bR,zero_le->bW,le_of_lt->cP,ne_of_gt->cU,lt_succ_of_lt->dQ,sub_self->eD,lt_succ_self->eH,add_sub_cancel_left->eN,lt_of_le_of_lt->eR,le_succ->fB,min_le_left->fM,le_add_right->fQ,min_eq_left->fU,succ_mul->gO,mul_comm->gP,le_of_not_lt->gQ,not_lt_zero->gW,pow_le_pow_right->hX,pow_lt_pow_right->iG,mul_le_mul_right->iH,le_of_eq->iR,log2_lt->jB,succ_ne_self->jD,pow_pos->jK,lcm->jM,lt_of_succ_le->kO,lt_trichotomy->lE,pow_succ->lF,le_antisymm->lH,pow_add->lL,add_assoc->lN,lt_trans->lQ,max_le->lZ,le_of_succ_le->mG,mod_lt->mJ
open Ne renaming symm->aO
open Option renaming map_some->dW,getD_some->iD,getD_none->kH,none->kK,map->mD
open Option.some renaming inj->aM
open Or renaming inl->aC,inr->cI
open Prod renaming fst->lT,snd->lU
open PyProof.Rows renaming envOfC->dU,boot_list->eL,callWith_type1->fP,boot_min->gE,boot_tuple->gF,boot_sum->iK,boot_max->jJ,callWith_builtin1->kA,boot_range->lI,boot_int->lJ,callWith_kw->nX,boot_sorted->oA,boot_set->oB
open PyProof.Rows.Boot renaming abs->nY
open PyProof.Rows.F renaming entry_set_update_loop->mI
open PySem renaming boot_len->bQ,Paired->bZ,mem_of_lookup->gB,Within->iQ,call->iW,Fin->jC,passOn->lS
open PySem.EqMixed renaming eq_bool_str->mY,eq_int_str->nA,eq_str_bool->nD,eq_str_int->nE,ne_bool_str->nL,ne_int_str->nQ,ne_str_bool->nT,ne_str_int->nU
open PySem.EqNone renaming eq_none_none->mS,eq_none_bool->mU,eq_none_int->mV,eq_none_str->mW,eq_bool_none->mX,eq_int_none->mZ,eq_str_none->nB,ne_none_none->nF,ne_none_bool->nG,ne_none_int->nH,ne_none_str->nJ,ne_bool_none->nK,ne_int_none->nN,ne_str_none->nR
open PySem.F renaming plainAttrs_list->iA,slot_list_append->iB,type_list_append->iC,slot_tuple_add->kB,entry_tuple_add->kD,args_tuple_add_2->kF
open PySem.IsL renaming update->nW
open PySem.Within renaming cons->nV
open Sum renaming inl->eZ,inr->fA
open True renaming intro->jY
namespace L2
open PySem PySem.Spec PyProof.Rows
abbrev Key:=Sum Int Str
def b2t:Key->Value->Bool
 | .inl k,v=>Value.isInt k v
 | .inr x,v=>Value.isStrOf x v
def b5H (w:World):Key->Int
 | .inl k=>hashInt k
 | .inr x=>hashStr w x
theorem C4:∀ {k:Key} {v:Value},b2t k v=true->(∃ i t,k=eZ i/\v=Value.int i t)\/(∃ x t,k=fA x/\v=Value.str x t)
 | .inl i,v,h=>by
  obtain ⟨t,e⟩:=Value.isInt_shape (k:=i) (v:=v) h;exact .inl ⟨i,t,rfl,e⟩
 | .inr x,v,h=>by
  obtain ⟨t,e⟩:=Value.isStrOf_shape (x:=x) (v:=v) h;exact .inr ⟨x,t,rfl,e⟩
theorem b3t (a b:Int):decide ((eZ a:Key)=eZ b)=(a==b):=by
 by_cases e:a=b
 ·subst e; simp
 ·have h:¬ (eZ a:Key)=eZ b:=λ q=>e (Sum.inl.inj q)
  rw [decide_eq_false h];exact (beq_eq_false_iff_ne.mpr e).symm
theorem b2F (a b:Str):decide ((fA a:Key)=fA b)=decide (a=b):=by
 by_cases e:a=b
 ·subst e; simp
 ·have h:¬ (fA a:Key)=fA b:=λ q=>e (Sum.inr.inj q)
  rw [decide_eq_false h,decide_eq_false e]
theorem b2x (a:Int) (b:Str):decide ((eZ a:Key)=fA b)=false:=decide_eq_false (λ q=>nomatch q)
theorem b2W (a:Str) (b:Int):decide ((fA a:Key)=eZ b)=false:=decide_eq_false (λ q=>nomatch q)
def a7i (prog:Program) (w:World):PySem.KeyKind prog w Key where
 is:=b2t
 hash:=b5H w
 inj:=λ v a b ha hb=>by
  rcases C4 ha with ⟨i,t,rfl,rfl⟩ | ⟨x,t,rfl,rfl⟩
  ·rcases C4 hb with ⟨j,u,rfl,e⟩ | ⟨y,u,rfl,e⟩
   ·injection e with e1 _; rw [e1]
   ·exact nomatch e
  ·rcases C4 hb with ⟨j,u,rfl,e⟩ | ⟨y,u,rfl,e⟩
   ·exact nomatch e
   ·injection e with e1 _; rw [e1]
 byValue:=λ k v h=>by
  rcases C4 h with ⟨i,t,rfl,rfl⟩ | ⟨x,t,rfl,rfl⟩ <;> rfl
 pyHash:=λ hv h=>by
  rcases C4 hv with ⟨i,t,rfl,rfl⟩ | ⟨x,t,rfl,rfl⟩
  ·exact wpAny_pyHash_int h
  ·exact wpAny_pyHash_str h
 eqBool:=λ hu hv h=>by
  rcases C4 hu with ⟨i,t,rfl,rfl⟩ | ⟨x,t,rfl,rfl⟩
  ·rcases C4 hv with ⟨j,u,rfl,rfl⟩ | ⟨y,u,rfl,rfl⟩
   ·rw [b3t] at h; exact wpAny_eqBool_int h
   ·rw [b2x] at h; exact SeqAt.EqAt.int_str i t y u _ _ _ _ h
  ·rcases C4 hv with ⟨j,u,rfl,rfl⟩ | ⟨y,u,rfl,rfl⟩
   ·rw [b2W] at h; exact SeqAt.EqAt.str_int x t j u _ _ _ _ h
   ·rw [b2F] at h; exact wpAny_eqBool_str h
 «strs»:=λ k x t v h=>by
  rcases C4 h with ⟨i,u,rfl,e⟩ | ⟨y,u,rfl,e⟩
  ·exact nomatch e
  ·injection e with e1 _
   subst e1
   cases v <;> rfl
inductive V where
 | non | bl (b:Bool) | int (i:Int) | str (x:Str) | byt (b:Array UInt8) | flt (b:UInt64) | ref (a:Addr) | ty (n:String)
 deriving DecidableEq
def RelV:V->Value->Prop
 | .non,u=>u=Value.none
 | .bl b,u=>u=Value.bool b
 | .int i,u=>∃ t,u=Value.int i t
 | .str x,u=>∃ t,u=Value.str x t
 | .byt b,u=>∃ t,u=Value.bytes b t
 | .flt b,u=>∃ t,u=Value.float b t
 | .ref a,u=>u=Value.ref a
 | .ty n,u=>u=Value.type n
abbrev Vals:List V->List Value->Prop:=Paired RelV
theorem Vals.length {xs:List V} {us:List Value} (r:Vals xs us):xs.length=us.length:=Paired.length r
theorem Vals.get:∀ {xs:List V} {us:List Value} {i:Nat} {x:V},Vals xs us->xs[i]?=some x->∃ u,us[i]?=some u/\RelV x u
 | _,_,_,_,.nil,e=>by simp at e
 | _,_,0,_,.cons r _,e=>by simp at e; subst e; exact ⟨_,rfl,r⟩
 | _,_,i+1,x,.cons _ t,e=>by
  obtain ⟨u,h1,h2⟩:=Vals.get (i:=i) (x:=x) t (by simpa using e);exact ⟨u,by simpa using h1,h2⟩
theorem Vals.set {x:V} {u:Value} (r:RelV x u):∀ {xs:List V} {us:List Value} (i:Nat),Vals xs us->Vals (xs.set i x) (us.set i u)
 | _,_,_,.nil=>.nil
 | _,_,0,.cons _ t=>.cons r t
 | _,_,i+1,.cons q t=>.cons q (Vals.set r i t)
theorem Vals.append:∀ {xs ys:List V} {us ws:List Value},Vals xs us->Vals ys ws->Vals (xs++ys) (us++ws)
 | _,_,_,_,.nil,s=>s
 | _,_,_,_,.cons r t,s=>.cons r (Vals.append t s)
theorem Vals.take:∀ {xs:List V} {us:List Value} (n:Nat),Vals xs us->Vals (xs.take n) (us.take n)
 | _,_,0,_=>.nil
 | _,_,_+1,.nil=>.nil
 | _,_,n+1,.cons r t=>.cons r (Vals.take n t)
theorem Vals.drop:∀ {xs:List V} {us:List Value} (n:Nat),Vals xs us->Vals (xs.drop n) (us.drop n)
 | _,_,0,r=>r
 | _,_,_+1,.nil=>.nil
 | _,_,n+1,.cons _ t=>Vals.drop n t
theorem Vals.none_of:∀ {xs:List V} {us:List Value} {i:Nat},Vals xs us->xs[i]?=none->us[i]?=none:=λ {xs us i} r e=>by
 have h1:=r.length;have h2:xs.length<=i:=iP.mp e;exact iP.mpr (by omega)
def RelO:Option V->Option Value->Prop
 | some v,some u=>RelV v u
 | none,none=>True
 | _,_=>False
def KV {κ:Type}:List (κ×V)->List (κ×Value)->Prop:=Paired λ (p:κ×V) (q:κ×Value)=>p.1=q.1/\RelV p.2 q.2
def kV:Key->V
 | .inl i=>.int i
 | .inr x=>.str x
inductive HO where
  | lst (xs:List V)
  | tup (xs:List V)
  | dK (kvs:List (Key×V)) | dT (kvs:List (List Key×V))
  | set (S:Int->Bool) (n:Nat)
  | ins (C dx:Addr) (fs:List (Str×V))
  | own (x:Addr)
  | xd (fs:List (Str×V))
  | met (f x:Addr)
  | rng (lo hi:Int)
  | frz (o:Obj) (u:HO)
  | tbl (ps:Array Value)
  | ext (φ:Heap->Prop)
abbrev Hp:=Addr->Option HO
def upd (H:Hp) (a:Addr) (o:HO):Hp:=λ b=>if b=a then some o else H b
theorem upd_same {H:Hp} {a:Addr} {o:HO}:upd H a o a=some o:=by unfold upd; rw [if_pos rfl]
theorem d0 {H:Hp} {a b:Addr} {o:HO} (h:b≠a):upd H a o b=H b:=by unfold upd; rw [if_neg h]
theorem a1y {H:Hp} {a:Addr} {o u:HO}:upd (upd H a o) a u=upd H a u:=by
 funext b; unfold upd; split <;> rfl
theorem a1g {H:Hp} {a b:Addr} {o u:HO} (h:H a=some o) (h':H b=some u) (d:o≠u):a≠b:=by
 intro e; subst e; rw [h] at h'; exact d (aM h')
theorem i8 {H:Hp} {a b:Addr} {o:HO} (h:H a=some o) (h':H b=none):a≠b:=by
 intro e; subst e; rw [h] at h'; cases h'
section
variable (P:Program) (w:World)
def ObjOk (H:Hp) (h:Heap) (a:Addr):HO->Prop
 | .lst xs=>xs.length<=sizeLine/\∃ (its:List Value) (n:Nat),Vals xs its/\h.get? a=some { cls:=.type "list",data:=.seq its.toArray n }
 | .tup xs=>xs.length<=sizeLine/\∃ its:List Value,Vals xs its/\IsTup h a its.toArray
 | .dK kvs=>kvs.length<=sizeLine/\(a==sysModules)=false/\∃ vs,KV kvs vs/\h.DictOf (a7i P w) a vs
 | .dT kvs=>kvs.length<=sizeLine/\(a==sysModules)=false/\∃ xs:List (List Key×Addr×Value),
   Paired (λ (p:List Key×V) (q:List Key×Addr×Value)=>p.1=q.1/\H q.2.1=some (.tup (p.1.map kV))/\RelV p.2 q.2.2) kvs xs ∧
   ∃ o es ep,h.get? a=some o/\o.ExactDict/\o.data=.dict es ep/\es.toList=xs.map (entryOfKey (tupleKind (a7i P w)))/\(xs.map (·.1)).Nodup
 | .set S n=>h.SetOf (intKind P w) a S n
 | .ins C dx fs=>H dx=some (.own a)/\fs.length<=1000/\dx≠a/\h.get? a=some (W.instObj C dx) ∧
   ∃ mA,h.Ns1 dx mA/\(∀ f,RelO (fs.lookup f) (mA f))/\iQ mA (fs.map (·.1))
 | .own _=>∃ o,h.get? a=some o
 | .xd fs=>∃ mA,h.Ns1 a mA/\∀ f,RelO (fs.lookup f) (mA f)
 | .rng lo hi=>∃ t u v,h.get? a=some { cls:=.type "range",data:=.fields #[.int lo t,.int hi u,.int 1 v] }
 | .frz o u=>h.get? a=some o/\ObjOk H h a u
 | .tbl ps=>h.get? a=some { cls:=.none,data:=.fields ps }
 | .met f x=>h.get? a=some (W.methodObj (.ref f) (.ref x))
 | .ext φ=>φ h/\(∃ o,h.get? a=some o)/\∀ h1 h2:Heap,φ h1->(∀ o,h1.get? a=some o->h2.get? a=some o)->φ h2
def HOk (H:Hp) (h:Heap):Prop:=∀ a o,H a=some o->ObjOk P w H h a o
end
section
variable {P:Program} {w:World} {H H':Hp} {h h':Heap} {a:Addr} {o:HO}
theorem ObjOk.lt (x:ObjOk P w H h a o):a<h.objs.size:=by
 cases o with
 | lst xs=>obtain ⟨_,_,_,_,e⟩:=x; exact Heap.lt_size e
 | tup xs=>obtain ⟨_,_,_,p⟩:=x; exact p.lt
 | dK kvs=>obtain ⟨_,_,_,_,o,_,_,e,_⟩:=x; exact Heap.lt_size e
 | dT kvs=>obtain ⟨_,_,_,_,o,_,_,e,_⟩:=x; exact Heap.lt_size e
 | set S n=>obtain ⟨o,_,_,_,e,_⟩:=x; exact Heap.lt_size e
 | ins C dx fs=>obtain ⟨_,_,_,e,_⟩:=x; exact Heap.lt_size e
 | own y=>obtain ⟨_,e⟩:=x; exact Heap.lt_size e
 | xd fs=>obtain ⟨_,⟨_,_,_,e,_⟩,_⟩:=x; exact Heap.lt_size e
 | rng lo hi=>obtain ⟨_,_,_,e⟩:=x; exact Heap.lt_size e
 | frz ob u=>obtain ⟨e,_⟩:=x; exact Heap.lt_size e
 | tbl ps=>exact Heap.lt_size (show h.get? a=some _ from x)
 | met f y=>exact Heap.lt_size (show h.get? a=some _ from x)
 | ext φ=>obtain ⟨_,⟨_,e⟩,_⟩:=x; exact Heap.lt_size e
theorem Paired.mapP {α β:Type} {F G:α->β->Prop}:∀ {l₁:List α} {l₂:List β},Paired F l₁ l₂->(∀ a b,F a b->G a b)->Paired G l₁ l₂
 | _,_,.nil,_=>.nil
 | _,_,.cons r t,f=>.cons (f _ _ r) (Paired.mapP t f)
theorem Paired.imp' {α β:Type} {F G:α->β->Prop} (f:∀ a b,F a b->G a b) {l₁:List α} {l₂:List β} (r:Paired F l₁ l₂):Paired G l₁ l₂:=Paired.mapP r f
theorem ObjOk.stay (x:ObjOk P w H h a o) (k:∀ b u,(b=a\/H b=some (.own a))->h.get? b=some u->h'.get? b=some u)
  (ho:∀ b,H b=some (.own a)->H' b=some (.own a)) (ht:∀ b xs,H b=some (.tup xs)->H' b=some (.tup xs)):ObjOk P w H' h' a o:=by
 induction o with
 | lst xs=>obtain ⟨z,its,n,r,e⟩:=x; exact ⟨z,its,n,r,k _ _ (.inl rfl) e⟩
 | tup xs=>obtain ⟨z,its,r,ob,e,c⟩:=x; exact ⟨z,its,r,ob,k _ _ (.inl rfl) e,c⟩
 | dK kvs=>obtain ⟨z,y,vs,r,ob,es,ep,e,c⟩:=x; exact ⟨z,y,vs,r,ob,es,ep,k _ _ (.inl rfl) e,c⟩
 | dT kvs =>
  obtain ⟨z,y,xs,r,ob,es,ep,e,c⟩:=x;exact ⟨z,y,xs,Paired.mapP r λ p q z=>⟨z.1,ht _ _ z.2.1,z.2.2⟩,ob,es,ep,k _ _ (.inl rfl) e,c⟩
 | set S n=>obtain ⟨ob,es,ep,t,e,c⟩:=x; exact ⟨ob,es,ep,t,k _ _ (.inl rfl) e,c⟩
 | ins C dx fs =>
  obtain ⟨d,z,ne,e,mA,⟨od,es,ep,e2,c⟩,r⟩:=x;exact ⟨ho _ d,z,ne,k _ _ (.inl rfl) e,mA,⟨od,es,ep,k _ _ (.inr d) e2,c⟩,r⟩
 | own y=>obtain ⟨ob,e⟩:=x; exact ⟨ob,k _ _ (.inl rfl) e⟩
 | xd fs=>obtain ⟨mA,⟨od,es,ep,e,c⟩,r⟩:=x; exact ⟨mA,⟨od,es,ep,k _ _ (.inl rfl) e,c⟩,r⟩
 | rng lo hi=>obtain ⟨t,u,v,e⟩:=x; exact ⟨t,u,v,k _ _ (.inl rfl) e⟩
 | frz ob u ih=>obtain ⟨e,q⟩:=x; exact ⟨k _ _ (.inl rfl) e,ih q⟩
 | tbl ps =>
  have e:h.get? a=some { cls:=.none,data:=.fields ps }:=x
  show h'.get? a=some { cls:=.none,data:=.fields ps }
  exact k a _ (.inl rfl) e
 | met f y =>
  have e:h.get? a=some (W.methodObj (.ref f) (.ref y)):=x
  show h'.get? a=some (W.methodObj (.ref f) (.ref y))
  exact k a _ (.inl rfl) e
 | ext φ=>obtain ⟨p,⟨o,e⟩,st⟩:=x; exact ⟨st _ _ p λ o q=>k _ _ (.inl rfl) q,⟨o,k _ _ (.inl rfl) e⟩,st⟩
theorem HOk.lt (x:HOk P w H h) (e:H a=some o):a<h.objs.size:=(x a o e).lt
theorem HOk.fresh (x:HOk P w H h) (e:h.objs.size<=a):H a=none:=by
 cases q:H a with
 | none=>rfl
 | some u=>exact absurd (aZ (x.lt q) e) (bR _)
theorem HOk.kept (x:HOk P w H h) (k:∀ b u,h.get? b=some u->h'.get? b=some u):HOk P w H h':=λ a o e =>
 (x a o e).stay (λ b u _ q=>k b u q) (λ _ q=>q) λ _ _ q=>q
theorem HOk.laid (x:HOk P w H h) (k:∀ b u,h.get? b=some u->h'.get? b=some u) (hp:h.objs.size<=a) (new:ObjOk P w (upd H a o) h' a o):HOk P w (upd H a o) h':=λ b u e=>by
 have hn:=x.fresh hp
 by_cases hb:b=a
 ·subst hb; rw [upd_same] at e; cases e; exact new
 ·rw [d0 hb] at e
  exact (x b u e).stay (λ c v _ q=>k c v q) (λ c q=>by rw [d0 (i8 q hn)]; exact q) λ c xs q=>by rw [d0 (i8 q hn)]; exact q
end
def Rd (H:Hp) (a:Addr) (u:HO):Prop:=H a=some u\/∃ o,H a=some (.frz o u)
theorem Rd.ok {P:Program} {w:World} {H:Hp} {h:Heap} {a:Addr} {u:HO} (r:Rd H a u) (x:HOk P w H h):ObjOk P w H h a u:=by
 rcases r with r | ⟨o,r⟩
 ·exact x a u r
 ·obtain ⟨_,q⟩:=x a _ r
  exact q
def Mut:Option HO->Prop
 | some (.lst _)=>True
 | some (.dK _)=>True
 | some (.dT _)=>True
 | some (.set _ _)=>True
 | some (.ins _ _ _)=>True
 | some (.ext _)=>True
 | _=>False
section
variable {P:Program} {w:World} {H:Hp} {h h':Heap} {x e:Addr} {o':HO}
theorem HOk.write (ok:HOk P w H h) (mu:Mut (H x)) (he:e=x\/H e=some (.own x)) (k:∀ b u,b≠e->h.get? b=some u->h'.get? b=some u) (heo:∃ u,h'.get? e=some u)
  (new:ObjOk P w (upd H x o') h' x o'):HOk P w (upd H x o') h':=λ b u q=>by
 have nown:∀ c y,H c=some (.own y)->c≠x:=λ c y r z=>by subst z; rw [r] at mu; exact mu
 have ntup:∀ c xs,H c=some (.tup xs)->c≠x:=λ c xs r z=>by subst z; rw [r] at mu; exact mu
 by_cases hb:b=x
 ·subst hb; rw [upd_same] at q; cases q; exact new
 ·rw [d0 hb] at q
  by_cases hbe:b=e
  ·have q':H b=some (.own x):=by
    rcases he with z | z
    ·exact absurd (hbe.trans z) hb
    ·rw [hbe]; exact z
   rw [q] at q'; cases q';obtain ⟨v,hv⟩:=heo;exact ⟨v,by rw [hbe]; exact hv⟩
  ·refine (ok b u q).stay (λ c v hc r=>k c v ?_ r) (λ c r=>by rw [d0 (nown c b r)]; exact r) λ c xs r=>by rw [d0 (ntup c xs r)]; exact r
   rcases hc with rfl | hc
   ·exact hbe
   ·rintro rfl
    rcases he with z | z
    ·exact nown c b hc z
    ·rw [hc] at z; cases z; exact hb rfl
end
structure Un (fs ex:List Addr) (H H':Hp) (h h':Heap):Prop where
 keep:∀ b o,h.get? b=some o->H b=none->b ∉ fs->b ∉ ex->h'.get? b=some o
 slot:∀ b o,h.get? b=some o->H b=none->b∈fs->b ∉ ex->∃ sl,h'.get? b=some { o with slots:=sl }
 free:∀ b o,h.get? b=some o->H b=none->b ∉ ex->H' b=none
 there:∀ b o,h.get? b=some o->b ∉ ex->∃ o',h'.get? b=some o'
 tups:∀ b xs,H b=some (.tup xs)->H' b=some (.tup xs)
 frzs:∀ b o u,H b=some (.frz o u)->H' b=some (.frz o u)
 tbls:∀ b ps,H b=some (.tbl ps)->∃ more,H' b=some (.tbl (ps++more))
section
variable {fs fs' ex ex':List Addr} {H H1 H2:Hp} {h h1 h2 h':Heap} {a x e:Addr} {o:HO}
theorem Un.any (u:Un fs ex H H1 h h1) {b:Addr} {ob:Obj} (q:h.get? b=some ob) (n:H b=none) (hx:b ∉ ex):∃ sl,h1.get? b=some { ob with slots:=sl }:=by
 by_cases hb:b∈fs
 ·exact u.slot b ob q n hb hx
 ·exact ⟨ob.slots,u.keep b ob q n hb hx⟩
theorem Un.kept (k:∀ b u,h.get? b=some u->h'.get? b=some u):Un fs ex H H h h' :=
 ⟨λ b ob q _ _ _=>k b ob q,λ b ob q _ _ _=>⟨ob.slots,k b ob q⟩,λ _ _ _ n _=>n,λ b ob q _=>⟨ob,k b ob q⟩,λ _ _ q=>q,λ _ _ _ q=>q,λ _ ps q=>⟨#[],by rw [q]; simp⟩⟩
theorem Un.refl:Un fs ex H H h h:=Un.kept λ _ _ q=>q
theorem Un.laid (k:∀ b u,h.get? b=some u->h'.get? b=some u) (hp:h.objs.size<=a) (hn:H a=none):Un fs ex H (upd H a o) h h' where
 keep:=λ b u q _ _ _=>k b u q
 slot:=λ b u q _ _ _=>⟨u.slots,k b u q⟩
 free:=λ b u q n _=>by rw [d0 (bD (aZ (Heap.lt_size q) hp))]; exact n
 there:=λ b u q _=>⟨u,k b u q⟩
 tups:=λ b xs q=>by rw [d0 (i8 q hn)]; exact q
 frzs:=λ b u xs q=>by rw [d0 (i8 q hn)]; exact q
 tbls:=λ b ps q=>⟨#[],by rw [d0 (i8 q hn),q]; simp⟩
theorem Un.write (mu:Mut (H x)) (he:e=x\/H e=some (.own x)) (k:∀ b u,b≠e->h.get? b=some u->h'.get? b=some u) (heo:∃ u,h'.get? e=some u):Un fs ex H (upd H x o) h h':=by
 have hx:∀ b,H b=none->b≠x:=λ b n z=>by subst z; rw [n] at mu; exact mu
 have hb:∀ b,H b=none->b≠e:=λ b n z=>by
  subst z;rcases he with r | r
  ·exact hx b n r
  ·rw [n] at r; cases r
 have hm:∀ b u,H b=some u->¬ Mut (some u)->b≠x:=λ b u q nm z=>by subst z; rw [q] at mu; exact nm mu
 refine ⟨λ b u q n _ _=>k b u (hb b n) q,λ b u q n _ _=>⟨u.slots,k b u (hb b n) q⟩,λ b u q n _=>by rw [d0 (hx b n)]; exact n,λ b u q _=>?_,
  λ b xs q=>by rw [d0 (hm b _ q λ z=>z)]; exact q,λ b u xs q=>by rw [d0 (hm b _ q λ z=>z)]; exact q,λ b ps q=>⟨#[],by rw [d0 (hm b _ q λ z=>z),q]; simp⟩⟩
 by_cases hbe:b=e
 ·subst hbe; exact heo
 ·exact ⟨u,k b u hbe q⟩
end
def trk (h:Heap) (H:Hp):List Addr:=(aH h.objs.size).filter λ a=>(H a).isSome
def a2K (h:Heap) (H:Hp):Heap:=W.hideAll h (trk h H)
theorem a7C (h:Heap) (H:Hp):(a2K h H).objs.size=h.objs.size:=W.hideAll_size _ _
theorem a9Q {h:Heap} {H:Hp} {b:Addr} {o:Obj} (e:h.get? b=some o) (n:H b=none):(a2K h H).get? b=some o :=
 W.hideAll_get _ e λ hm=>by
  have q:(H b).isSome=true:=(gL.mp hm).2;rw [n] at q; simp at q
theorem b1L {h:Heap} {H:Hp} {b:Addr} {o:Obj} (e:(a2K h H).get? b=some o):h.get? b=some o/\H b=none:=by
 have e':h.get? b=some o:=W.of_hideAll (trk h H) e;refine ⟨e',?_⟩
 cases q:H b with
 | none=>rfl
 | some x =>
  have hm:b∈trk h H:=gL.mpr ⟨List.mem_range.mpr (Heap.lt_size e'),by simp [q]⟩;have z:(a2K h H).get? b=none:=W.hideAll_none (trk h H) hm;rw [z] at e; cases e
def b0Y (g h:Heap) (L:Addr):List (Addr×Obj):=(aH h.objs.size).filterMap λ a=>if a=L\/(g.get? a).isSome=true then none else (h.get? a).map λ o=>(a,o)
def rest (g h:Heap) (L d:Addr):List (Addr×Obj):=(b0Y g h L).filter λ p=>decide (p.1≠d)
structure Mod (K:W.Frag) (mg:Str->Option Value) (base:Heap):Prop where
 kin:K.In base
 glob:base.Ns mainGlobals mg
 blt:∃ mb,base.Ns builtinsNs mb/\∀ x:Str,x≠"__name__"->mb x=bootBuiltins x
 nolimit:base.NoLimit
structure Cx where
 prog:Program
 w:World
 K:W.Frag
 mg:Str->Option Value
 base:Heap
 A:Around
 N:List Str
 s₀:Shared
 H₀:Hp
 env:Env
 outer:List Env
 stack:List Env
 ex:List Addr
 fn:Str->Bool
 calm:Bool
 pn:List (Addr×Obj)
 xe:Value->Shared->Prop
def frs (l:List Env):List Addr:=l.filterMap (·.frame)
abbrev Cx.fs (X:Cx):List Addr:=frs X.outer
def Vis (sc:Scope) (x:Str):Prop:=sc.names.lookup x=some .local\/sc.names.lookup x=some .cell\/sc.names.lookup x=some .free
def Loc (sc:Scope) (x:Str):Prop:=sc.names.lookup x=some .local\/sc.names.lookup x=some .cell
def b5w (env:Env) (h:Heap) (m:Str->Option Value) (x:Str) (u:Value):Prop :=
 (env.kindOf x=some .local/\m x=some u)\/((env.kindOf x=some .cell\/env.kindOf x=some .free)/\∃ c,env.cells.lookup x=some c/\h.IsCell c (some u))
structure Cx.Ok (X:Cx):Prop where
 mod:Mod X.K X.mg X.base
 kind:X.env.scope.kind=.function
 glob:X.env.globals=mainGlobals
 blt:X.env.builtins=builtinsNs
 above:X.s₀.heap.objs.size<=X.env.locals
 inj:∀ x y c,X.env.cells.lookup x=some c->X.env.cells.lookup y=some c->x=y
 has:∀ x,(X.env.kindOf x=some .cell\/X.env.kindOf x=some .free)->∃ c,X.env.cells.lookup x=some c
 cab:∀ x c,X.fn x=true->X.env.cells.lookup x=some c->X.s₀.heap.objs.size<=c
 hd:X.calm=true->X.A.handled=none
 frames:X.A.frames=some X.stack
 stk:X.stack=X.outer\/(X.stack=X.env::X.outer/\X.env.frame=some X.env.locals)
 exf:∀ b∈X.ex,b≠X.env.locals/\∀ x c,X.env.cells.lookup x=some c->c≠b
 bs:∀ b o,X.base.get? b=some o->X.s₀.heap.get? b=some o/\X.H₀ b=none
 bsz:X.base.objs.size<=X.s₀.heap.objs.size
 noex:∀ b o,X.base.get? b=some o->b ∉ X.ex
 exfs:∀ b∈X.ex,b ∉ X.fs
 funs:X.s₀.heap.FunFrames X.base X.outer
 frf:∀ b∈X.fs,X.H₀ b=none
structure Inv (X:Cx) (pins:List (Addr×Obj)) (σ:List (Option V)) (H:Hp) (s:Shared):Prop where
 ok:X.Ok
 os:s.os=X.s₀.os
 bare:AllBare s.gens
 base:Un X.fs X.ex X.H₀ H X.s₀.heap s.heap
 loc:∃ m,s.heap.Ns X.env.locals m/\∀ (i:Nat) (x:Str) (v:V),X.N[i]?=some x->σ[i]?=some (some v)->Vis X.env.scope x->∃ u,RelV v u/\b5w X.env s.heap m x u
 cell:∀ x c,X.env.cells.lookup x=some c->∃ v,s.heap.IsCell c v
 free:H X.env.locals=none
 freeC:∀ x c,X.env.cells.lookup x=some c->H c=none
 pin:∀ p∈X.pn++pins,s.heap.get? p.1=some p.2/\H p.1=none/\p.1≠X.env.locals/\p.1 ∉ X.fs/\∀ v,p.2.data≠.cell v
 hok:HOk X.prog X.w H s.heap
 len:σ.length=X.N.length
section
variable {X:Cx} {pins:List (Addr×Obj)} {σ:List (Option V)} {H H':Hp} {s:Shared} {h':Heap}
theorem Cx.Ok.nofr (ok:X.Ok) {b:Addr} {o:Obj} (e:X.base.get? b=some o):b ∉ X.fs:=λ hb=>by
 have:=(ok.funs.mem hb).1;rw [e] at this; cases this
theorem Inv.bs (I:Inv X pins σ H s):∀ b o,X.base.get? b=some o->s.heap.get? b=some o/\H b=none:=λ b o e =>
 ⟨I.base.keep b o (I.ok.bs b o e).1 (I.ok.bs b o e).2 (I.ok.nofr e) (I.ok.noex b o e),I.base.free b o (I.ok.bs b o e).1 (I.ok.bs b o e).2 (I.ok.noex b o e)⟩
theorem Inv.bk (I:Inv X pins σ H s):∀ b o,X.base.get? b=some o->s.heap.get? b=some o:=λ b o e=>(I.bs b o e).1
theorem Inv.mod (I:Inv X pins σ H s):Mod X.K X.mg X.base:=I.ok.mod
theorem Inv.kIn (I:Inv X pins σ H s):X.K.In s.heap:=I.ok.mod.kin.keeps I.bk
theorem Inv.nolimit (I:Inv X pins σ H s):s.heap.NoLimit:=I.ok.mod.nolimit.keeps I.bk
theorem Inv.fr (I:Inv X pins σ H s):∃ m,Fr X.base X.env.locals s.heap m :=
 let ⟨m,hn,_⟩:=I.loc
 ⟨m,hn,I.bk,bA I.ok.bsz I.ok.above⟩
theorem Inv.lt (I:Inv X pins σ H s):X.env.locals<s.heap.objs.size:=let ⟨_,hn,_⟩:=I.loc; hn.lt
theorem Inv.sz (I:Inv X pins σ H s):X.s₀.heap.objs.size<=s.heap.objs.size:=bA I.ok.above (cP I.lt)
theorem Inv.nofs (I:Inv X pins σ H s) {a:Addr} (h:s.heap.objs.size<=a):a ∉ X.fs:=λ hb=>by
 obtain ⟨_,o,ho,_⟩:=I.ok.funs.mem hb;exact absurd (aZ (Heap.lt_size ho) (bA I.sz h)) (bR _)
theorem Inv.cne (I:Inv X pins σ H s):∀ x c,X.env.cells.lookup x=some c->c≠X.env.locals:=λ x c e z=>by
 obtain ⟨v,o,ho,hd⟩:=I.cell x c e;obtain ⟨m,⟨o',es,ep,ho',hd',_⟩,_⟩:=I.loc;rw [z,ho'] at ho; cases ho; rw [hd'] at hd; cases hd
theorem Inv.funs (I:Inv X pins σ H s):s.heap.FunFrames X.base X.outer:=by
 have all:∀ (l:List Env),(∀ b∈frs l,b∈X.fs)->X.s₀.heap.FunFrames X.base l->s.heap.FunFrames X.base l:=by
  intro l
  induction l with
  | nil=>intro _ _; trivial
  | cons env r ih =>
   intro hs hl;obtain ⟨hk,⟨L,o,hf,hn,ho,hd⟩,hr⟩:=hl;have hL:L∈X.fs:=hs L (by unfold frs; rw [fN,hf]; exact cJ);obtain ⟨sl,e⟩:=I.base.slot L o ho (I.ok.frf L hL) hL λ z=>I.ok.exfs L z hL;exact ⟨hk,⟨L,_,hf,hn,e,hd⟩,ih (λ b hb=>hs b (by unfold frs; rw [fN,hf]; exact bL _ hb)) hr⟩
 exact all X.outer (λ _ hb=>hb) I.ok.funs
theorem Inv.stack (I:Inv X pins σ H s):s.heap.FunFrames X.base X.stack:=by
 rcases I.ok.stk with e | ⟨e,hf⟩
 ·rw [e]; exact I.funs
 ·rw [e]
  obtain ⟨m,hn,_⟩:=I.loc;refine .cons (by rw [I.ok.kind]; decide) hf hn ?_ I.funs;exact Heap.get?_none_of_le (bA I.ok.bsz I.ok.above)
theorem Inv.stkSub (I:Inv X pins σ H s):∀ b∈frs X.stack,b∈X.env.locals::X.fs:=λ b hb=>by
 rcases I.ok.stk with e | ⟨e,hf⟩
 ·rw [e] at hb; exact bL _ hb
 ·rw [e] at hb
  unfold frs at hb;rw [fN,hf] at hb;exact hb
theorem Inv.stkFree (I:Inv X pins σ H s):∀ b∈frs X.stack,H b=none:=λ b hb=>by
 rcases aL.mp (I.stkSub b hb) with e | hb
 ·rw [e]; exact I.free
 ·obtain ⟨_,o,ho,_⟩:=I.ok.funs.mem hb
  exact I.base.free b o ho (I.ok.frf b hb) λ z=>I.ok.exfs b z hb
theorem Inv.step {g':Array GenState} {t':Nat} {d':Drawn} {ch:List Addr} (I:Inv X pins σ H s)
  (hch:∀ b∈ch,(b∈X.ex\/X.s₀.heap.objs.size<=b)/\b≠X.env.locals/\(∀ x c,X.env.cells.lookup x=some c->c≠b)/\∀ p∈X.pn++pins,p.1≠b)
  (keep:∀ b o,b≠X.env.locals->b ∉ X.fs->b ∉ ch->s.heap.get? b=some o->H b=none->h'.get? b=some o)
  (slot:∀ b o,b≠X.env.locals->b∈X.fs->b ∉ ch->s.heap.get? b=some o->H b=none->∃ sl,h'.get? b=some { o with slots:=sl }) (free:∀ b o,b ∉ ch->s.heap.get? b=some o->H b=none->H' b=none)
  (there:∀ b o,b ∉ ch->s.heap.get? b=some o->∃ o',h'.get? b=some o')
  (tups:∀ b xs,H b=some (.tup xs)->H' b=some (.tup xs)) (frzs:∀ b o u,H b=some (.frz o u)->H' b=some (.frz o u)) (tbls:∀ b ps,H b=some (.tbl ps)->∃ more,H' b=some (.tbl (ps++more)))
  (ns:∀ m,s.heap.Ns X.env.locals m->h'.Ns X.env.locals m) (hok:HOk X.prog X.w H' h') (hg:AllBare g') :
  Inv X pins σ H' { s with heap:=h',gens:=g',drawn:=d',toks:=t' }:=by
 have neL:∀ b o,X.s₀.heap.get? b=some o->b≠X.env.locals:=λ b o e=>bD (aZ (Heap.lt_size e) I.ok.above);have neC:∀ b o,X.s₀.heap.get? b=some o->b ∉ X.ex->b ∉ ch:=λ b o e hx hb=>by
  rcases (hch b hb).1 with z | z
  ·exact hx z
  ·exact absurd (aZ (Heap.lt_size e) z) (bR _)
 have cellK:∀ x c,X.env.cells.lookup x=some c->∀ v,s.heap.IsCell c v->h'.IsCell c v:=λ x c e v ⟨o,ho,hd⟩=>by
  have nch:c ∉ ch:=λ z=>(hch c z).2.2.1 x c e rfl
  by_cases hc:c∈X.fs
  ·obtain ⟨sl,q⟩:=slot c o (I.cne x c e) hc nch ho (I.freeC x c e)
   exact ⟨_,q,hd⟩
  ·exact ⟨o,keep c o (I.cne x c e) hc nch ho (I.freeC x c e),hd⟩
 refine ⟨I.ok,I.os,hg,⟨λ b o e n hb hx=>?_,λ b o e n hb hx=>?_,λ b o e n hx=>?_,λ b o e hx=>?_,λ b xs e=>tups b xs (I.base.tups b xs e),λ b o xs e=>frzs b o xs (I.base.frzs b o xs e),λ b ps e=>?_⟩,?_,λ x c e=>?_,?_,λ x c e=>?_,λ p hp=>?_,hok,I.len⟩
 ·exact keep b o (neL b o e) hb (neC b o e hx) (I.base.keep b o e n hb hx) (I.base.free b o e n hx)
 ·obtain ⟨sl,e1⟩:=I.base.slot b o e n hb hx
  obtain ⟨sl',e2⟩:=slot b _ (neL b o e) hb (neC b o e hx) e1 (I.base.free b o e n hx);exact ⟨sl',e2⟩
 ·obtain ⟨o',e1⟩:=I.base.there b o e hx
  exact free b o' (neC b o e hx) e1 (I.base.free b o e n hx)
 ·obtain ⟨o',e1⟩:=I.base.there b o e hx
  exact there b o' (neC b o e hx) e1
 ·obtain ⟨m1,e1⟩:=I.base.tbls b ps e
  obtain ⟨m2,e2⟩:=tbls b _ e1;exact ⟨m1++m2,by rw [e2,Array.append_assoc]⟩
 ·obtain ⟨m,hn,hl⟩:=I.loc
  refine ⟨m,ns m hn,λ i x v e1 e2 e3=>?_⟩;obtain ⟨u,r,l⟩:=hl i x v e1 e2 e3;refine ⟨u,r,?_⟩;rcases l with l | ⟨k,c,e,z⟩
  ·exact .inl l
  ·exact .inr ⟨k,c,e,cellK x c e _ z⟩
 ·obtain ⟨v,z⟩:=I.cell x c e
  exact ⟨v,cellK x c e v z⟩
 ·obtain ⟨m,⟨o,_,_,ho,_⟩,_⟩:=I.loc
  exact free _ o (λ z=>(hch _ z).2.1 rfl) ho I.free
 ·obtain ⟨v,o,ho,hd⟩:=I.cell x c e
  exact free c o (λ z=>(hch c z).2.2.1 x c e rfl) ho (I.freeC x c e)
 ·obtain ⟨e,n,ne,nf,d⟩:=I.pin p hp
  have nch:p.1 ∉ ch:=λ z=>(hch p.1 z).2.2.2 p hp rfl;exact ⟨keep p.1 p.2 ne nf nch e n,free p.1 p.2 nch e n,ne,nf,d⟩
theorem Inv.un {t':Nat} (I:Inv X pins σ H s) (u:Un X.fs [] H H' s.heap h') (hok:HOk X.prog X.w H' h'):Inv X pins σ H' { s with heap:=h',toks:=t' }:=by
 obtain ⟨m,⟨o,es,ep,ho,r⟩,_⟩:=id I.loc;obtain ⟨sl,hL⟩:=u.any ho I.free (by simp);exact I.step (g':=s.gens) (d':=s.drawn) (ch:=[]) (λ _ z=>nomatch z) (λ b o _ hb _ e n=>u.keep b o e n hb (by simp)) (λ b o _ hb _ e n=>u.slot b o e n hb (by simp)) (λ b o _ e n=>u.free b o e n (by simp)) (λ b o _ e=>u.there b o e (by simp)) u.tups u.frzs u.tbls (λ m' hm=>by
  obtain ⟨o',es',ep',ho',r'⟩:=hm;rw [ho] at ho'; cases ho';exact ⟨_,es',ep',hL,r'⟩) hok I.bare
theorem Inv.call {g':Array GenState} {t':Nat} {d':Drawn} {ch:List Addr} (I:Inv X pins σ H s) (u:Un (frs X.stack) ch H H' s.heap h') (hok:HOk X.prog X.w H' h') (hg:AllBare g')
  (hch:∀ b∈ch,(b∈X.ex\/X.s₀.heap.objs.size<=b)/\b≠X.env.locals/\(∀ x c,X.env.cells.lookup x=some c->c≠b)/\∀ p∈X.pn++pins,p.1≠b) :
  Inv X pins σ H' { s with heap:=h',gens:=g',drawn:=d',toks:=t' }:=by
 obtain ⟨m,⟨o,es,ep,ho,r⟩,_⟩:=id I.loc;obtain ⟨sl,hL⟩:=u.any ho I.free λ z=>(hch _ z).2.1 rfl;exact I.step (ch:=ch) hch (λ b o hL hb hc e n=>u.keep b o e n (λ z=>(aL.mp (I.stkSub b z)).elim hL hb) hc) (λ b o _ _ hc e n=>u.any e n hc) (λ b o hc e n=>u.free b o e n hc) (λ b o hc e=>u.there b o e hc) u.tups u.frzs u.tbls (λ m' hm=>by
  obtain ⟨o',es',ep',ho',r'⟩:=hm;rw [ho] at ho'; cases ho';exact ⟨_,es',ep',hL,r'⟩) hok hg
theorem Inv.turned {t':Nat} {it:Addr} (I:Inv X pins σ H s) (k:∀ b o,b≠it->s.heap.get? b=some o->h'.get? b=some o) (hn:H it=none) (hL:it≠X.env.locals)
  (h1:it∈X.ex\/X.s₀.heap.objs.size<=it) (h2:∀ x c,X.env.cells.lookup x=some c->c≠it) (h3:∀ p∈X.pn++pins,p.1≠it):Inv X pins σ H { s with heap:=h',toks:=t' }:=by
 have nit:∀ b u,H b=some u->b≠it:=λ b u e z=>by rw [z,hn] at e; cases e
 refine I.step (g':=s.gens) (d':=s.drawn) (ch:=[it]) (λ b hb=>?_) (λ b o _ _ hc e _=>k b o (λ z=>hc (by simp [z])) e) (λ b o _ _ hc e _=>⟨o.slots,k b o (λ z=>hc (by simp [z])) e⟩) (λ _ _ _ _ n=>n)
  (λ b o hc e=>⟨o,k b o (λ z=>hc (by simp [z])) e⟩) (λ _ _ e=>e) (λ _ _ _ e=>e) (λ b ps e=>⟨#[],by rw [e]; simp⟩) (λ m hm=>?_) (λ b u e=>?_) I.bare
 ·have e:b=it:=by simpa using hb
  subst e;exact ⟨h1,hL,h2,h3⟩
 ·obtain ⟨o,es,ep,ho,r⟩:=hm
  exact ⟨o,es,ep,k _ o (aO hL) ho,r⟩
 ·refine (I.hok b u e).stay (λ c v hc q=>k c v ?_ q) (λ _ q=>q) λ _ _ q=>q
  rcases hc with z | z
  ·rw [z]; exact nit b u e
  ·exact nit c _ z
theorem Inv.tok (I:Inv X pins σ H s) (t:Nat):Inv X pins σ H { s with toks:=t }:=I.un (h':=s.heap) (t':=t) Un.refl I.hok
theorem Inv.kept {t':Nat} (I:Inv X pins σ H s) (k:∀ b u,s.heap.get? b=some u->h'.get? b=some u):Inv X pins σ H { s with heap:=h',toks:=t' }:=I.un (Un.kept k) (I.hok.kept k)
theorem Inv.laid {a:Addr} {o:HO} {t':Nat} (I:Inv X pins σ H s) (k:∀ b u,s.heap.get? b=some u->h'.get? b=some u) (hp:s.heap.objs.size<=a) (new:ObjOk X.prog X.w (upd H a o) h' a o) :
  Inv X pins σ (upd H a o) { s with heap:=h',toks:=t' }:=I.un (Un.laid k hp (I.hok.fresh hp)) (I.hok.laid k hp new)
theorem Inv.write {x e:Addr} {o:HO} {t':Nat} (I:Inv X pins σ H s) (mu:Mut (H x)) (he:e=x\/H e=some (.own x)) (k:∀ b u,b≠e->s.heap.get? b=some u->h'.get? b=some u) (heo:∃ u,h'.get? e=some u)
  (new:ObjOk X.prog X.w (upd H x o) h' x o):Inv X pins σ (upd H x o) { s with heap:=h',toks:=t' }:=I.un (Un.write mu he k heo) (I.hok.write mu he k heo new)
theorem Inv.weak {σ':List (Option V)} (I:Inv X pins σ H s) (hl:σ'.length=σ.length) (w:∀ (i:Nat) v,σ'[i]?=some (some v)->σ[i]?=some (some v)):Inv X pins σ' H s :=
 ⟨I.ok,I.os,I.bare,I.base,let ⟨m,hn,hl'⟩:=I.loc; ⟨m,hn,λ i x v e1 e2 e3=>hl' i x v e1 (w i v e2) e3⟩,I.cell,I.free,I.freeC,I.pin,I.hok,hl.trans I.len⟩
theorem Inv.pins_of {pins':List (Addr×Obj)} (I:Inv X pins σ H s) (h:∀ p∈pins',s.heap.get? p.1=some p.2/\H p.1=none/\p.1≠X.env.locals/\p.1 ∉ X.fs/\∀ v,p.2.data≠.cell v):Inv X pins' σ H s :=
 ⟨I.ok,I.os,I.bare,I.base,I.loc,I.cell,I.free,I.freeC,λ p hp=>(aT.mp hp).elim (λ z=>I.pin p (cQ _ z)) (h p),I.hok,I.len⟩
theorem a4r {N:List Str} (hN:N.Nodup) {i j:Nat} {x:Str} (a:N[i]?=some x) (b:N[j]?=some x):i=j:=by
 obtain ⟨h1,e1⟩:=aY.mp a;obtain ⟨h2,e2⟩:=aY.mp b;exact (List.getElem_inj hN).mp (e1.trans e2.symm)
theorem X1 {M:Model} {A:Around} {E:Value->Shared->Prop} {i:Nat} {x:Str} {v:V} {u:Value} {Q:Unit->Shared->Prop} (I:Inv X pins σ H s) (hN:X.N.Nodup) (hi:X.N[i]?=some x) (hx:Loc X.env.scope x) (r:RelV v u)
  (h:∀ s',Inv X pins (σ.set i (some v)) H s'->(∃ a,Heap.SameBut a s.heap s'.heap/\(a=X.env.locals\/X.env.cells.lookup x=some a))->Q () s') (hf:X.fn x=true\/X.env.scope.names.lookup x=some .local:=by first | exact .inl rfl | exact .inr rfl | assumption):wpAny M A (storeName X.env x u) Q E s:=by
 obtain ⟨m,hn,hl⟩:=id I.loc;have hcls:(X.env.scope.kind==.class || (X.env.scope.kind==.module&&X.env.locals != X.env.globals))=false:=by rw [I.ok.kind]; rfl
 have hiσ:i<σ.length:=by rw [I.len]; exact (aY.mp hi).1
 have cne:=I.cne;have tracked:∀ {a:Addr} {h':Heap},(∃ o,s.heap.get? a=some o/\H a=none)->Heap.SameBut a s.heap h'->HOk X.prog X.w H h':=λ {a h'} ha hs b ob e=>by
  obtain ⟨_,_,hfree⟩:=ha;refine (I.hok b ob e).stay (λ c w' hc q=>(hs.2 c ?_).trans q) (λ _ q=>q) λ _ _ q=>q;rintro rfl;rcases hc with rfl | hc
  ·rw [hfree] at e; cases e
  ·rw [hfree] at hc; cases hc
 rcases hx with hk | hk
 ·refine wpAny_storeName_local hk hn (λ h' hn' hs=>?_) hcls
  obtain ⟨oL,_,_,hoL,_⟩:=id hn;refine h _ ⟨I.ok,I.os,I.bare,⟨λ b o e n hb hx=>?_,λ b o e n hb hx=>?_,I.base.free,λ b o e hx=>?_,I.base.tups,I.base.frzs,I.base.tbls⟩,⟨_,hn',λ j y v' e1 e2 e3=>?_⟩,λ y c e=>?_,I.free,I.freeC,λ p hp=>?_,tracked ⟨oL,hoL,I.free⟩ hs,by simpa using I.len⟩ ⟨_,hs,.inl rfl⟩
  ·exact (hs.2 b (bD (aZ (Heap.lt_size e) I.ok.above))).trans (I.base.keep b o e n hb hx)
  ·obtain ⟨sl,e1⟩:=I.base.slot b o e n hb hx
   exact ⟨sl,(hs.2 b (bD (aZ (Heap.lt_size e) I.ok.above))).trans e1⟩
  ·obtain ⟨o',e1⟩:=I.base.there b o e hx
   exact ⟨o',(hs.2 b (bD (aZ (Heap.lt_size e) I.ok.above))).trans e1⟩
  ·by_cases hj:j=i
   ·subst hj
    rw [hi] at e1; cases e1;rw [cO hiσ] at e2
    cases e2;exact ⟨u,r,.inl ⟨hk,by simp⟩⟩
   ·rw [bS (aO hj)] at e2
    obtain ⟨u',r',q⟩:=hl j y v' e1 e2 e3;refine ⟨u',r',?_⟩;rcases q with ⟨k,e⟩ | ⟨k,c,e,z⟩
    ·refine .inl ⟨k,?_⟩
     have:y≠x:=λ e=>hj (a4r hN e1 (e ▸ hi));simp [this,e]
    ·exact .inr ⟨k,c,e,z.sameBut hs (cne y c e)⟩
  ·obtain ⟨w',z⟩:=I.cell y c e
   exact ⟨w',z.sameBut hs (cne y c e)⟩
  ·obtain ⟨e,n,ne,nf,d⟩:=I.pin p hp
   exact ⟨(hs.2 p.1 ne).trans e,n,ne,nf,d⟩
 ·have hfn:X.fn x=true:=by
   rcases hf with z | z
   ·exact z
   ·rw [z] at hk; cases hk
  obtain ⟨c,hc⟩:=I.ok.has x (.inl hk);obtain ⟨w',z⟩:=I.cell x c hc;refine wpAny_storeName_cell I.ok.kind hk hc z (λ h' hc' hs=>?_);obtain ⟨oc,hoc,hocd⟩:=id z;refine h { s with heap:=h' } ⟨I.ok,I.os,I.bare,⟨λ b o e n hb hx=>?_,λ b o e n hb hx=>?_,I.base.free,λ b o e hx=>?_,I.base.tups,I.base.frzs,I.base.tbls⟩,⟨m,hn.sameBut hs (aO (cne x c hc)),λ j y v' e1 e2 e3=>?_⟩,λ y c' e=>?_,I.free,I.freeC,λ p hp=>?_,tracked ⟨oc,hoc,I.freeC x c hc⟩ hs,by simpa using I.len⟩ ⟨c,hs,.inr hc⟩
  ·exact (hs.2 b (bD (aZ (Heap.lt_size e) (I.ok.cab x c hfn hc)))).trans (I.base.keep b o e n hb hx)
  ·obtain ⟨sl,e1⟩:=I.base.slot b o e n hb hx
   exact ⟨sl,(hs.2 b (bD (aZ (Heap.lt_size e) (I.ok.cab x c hfn hc)))).trans e1⟩
  ·obtain ⟨o',e1⟩:=I.base.there b o e hx
   exact ⟨o',(hs.2 b (bD (aZ (Heap.lt_size e) (I.ok.cab x c hfn hc)))).trans e1⟩
  ·by_cases hj:j=i
   ·subst hj
    rw [hi] at e1; cases e1;rw [cO hiσ] at e2
    cases e2;exact ⟨u,r,.inr ⟨.inl hk,c,hc,hc'⟩⟩
   ·rw [bS (aO hj)] at e2
    obtain ⟨u',r',q⟩:=hl j y v' e1 e2 e3;refine ⟨u',r',?_⟩;rcases q with q | ⟨k,c',e,z'⟩
    ·exact .inl q
    ·refine .inr ⟨k,c',e,z'.sameBut hs ?_⟩
     rintro rfl;exact hj (a4r hN e1 (I.ok.inj _ _ _ e hc ▸ hi))
  ·by_cases hcc:c'=c
   ·subst hcc; exact ⟨_,hc'⟩
   ·obtain ⟨w2,z2⟩:=I.cell y c' e
    exact ⟨w2,z2.sameBut hs hcc⟩
  ·obtain ⟨e,n,ne,nf,d⟩:=I.pin p hp
   refine ⟨(hs.2 p.1 ?_).trans e,n,ne,nf,d⟩;intro q;rw [q,hoc] at e;have q':oc=p.2:=aM e;exact d w' (by rw [<- q']; exact hocd)
theorem a0q {M:Model} {A:Around} {E:Value->Shared->Prop} {i:Nat} {x:Str} {v:V} {u:Value} {Q:Unit->Shared->Prop} (I:Inv X pins σ H s) (hN:X.N.Nodup) (hi:X.N[i]?=some x) (hx:Loc X.env.scope x) (r:RelV v u)
  (h:∀ s',Inv X pins (σ.set i (some v)) H s'->Q () s') (hf:X.fn x=true\/X.env.scope.names.lookup x=some .local:=by first | exact .inl rfl | exact .inr rfl | assumption):wpAny M A (storeName X.env x u) Q E s :=
 X1 I hN hi hx r (λ s' I' _=>h s' I') hf
theorem Inv.call' {s':Shared} {ch:List Addr} (I:Inv X pins σ H s) (ho:s'.os=s.os) (u:Un (frs X.stack) ch H H' s.heap s'.heap) (hok:HOk X.prog X.w H' s'.heap) (hg:AllBare s'.gens)
  (hch:∀ b∈ch,(b∈X.ex\/X.s₀.heap.objs.size<=b)/\b≠X.env.locals/\(∀ x c,X.env.cells.lookup x=some c->c≠b)/\∀ p∈X.pn++pins,p.1≠b):Inv X pins σ H' s':=by
 obtain ⟨h',g',d',t',o'⟩:=s';have e:o'=s.os:=ho;subst e;exact I.call (g':=g') (t':=t') (d':=d') u hok hg hch
end
abbrev XK:=Value->Option Addr->Hp->Prop
abbrev St:=List (Option V)
abbrev VK:=V->Hp->Prop
abbrev TE:=St->Hp->VK->Prop
abbrev TT:=St->Hp->(Bool->Hp->Prop)->Prop
abbrev TA:=St->Hp->(List V->Hp->Prop)->Prop
structure Ends where
 nx:St->Hp->Prop
 rt:VK
 bk:St->Hp->Prop:=λ _ _=>False
 ct:St->Hp->Prop:=λ _ _=>False
abbrev TS:=Ends->St->Hp->Prop
def EP (X:Cx) (pins:List (Addr×Obj)) (σ:St) (Q:VK) (u:Value) (s':Shared):Prop:=∃ v H',Inv X pins σ H' s'/\RelV v u/\Q v H'
def TP (X:Cx) (pins:List (Addr×Obj)) (σ:St) (Q:Bool->Hp->Prop) (b:Bool) (s':Shared):Prop:=∃ H',Inv X pins σ H' s'/\Q b H'
def AP (X:Cx) (pins:List (Addr×Obj)) (σ:St) (Q:List V->Hp->Prop) (us:List Value) (s':Shared):Prop:=∃ vs H',Inv X pins σ H' s'/\Vals vs us/\Q vs H'
def SP (X:Cx) (pins:List (Addr×Obj)) (D:Ends) (f:Flow) (s':Shared):Prop :=
 match f with
 | .next=>∃ σ' H',Inv X pins σ' H' s'/\D.nx σ' H'
 | .brk=>∃ σ' H',Inv X pins σ' H' s'/\D.bk σ' H'
 | .cont=>∃ σ' H',Inv X pins σ' H' s'/\D.ct σ' H'
 | .ret u=>∃ v σ' H',Inv X pins σ' H' s'/\RelV v u/\D.rt v H'
def PE (X:Cx) (e:Expr) (t:TE):Prop :=
 ∀ (pins:List (Addr×Obj)) (s:Shared) (σ:St) (H:Hp) (Q:VK),Inv X pins σ H s->t σ H Q->wpAny (model X.prog X.w) X.A (eval e X.env) (EP X pins σ Q) X.xe s
def PT (X:Cx) (e:Expr) (t:TT):Prop :=
 ∀ (pins:List (Addr×Obj)) (s:Shared) (σ:St) (H:Hp) (Q:Bool->Hp->Prop),Inv X pins σ H s->t σ H Q->wpAny (model X.prog X.w) X.A (isTrue e X.env (eval e X.env)) (TP X pins σ Q) X.xe s
def PW (X:Cx) (e:Expr) (t:TT):Prop :=
 ∀ (whole:Sem Value) (pins:List (Addr×Obj)) (s:Shared) (σ:St) (H:Hp) (Q:Bool->Hp->Prop),Inv X pins σ H s->t σ H Q->wpAny (model X.prog X.w) X.A (isTrue e X.env whole) (TP X pins σ Q) X.xe s
theorem PW.pt {X:Cx} {e:Expr} {t:TT} (h:PW X e t):PT X e t:=h _
def PA (X:Cx) (es:List Expr) (t:TA):Prop :=
 ∀ (pos:Pos) (pins:List (Addr×Obj)) (s:Shared) (σ:St) (H:Hp) (Q:List V->Hp->Prop),Inv X pins σ H s->t σ H Q->wpAny (model X.prog X.w) X.A (spliced (backTo pos (starEach es X.env))) (AP X pins σ Q) X.xe s
def PS (X:Cx) (st:Stmt) (t:TS):Prop :=
 ∀ (pins:List (Addr×Obj)) (s:Shared) (σ:St) (H:Hp) (D:Ends),Inv X pins σ H s->t D σ H->wpAny (model X.prog X.w) X.A (exec st X.env) (SP X pins D) X.xe s
def PSs (X:Cx) (st:List Stmt) (t:TS):Prop :=
 ∀ (pins:List (Addr×Obj)) (s:Shared) (σ:St) (H:Hp) (D:Ends),Inv X pins σ H s->t D σ H->wpAny (model X.prog X.w) X.A (execs st X.env) (SP X pins D) X.xe s
theorem B6 {α:Type} {t:Sem α} {Q Q':α->Shared->Prop} {M:Model} {A:Around} {E:Value->Shared->Prop} {s:Shared} (h:wpAny M A t Q E s) (hQ:∀ a s,Q a s->Q' a s):wpAny M A t Q' E s:=wpAny_mono h hQ λ _ _ x=>x
section
variable {X:Cx}
theorem bin {a b:Expr} {ta tb:TE} (ha:PE X a ta) (hb:PE X b tb) {pins:List (Addr×Obj)} {s:Shared} {σ:St} {H:Hp} {R:V->V->Hp->Prop} (I:Inv X pins σ H s) (h:ta σ H λ x H1=>tb σ H1 λ y H2=>R x y H2)
  {α:Type} {Q:α->Shared->Prop} {f:Value->Value->Sem α}
  (hf:∀ v u s2 x y H2,Inv X pins σ H2 s2->RelV x v->RelV y u->R x y H2->wpAny (model X.prog X.w) X.A (f v u) Q X.xe s2) :
  wpAny (model X.prog X.w) X.A (eval a X.env) (λ v s₁=>wpAny (model X.prog X.w) X.A (eval b X.env) (λ u s₂=>wpAny (model X.prog X.w) X.A (f v u) Q X.xe s₂) X.xe s₁) X.xe s:=by
 refine B6 (ha pins s σ H _ I h) λ v s1 ⟨x,H1,I1,r1,q1⟩=>?_;refine B6 (hb pins s1 σ H1 _ I1 q1) λ u s2 ⟨y,H2,I2,r2,q2⟩=>?_;exact hf v u s2 x y H2 I2 r1 r2 q2
def a8e (i:Nat):TE:=λ σ H Q=>∃ v,σ[i]?=some (some v)/\Q v H
def tC (v:V):TE:=λ _ H Q=>Q v H
theorem b3k {i:Nat} {x:Str} {pos:Pos} (hN:X.N[i]?=some x) (hv:Vis X.env.scope x) (hd:(x==("__debug__":Str))=false:=by decide) (hcd:(x==("__classdict__":Str))=false:=by decide):PE X (.Name x pos) (a8e i):=by
 intro pins s σ H Q I h;obtain ⟨v,e,h⟩:=h;obtain ⟨m,hn,hl⟩:=I.loc;obtain ⟨u,r,l⟩:=hl i x v hN e hv;have fin:EP X pins σ Q u s:=⟨v,H,I,r,h⟩;rcases l with ⟨hk,hm⟩ | ⟨hk,c,hc,hcell⟩
 ·exact wpAny_Name (wpAny_loadName_local I.ok.kind hk hn hm fin) hd
 ·rcases hk with hk | hk
  ·exact wpAny_Name (wpAny_loadName_cell I.ok.kind hk hc hcell fin) hd
  ·exact wpAny_Name (wpAny_loadName_free I.ok.kind hk hc hcell fin hcd) hd
theorem h8 {i j pos}:PE X (.Constant (.int i) j pos) (tC (.int i)):=λ _ _ _ H _ I h=>wpAny_Constant_int ⟨.int i,H,I.tok _,⟨_,rfl⟩,h⟩
theorem b4N {b j pos}:PE X (.Constant (.bool b) j pos) (tC (.bl b)):=λ _ _ _ H _ I h=>Constant_bool ⟨.bl b,H,I,rfl,h⟩
theorem R0 {j pos}:PE X (.Constant .none j pos) (tC .non):=λ _ _ _ H _ I h=>Constant_none ⟨.non,H,I,rfl,h⟩
theorem R9 {x j pos}:PE X (.Constant (.str x) j pos) (tC (.str x)):=λ _ _ _ H _ I h=>Calls.Constant_str ⟨.str x,H,I.tok _,⟨_,rfl⟩,h⟩
def Gl (X:Cx) (x:Str):Prop:=X.env.kindOf x=some .globalImplicit
theorem a1D {E:Value->Shared->Prop} {pins:List (Addr×Obj)} {s:Shared} {σ:St} {H:Hp} {x:Str} {u:Value} {pos:Pos} {Q:Value->Shared->Prop} (I:Inv X pins σ H s) (hg:Gl X x) (hm:X.mg x=some u) (h:Q u s)
  (hd:(x==("__debug__":Str))=false:=by decide):wpAny (model X.prog X.w) X.A (eval (.Name x pos) X.env) Q E s :=
 Calls.Name_function_global I.ok.kind hg (Calls.loadGlobal_global (by rw [I.ok.glob]; exact I.mod.glob.keeps I.bk) hm h) hd
theorem S5 {E:Value->Shared->Prop} {pins:List (Addr×Obj)} {s:Shared} {σ:St} {H:Hp} {x:Str} {u:Value} {pos:Pos} {Q:Value->Shared->Prop} (I:Inv X pins σ H s) (hg:Gl X x) (hm:X.mg x=none) (hv:bootBuiltins x=some u) (h:Q u s)
  (hn:x≠"__name__":=by decide) (hd:(x==("__debug__":Str))=false:=by decide):wpAny (model X.prog X.w) X.A (eval (.Name x pos) X.env) Q E s:=by
 obtain ⟨mb,h1,h2⟩:=I.mod.blt;exact Calls.Name_function_global I.ok.kind hg (Calls.loadGlobal_builtin (by rw [I.ok.glob]; exact I.mod.glob.keeps I.bk) hm (by rw [I.ok.blt]; exact h1.keeps I.bk) ((h2 x hn).trans hv) h) hd
theorem a1q {x:Str} {v:V} {u:Value} {pos:Pos} (hg:Gl X x) (hm:X.mg x=some u) (r:RelV v u) (hd:(x==("__debug__":Str))=false:=by decide):PE X (.Name x pos) (tC v) :=
 λ _ _ _ H _ I h=>a1D I hg hm ⟨v,H,I,r,h⟩ hd
variable {a b:Expr} {ta tb:TE} {pos:Pos}
def tB (t:TE):TT:=λ σ H Q=>t σ H λ x H1=>∃ c,x=.bl c/\Q c H1
theorem a2l {e:Expr} {t:TE} (h:PE X e t) (he:∀ whole,isTrue e X.env whole=(do let v <- whole; standAt e.pos; holding [v] (truthy v)):=by intro _; rfl):PT X e (tB t):=by
 intro pins s σ H Q I hw;refine isTrue_plain (B6 (h pins s σ H _ I hw) λ v s1 ⟨x,H1,I1,r1,q1⟩=>?_) (he _);obtain ⟨d,rfl,q⟩:=q1
 cases r1;exact wpAny_truthy_bool ⟨H1,I1,q⟩
variable {tA tB':TT} {rest:List Expr}
def b6d (t u:TT):TT:=λ σ H Q=>t σ H λ c H1=>if c=true then u σ H1 Q else Q false H1
def tOr (t u:TT):TT:=λ σ H Q=>t σ H λ c H1=>if c=true then Q true H1 else u σ H1 Q
def b5W (t:TT):TT:=λ σ H Q=>t σ H λ c H1=>Q (!c) H1
theorem a1p (ha:PT X a tA):PW X (.BoolOp .And [a] pos) tA:=by
 intro wh pins s σ H Q I h;refine isTrue_and (B6 (ha pins s σ H Q I h) λ c s1 e=>?_)
 cases c with
 | true=>exact isTrue_and_nil e
 | false=>exact e
theorem a6a (ha:PT X a tA):PW X (.BoolOp .Or [a] pos) tA:=by
 intro wh pins s σ H Q I h;refine isTrue_or (B6 (ha pins s σ H Q I h) λ c s1 e=>?_)
 cases c with
 | false=>exact isTrue_or_nil e
 | true=>exact e
theorem a3Z (ha:PT X a tA) (hb:PW X (.BoolOp .And (b::rest) pos) tB'):PW X (.BoolOp .And (a::b::rest) pos) (b6d tA tB'):=by
 intro wh pins s σ H Q I h;refine isTrue_and (B6 (ha pins s σ H _ I h) λ c s1 ⟨H1,I1,q1⟩=>?_)
 cases c with
 | true=>exact hb wh pins s1 σ H1 Q I1 q1
 | false=>exact ⟨H1,I1,q1⟩
theorem a9B (ha:PT X a tA) (hb:PW X (.BoolOp .Or (b::rest) pos) tB'):PW X (.BoolOp .Or (a::b::rest) pos) (tOr tA tB'):=by
 intro wh pins s σ H Q I h;refine isTrue_or (B6 (ha pins s σ H _ I h) λ c s1 ⟨H1,I1,q1⟩=>?_)
 cases c with
 | true=>exact ⟨H1,I1,q1⟩
 | false=>exact hb wh pins s1 σ H1 Q I1 q1
theorem a1Z (ha:PT X a tA):PT X (.UnaryOp .Not a pos) (b5W tA):=by
 intro pins s σ H Q I h;exact isTrue_not (ha pins s σ H (λ c H1=>Q (!c) H1) I h)
def b4s (ta tb:TE):TE:=λ σ H Q=>ta σ H λ x H1=>∃ c,x=.bl c/\if c=true then tb σ H1 Q else Q (.bl false) H1
theorem b3c {op} {t:TE} (h:PE X a t):PE X (.BoolOp op [a] pos) t:=λ pins s σ H Q I hw=>BoolOp_one (h pins s σ H Q I hw)
theorem b2O (ha:PE X a ta) (hb:PE X (.BoolOp .And (b::rest) pos) tb):PE X (.BoolOp .And (a::b::rest) pos) (b4s ta tb):=by
 intro pins s σ H Q I h;refine BoolOp_and (B6 (ha pins s σ H _ I h) λ v s1 ⟨x,H1,I1,r1,q1⟩=>?_);obtain ⟨c,rfl,q1⟩:=q1
 cases r1;refine wpAny_truthy_bool ?_
 cases c with
 | true=>exact hb pins s1 σ H1 Q I1 q1
 | false=>exact ⟨.bl false,H1,I1,rfl,q1⟩
def tIf (t:TT) (ta tb:TE):TE:=λ σ H Q=>t σ H λ c H1=>if c=true then ta σ H1 Q else tb σ H1 Q
theorem a9K {c:Expr} (hc:PT X c tA) (ha:PE X a ta) (hb:PE X b tb):PE X (.IfExp c a b pos) (tIf tA ta tb):=by
 intro pins s σ H Q I h;refine wpAny_IfExp (B6 (hc pins s σ H _ I h) λ d s1 ⟨H1,I1,q1⟩=>?_)
 cases d with
 | true=>exact ha pins s1 σ H1 Q I1 q1
 | false=>exact hb pins s1 σ H1 Q I1 q1
end
def SqL (K:W.Frag) (H:Hp) (a:Addr) (xs:List V):Prop :=
 Rd H a (.lst xs) ∨
  ∃ (o:Obj) (its:Array Value) (n:Nat),K.lookup a=some o/\o.cls=.type "list"/\o.dict=none/\o.data=.seq its n/\its.size<=sizeLine/\Vals xs its.toList
def SqT (K:W.Frag) (H:Hp) (a:Addr) (xs:List V):Prop :=
 Rd H a (.tup xs) ∨
  ∃ (o:Obj) (its:Array Value) (n:Nat),K.lookup a=some o/\o.cls=.type "tuple"/\o.data=.seq its n/\its.size<=sizeLine/\Vals xs its.toList
def b5I:Value->Option V
 | .none=>some .non
 | .bool b=>some (.bl b)
 | .int i _=>some (.int i)
 | .str x _=>some (.str x)
 | .bytes b _=>some (.byt b)
 | .float b _=>some (.flt b)
 | .ref a=>some (.ref a)
 | .type n=>some (.ty n)
 | _=>none
theorem RelV.abs {x:V} {u:Value} (r:RelV x u):b5I u=some x:=by
 cases x with
 | non=>cases r; rfl
 | bl _=>cases r; rfl
 | int _=>obtain ⟨t,rfl⟩:=r; rfl
 | str _=>obtain ⟨t,rfl⟩:=r; rfl
 | byt _=>obtain ⟨t,rfl⟩:=r; rfl
 | flt _=>obtain ⟨t,rfl⟩:=r; rfl
 | ref _=>cases r; rfl
 | ty _=>cases r; rfl
theorem RelV.inj {x y:V} {u:Value} (r:RelV x u) (q:RelV y u):x=y:=aM (r.abs.symm.trans q.abs)
theorem Vals.inj:∀ {xs ys:List V} {us:List Value},Vals xs us->Vals ys us->xs=ys
 | _,_,_,.nil,.nil=>rfl
 | _,_,_,.cons r t,.cons r' t'=>by rw [r.inj r',Vals.inj t t']
section
variable {X:Cx} {pins:List (Addr×Obj)} {σ:St} {H:Hp} {s:Shared} {a:Addr} {xs ys:List V}
theorem SqL.of {K:W.Frag} (h:H a=some (.lst xs)):SqL K H a xs:=.inl (.inl h)
theorem SqT.of {K:W.Frag} (h:H a=some (.tup xs)):SqT K H a xs:=.inl (.inl h)
theorem Inv.list (I:Inv X pins σ H s) (h:SqL X.K H a xs):∃ its:List Value,Vals xs its/\PlainL s.heap a its.toArray/\xs.length<=sizeLine:=by
 rcases h with h | ⟨o,its,n,hk,hc,hd,hs,hz,r⟩
 ·obtain ⟨z,its,n,r,e⟩:=h.ok I.hok
  exact ⟨its,r,⟨_,n,e,rfl,rfl,rfl⟩,z⟩
 ·refine ⟨its.toList,r,⟨o,n,I.kIn a o hk,hc,hd,by simpa using hs⟩,?_⟩
  have e:=r.length;simp only [eO] at e;omega
theorem Inv.tuple (I:Inv X pins σ H s) (h:SqT X.K H a xs):∃ its:List Value,Vals xs its/\IsTup s.heap a its.toArray/\xs.length<=sizeLine:=by
 rcases h with h | ⟨o,its,n,hk,hc,hs,hz,r⟩
 ·obtain ⟨z,its,r,p⟩:=h.ok I.hok
  exact ⟨its,r,p,z⟩
 ·refine ⟨its.toList,r,⟨o,I.kIn a o hk,hc,n,by simpa using hs⟩,?_⟩
  have e:=r.length;simp only [eO] at e;omega
theorem Inv.list_inj (I:Inv X pins σ H s) (h:SqL X.K H a xs) (h':SqL X.K H a ys):xs=ys:=by
 obtain ⟨its,r,⟨o,n,e,_,_,d⟩,_⟩:=I.list h;obtain ⟨its',r',⟨o',n',e',_,_,d'⟩,_⟩:=I.list h';rw [e] at e'; cases e';rw [d] at d';injection d' with d1 _
 have:its=its':=by simpa using congrArg jW d1
 subst this;exact r.inj r'
theorem Inv.tuple_inj (I:Inv X pins σ H s) (h:SqT X.K H a xs) (h':SqT X.K H a ys):xs=ys:=by
 obtain ⟨its,r,⟨o,e,_,n,d⟩,_⟩:=I.tuple h;obtain ⟨its',r',⟨o',e',_,n',d'⟩,_⟩:=I.tuple h';rw [e] at e'; cases e';rw [d] at d';injection d' with d1 _
 have:its=its':=by simpa using congrArg jW d1
 subst this;exact r.inj r'
end
abbrev Cx.wish (X:Cx) (E:Value->Shared->Prop):Cx:={ X with xe:=E }
abbrev Cx.nox (X:Cx):Cx:=X.wish λ _ _=>False
theorem Cx.Ok.wish {X:Cx} (ok:X.Ok) (E:Value->Shared->Prop):(X.wish E).Ok :=
 ⟨ok.mod,ok.kind,ok.glob,ok.blt,ok.above,ok.inj,ok.has,ok.cab,ok.hd,ok.frames,ok.stk,ok.exf,ok.bs,ok.bsz,ok.noex,ok.exfs,ok.funs,ok.frf⟩
theorem Cx.Ok.unwish {X:Cx} {E:Value->Shared->Prop} (ok:(X.wish E).Ok):X.Ok :=
 ⟨ok.mod,ok.kind,ok.glob,ok.blt,ok.above,ok.inj,ok.has,ok.cab,ok.hd,ok.frames,ok.stk,ok.exf,ok.bs,ok.bsz,ok.noex,ok.exfs,ok.funs,ok.frf⟩
section
variable {X:Cx} {pins:List (Addr×Obj)} {σ:St} {H:Hp} {s:Shared} {E:Value->Shared->Prop}
theorem Inv.wish (I:Inv X pins σ H s) (E:Value->Shared->Prop):Inv (X.wish E) pins σ H s:=⟨I.ok.wish E,I.os,I.bare,I.base,I.loc,I.cell,I.free,I.freeC,I.pin,I.hok,I.len⟩
theorem Inv.unwish (I:Inv (X.wish E) pins σ H s):Inv X pins σ H s:=⟨I.ok.unwish,I.os,I.bare,I.base,I.loc,I.cell,I.free,I.freeC,I.pin,I.hok,I.len⟩
theorem SP.unwish {D:Ends} {f:Flow} {s':Shared} (h:SP (X.wish E) pins D f s'):SP X pins D f s':=by
 cases f with
 | next=>obtain ⟨σ',H',I,q⟩:=h; exact ⟨σ',H',I.unwish,q⟩
 | brk=>obtain ⟨σ',H',I,q⟩:=h; exact ⟨σ',H',I.unwish,q⟩
 | cont=>obtain ⟨σ',H',I,q⟩:=h; exact ⟨σ',H',I.unwish,q⟩
 | ret u=>obtain ⟨v,σ',H',I,r,q⟩:=h; exact ⟨v,σ',H',I.unwish,r,q⟩
theorem PSs.nox {st:List Stmt} {t:TS} (h:PSs X.nox st t):PSs X st t:=λ pins s σ H D I hw =>
 wpAny_mono (h pins s σ H D (I.wish _) hw) (λ _ _ q=>q.unwish) λ _ _ z=>dB z
end
section
variable {X:Cx} {st:Stmt} {rest:List Stmt} {t u:TS} {e:Expr} {te:TE} {pos:Pos}
def b4t:TS:=λ D σ H=>D.nx σ H
def b6a (t u:TS):TS:=λ D σ H=>t { D with nx:=u D } σ H
theorem y6:PSs X [] b4t:=λ _ _ σ H _ I h=>wpAny_execs_nil ⟨σ,H,I,h⟩
theorem j0 (h1:PS X st t) (h2:PSs X rest u):PSs X (st::rest) (b6a t u):=by
 intro pins s σ H D I h;refine wpAny_execs_cons (B6 (h1 pins s σ H { D with nx:=u D } I h) λ f s1 q=>?_)
 cases f with
 | next =>
  obtain ⟨σ',H',I',q⟩:=q;exact h2 pins s1 σ' H' D I' q
 | ret v=>exact q
 | brk=>exact q
 | cont=>exact q
theorem j8 (h1:PS X st t):PSs X [st] t:=by
 intro pins s σ H D I h;refine wpAny_execs_cons (B6 (h1 pins s σ H D I h) λ f s1 q=>?_)
 cases f with
 | next=>exact wpAny_execs_nil q
 | ret v=>exact q
 | brk=>exact q
 | cont=>exact q
theorem Inv.quiet {pins:List (Addr×Obj)} {σ:St} {H:Hp} {s:Shared} (I:Inv X pins σ H s):interactive X.env=false:=by simp [interactive,I.ok.kind]
def b4u (te:TE):TS:=λ D σ H=>te σ H λ _ H1=>D.nx σ H1
theorem a0l (he:PE X e te) (hs:swapsWith e none pos.line X.env=pure false:=by rfl):PS X (.Expr e pos) (b4u te):=by
 intro pins s σ H D I h;exact wpAny_Expr_any (B6 (he pins s σ H _ I h) λ v s1 ⟨x,H1,I1,r1,q1⟩=>⟨σ,H1,I1,q1⟩) I.quiet hs
def b6b (te:TE):TS:=λ D σ H=>te σ H D.rt
theorem v5 (he:PE X e te):PS X (.Return (some e) pos) (b6b te):=by
 intro pins s σ H D I h;exact wpAny_Return_some (B6 (he pins s σ H _ I h) λ v s1 ⟨x,H1,I1,r1,q1⟩=>⟨x,σ,H1,I1,r1,q1⟩)
def b5U (c:TT) (t u:TS):TS:=λ D σ H=>c σ H λ b H1=>if b=true then t D σ H1 else u D σ H1
theorem E2 {c:Expr} {a b:List Stmt} {tc:TT} (hc:PT X c tc) (ha:PSs X a t) (hb:PSs X b u):PS X (.If c a b pos) (b5U tc t u):=by
 intro pins s σ H D I h;refine wpAny_If (B6 (hc pins s σ H _ I h) λ d s1 ⟨H1,I1,q1⟩=>?_)
 cases d with
 | true=>exact ha pins s1 σ H1 D I1 q1
 | false=>exact hb pins s1 σ H1 D I1 q1
def b2Z:TS:=λ _ _ _=>False
theorem a3g {sts:List Stmt}:PSs X sts b2Z:=λ _ _ _ _ _ _ h=>h.elim
end
abbrev TG:=V->St->Hp->(St->Hp->Prop)->Prop
abbrev TGs:=List V->St->Hp->(St->Hp->Prop)->Prop
def PG (X:Cx) (target:Expr) (t:TG):Prop :=
 ∀ (pins:List (Addr×Obj)) (s:Shared) (σ:St) (H:Hp) (v:V) (u:Value) (Q:St->Hp->Prop),Inv X pins σ H s->RelV v u->t v σ H Q →
  wpAny (model X.prog X.w) X.A (assign target X.env u) (λ _ s'=>∃ σ' H',Inv X pins σ' H' s'/\Q σ' H') X.xe s
def PGs (X:Cx) (ts:List Expr) (t:TGs):Prop :=
 ∀ (pins:List (Addr×Obj)) (s:Shared) (σ:St) (H:Hp) (vs:List V) (us:List Value) (Q:St->Hp->Prop),Inv X pins σ H s->Vals vs us->t vs σ H Q →
  wpAny (model X.prog X.w) X.A (assignInOrder ((assignEach ts X.env).map (·.2)) us) (λ _ s'=>∃ σ' H',Inv X pins σ' H' s'/\Q σ' H') X.xe s
abbrev b3v:=V->V->V->Hp->(Hp->Prop)->Prop
def b4f (X:Cx) (t:b3v):Prop :=
 ∀ (pins:List (Addr×Obj)) (s:Shared) (σ:St) (H:Hp) (o i v:V) (ov iv u:Value) (Q:Hp->Prop),Inv X pins σ H s->RelV o ov->RelV i iv->RelV v u->t o i v H Q →
  wpAny (model X.prog X.w) X.A (setItem ov iv u) (λ _ s'=>∃ H',Inv X pins σ H' s'/\Q H') X.xe s
section
variable {X:Cx} {pos:Pos}
def K5 (i:Nat):TG:=λ v σ H Q=>Q (σ.set i (some v)) H
theorem j3 {i:Nat} {x:Str} (hN:X.N.Nodup) (hi:X.N[i]?=some x) (hx:Loc X.env.scope x) (hf:X.fn x=true\/X.env.scope.names.lookup x=some .local:=by first | exact .inl rfl | exact .inr rfl | assumption):PG X (.Name x pos) (K5 i):=by
 intro pins s σ H v u Q I r h;exact wpAny_assign_Name (a0q I hN hi hx r (λ s' I'=>⟨_,H,I',h⟩) hf)
def a9X:TGs:=λ vs σ H Q=>vs=[]/\Q σ H
def a0i (t:TG) (u:TGs):TGs:=λ vs σ H Q=>∃ v r,vs=v::r/\t v σ H λ σ' H'=>u r σ' H' Q
theorem x9:PGs X [] a9X:=by
 intro pins s σ H vs us Q I r h;obtain ⟨e,h⟩:=h;subst e
 cases r;exact assignInOrder_nil ⟨σ,H,I,h⟩
theorem j7 {e:Expr} {es:List Expr} {t:TG} {u:TGs} (h1:PG X e t) (h2:PGs X es u)
  (hs:(assignEach (e::es) X.env).map (·.2)=assign e X.env::(assignEach es X.env).map (·.2):=by rfl):PGs X (e::es) (a0i t u):=by
 intro pins s σ H vs us Q I r h;obtain ⟨v,vr,e1,h⟩:=h;subst e1
 cases r with
 | cons r rr =>
  rw [hs];refine assignInOrder_cons (B6 (h1 pins s σ H _ _ _ I r h) λ _ s1 ⟨σ1,H1,I1,q1⟩=>?_);exact h2 pins s1 σ1 H1 _ _ Q I1 rr q1
def a8d (K:W.Frag) (n:Nat) (t:TGs):TG:=λ v σ H Q=>∃ a xs,v=.ref a/\SqT K H a xs/\xs.length=n/\t xs σ H Q
theorem O2 {es:List Expr} {k:Nat} {t:TGs} {n:Nat} (hc:X.calm=true) (h:PGs X es t)
  (hn:(assignEach es X.env).length=n:=by rfl) (hst:(assignEach es X.env).findIdx? (·.1)=none:=by rfl):PG X (.Tuple es k pos) (a8d X.K n t):=by
 intro pins s σ H v u Q I r hw;obtain ⟨a,xs,e1,hq,hl,hw⟩:=hw;subst e1
 cases r;obtain ⟨its,rv,ht,hz⟩:=I.tuple hq;refine assign_Tuple_tuple (I.ok.hd hc) ht (by simp [hn,<- hl,rv.length]) hst λ h' hx=>?_;have I1:Inv X pins σ H { s with heap:=h' }:=I.kept (t':=s.toks) λ b o e=>hx b o (bD (Heap.lt_size e)) e;exact h pins _ σ H xs _ Q I1 (by simpa using rv) hw
def b5z (to ti:TE) (t:b3v):TG:=λ v σ H Q=>to σ H λ o H1=>ti σ H1 λ i H2=>t o i v H2 λ H3=>Q σ H3
theorem P0 {o i:Expr} {to ti:TE} {t:b3v} (ho:PE X o to) (hi:PE X i ti) (hs:b4f X t)
  (ha:∀ v,assign (.Subscript o i pos) X.env v=(do
   let ov <- holding [v] (eval o X.env)
   let iv <- holding [v,ov] (eval i X.env)
   standAt pos
   holding [v,ov,iv] (setItem ov iv v)
   release [v,ov,iv] []):=by intro _; rfl):PG X (.Subscript o i pos) (b5z to ti t):=by
 intro pins s σ H v u Q I r h;rw [ha];refine wpAny_bind (wpAny_holding (B6 (ho pins s σ H _ I h) λ ov s1 ⟨x,H1,I1,r1,q1⟩=>?_));refine wpAny_bind (wpAny_holding (B6 (hi pins s1 σ H1 _ I1 q1) λ iv s2 ⟨y,H2,I2,r2,q2⟩=>?_));refine wpAny_bind (wpAny_standAt (wpAny_bind (wpAny_holding (B6 (hs pins s2 σ H2 x y v ov iv u _ I2 r1 r2 r q2) λ _ s3 ⟨H3,I3,q3⟩=>?_))));exact wpAny_release ⟨σ,H3,I3,q3⟩
def a4K (te:TE) (g:TG):TS:=λ D σ H=>te σ H λ x H1=>g x σ H1 D.nx
theorem E4 {tg e:Expr} {te:TE} {g:TG} (he:PE X e te) (hg:PG X tg g) (hs:swapsWithSole [tg] e pos.line X.env=pure false:=by rfl) (hw:swappedStores [tg] e X.env=pure none:=by rfl)
  (h1:(assignEach [tg] X.env).map (·.2)=[assign tg X.env]:=by rfl):PS X (.Assign [tg] e pos) (a4K te g):=by
 intro pins s σ H D I h;refine wpAny_Assign_stores (B6 (he pins s σ H _ I h) λ v s1 ⟨x,H1,I1,r1,q1⟩=>?_) hs hw;rw [h1];exact B6 (hg pins s1 σ H1 x v _ I1 r1 q1) λ _ s2 q=>q
theorem p6 {i:Nat} {x:Str} {e:Expr} {te:TE} {pos':Pos} (hN:X.N.Nodup) (hi:X.N[i]?=some x) (hx:Loc X.env.scope x) (he:PE X e te) (hs:swapsWith e (some (.Name x pos')) pos.line X.env=pure false:=by rfl) (hf:X.fn x=true\/X.env.scope.names.lookup x=some .local:=by first | exact .inl rfl | exact .inr rfl | assumption) :
  PS X (.Assign [.Name x pos'] e pos) (a4K te (K5 i)):=by
 intro pins s σ H D I h;refine wpAny_Assign_Name (B6 (he pins s σ H _ I h) λ v s1 ⟨y,H1,I1,r1,q1⟩=>?_) hs;exact a0q I1 hN hi hx r1 (λ s2 I2=>⟨_,H1,I2,q1⟩) hf
def b5Q (i j:Nat) (ta:TA):TS:=λ D σ H=>ta σ H λ vs H1=>∃ v w,vs=[v,w]/\D.nx ((σ.set i (some v)).set j (some w)) H1
theorem b3f {i j:Nat} {x y:Str} {a b:Expr} {ta:TA} {px py pt:Pos} {kt k2 pt2} (hc:X.calm=true) (hN:X.N.Nodup) (hi:X.N[i]?=some x) (hj:X.N[j]?=some y) (hij:i≠j)
  (hx:X.env.scope.names.lookup x=some .local) (hy:X.env.scope.names.lookup y=some .local) (ha:PA X [a,b] ta)
  (hw:swappedStores [.Tuple [.Name x px,.Name y py] kt pt] (.Tuple [a,b] k2 pt2) X.env=pure (some [x,y]))
  (hs:swapsWithSole [.Tuple [.Name x px,.Name y py] kt pt] (.Tuple [a,b] k2 pt2) pos.line X.env=pure false:=by rfl) :
  PS X (.Assign [.Tuple [.Name x px,.Name y py] kt pt] (.Tuple [a,b] k2 pt2) pos) (b5Q i j ta):=by
 intro pins s σ H D I h;rw [exec_Assign_arm];refine wpAny_bind (wpAny_standAt ?_);rw [hs];refine wpAny_bind (wpAny_pure ?_);rw [if_neg (by decide)];refine wpAny_bind (Tuple_ (B6 (ha _ pins s σ H _ I h) λ us s1 ⟨vs,H1,I1,r1,q1⟩=>?_));obtain ⟨v,w,e1,q1⟩:=q1;subst e1;obtain ⟨u1,u2,rfl,rv,rw'⟩:∃ u1 u2,us=[u1,u2]/\RelV v u1/\RelV w u2:=by
  cases r1 with
  | cons p q =>
   cases q with
   | cons p' q' =>
    cases q';exact ⟨_,_,rfl,p,p'⟩
 refine wpAny_newObj_type ?_ (by show 2<=sizeLine; decide);have I2:Inv X pins σ H1 { s1 with heap:=s1.heap.push { cls:=.type "tuple",data:=.seq [u1,u2].toArray } }:=I1.kept (t':=s1.toks) λ b o e=>Heap.get?_push_of_some _ e;rw [hw];refine wpAny_bind (wpAny_pure ?_)
 show wpAny (model X.prog X.w) X.A (do rule "assign.swapped-stores"; let items <- unpackItems (.ref s1.heap.objs.size) 2 none; assignInOrder [λ v=>bindName X.env y v,λ v=>bindName X.env x v] items.reverse; pure Flow.next) _ _ _
 refine wpAny_bind (wpAny_rule (wpAny_bind (unpackItems_tuple (items:=#[u1,u2]) (I.ok.hd hc) (IsTup.new s1.heap _) λ h' hx'=>?_)));have I3:=I2.kept (h':=h') (t':=s1.toks) λ b o e=>hx' b o (bD (Heap.lt_size e)) e
 show wpAny _ _ (assignInOrder [λ v=>bindName X.env y v,λ v=>bindName X.env x v] [u2,u1] >>= λ _=>pure Flow.next) _ _ _
 refine wpAny_bind (assignInOrder_cons (wpAny_bindName (a0q I3 hN hj (.inl hy) rw' (λ s2 I4=>?_) (.inr hy))));refine assignInOrder_cons (wpAny_bindName (a0q I4 hN hi (.inl hx) rv (λ s3 I5=>assignInOrder_nil (wpAny_pure ?_)) (.inr hx)));rw [fO _ _ (aO hij)] at I5;exact ⟨_,H1,I5,q1⟩
end
section
variable {X:Cx} {pos:Pos}
def a9P (c:TT) (tb:TS):TS:=λ D σ H=>∃ W:Nat->St->Hp->Prop,(∃ m,W m σ H)/\∀ m σ H,W m σ H →
 c σ H λ b H1=>if b=true then ∃ N:St->Hp->Prop,(∀ σ' H',N σ' H'->∃ m',m'<m/\W m' σ' H')/\tb { D with nx:=N,ct:=N,bk:=D.nx } σ H1 else D.nx σ H1
theorem a5k {c:Expr} {body:List Stmt} {tc:TT} {tb:TS} (hp:PassesOwn (model X.prog X.w) X.A X.env X.xe) (hc:PT X c tc) (hb:PSs X body tb):PS X (.While c body [] pos) (a9P tc tb):=by
 intro pins s σ H D I h;obtain ⟨W,⟨m0,w0⟩,turn⟩:=h;refine wpAny_While (codeAny_whileLoop (λ n s'=>∃ σ' H',Inv X pins σ' H' s'/\W n σ' H') ?_ m0 ⟨σ,H,I,w0⟩);rintro n s1 ⟨σ1,H1,I1,w1⟩;refine wpAny_passesOwn hp (B6 (hc pins s1 σ1 H1 _ I1 (turn n σ1 H1 w1)) λ b s2 ⟨H2,I2,q2⟩=>?_)
 cases b with
 | true =>
  obtain ⟨N,hN,q2⟩:=q2;rw [if_pos rfl];refine wpAny_passesOwn hp (B6 (hb pins s2 σ1 H2 _ I2 q2) λ f s3 q3=>?_)
  cases f with
  | next =>
   obtain ⟨σ3,H3,I3,n3⟩:=q3;obtain ⟨m',hm,w3⟩:=hN σ3 H3 n3;exact ⟨m',hm,σ3,H3,I3,w3⟩
  | cont =>
   obtain ⟨σ3,H3,I3,n3⟩:=q3;obtain ⟨m',hm,w3⟩:=hN σ3 H3 n3;exact ⟨m',hm,σ3,H3,I3,w3⟩
  | brk=>exact q3
  | ret v=>exact q3
 | false =>
  rw [if_neg bK];exact wpAny_execs_nil ⟨σ1,H2,I2,q2⟩
end
structure It where
 go:Nat->Hp->Prop
 yld:Nat->Hp->V->Hp->Prop
 stop:Nat->Hp->Prop
def Q7 (X:Cx) (pins:List (Addr×Obj)) (H:Hp) (b:Addr):Prop :=
 H b=none/\b≠X.env.locals/\b ∉ X.fs/\(b∈X.ex\/X.s₀.heap.objs.size<=b)/\(∀ x c,X.env.cells.lookup x=some c->c≠b)/\∀ p∈X.pn++pins,p.1≠b
theorem Inv.fpOk {X:Cx} {pins:List (Addr×Obj)} {σ:St} {H H':Hp} {s:Shared} {b:Addr} (I:Inv X pins σ H s) (hb:s.heap.objs.size<=b) (hn:H' b=none):Q7 X pins H' b:=by
 refine ⟨hn,cU (aZ I.lt hb),I.nofs hb,.inr (bA I.sz hb),λ x c e z=>?_,λ p hp z=>?_⟩
 ·obtain ⟨v,q⟩:=I.cell x c e
  exact absurd (aZ q.lt (by rw [z]; exact hb)) (bR _)
 ·exact absurd (aZ (Heap.lt_size (I.pin p hp).1) (by rw [z]; exact hb)) (bR _)
structure a5F (P:Program) (w:World) (K:W.Frag) (tg:Expr) (J:It) (fp:List Addr) (it:Addr) (tn:Nat->Heap->Prop):Prop where
 mem:it∈fp
 obj:∀ i h,tn i h->∀ b∈fp,∃ o,h.get? b=some o/\∀ v,o.data≠.cell v
 keep:∀ i h h',tn i h->(∀ b∈fp,∀ o,h.get? b=some o->h'.get? b=some o)->tn i h'
 item:∀ (X:Cx),X.prog=P->X.w=w->X.K=K->X.calm=true->∀ (i:Nat) (pins:List (Addr×Obj)) (s:Shared) (σ:St) (H:Hp) (E:Value->Shared->Prop),Inv X pins σ H s->(∀ b∈fp,Q7 X pins H b)->tn i s.heap->J.go i H →
  wpAny (model P w) X.A (pyNext (.ref it)) (λ r s1=>∃ u,r=some u ∧
   wpAny (model P w) X.A (letOwnedTupleGo tg (.ref it) u) (λ _ s2=>∃ x H',Inv X pins σ H' s2/\RelV x u/\J.yld i H x H'/\tn (i+1) s2.heap/\∀ b∈fp,H' b=none) E s1) E s
 done:∀ (X:Cx),X.prog=P->X.w=w->X.K=K->X.calm=true->∀ (i:Nat) (pins:List (Addr×Obj)) (s:Shared) (σ:St) (H:Hp) (E:Value->Shared->Prop),Inv X pins σ H s->(∀ b∈fp,Q7 X pins H b)->tn i s.heap->J.stop i H →
  wpAny (model P w) X.A (pyNext (.ref it)) (λ r s1=>r=none/\Inv X pins σ H s1) E s
 self:∀ (A:Around) (i:Nat) (s:Shared) (Q:Value->Shared->Prop) (E:Value->Shared->Prop),tn i s.heap->Q (.ref it) s->wpAny (model P w) A (pyIter (.ref it)) Q E s
abbrev TI:=St->Hp->(It->Hp->Prop)->Prop
def PIE (X:Cx) (pins:List (Addr×Obj)) (σ:St) (tg:Expr) (R:It->Hp->Prop) (itv:Value) (s2:Shared):Prop :=
 ∃ (it:Addr) (fp:List Addr) (tn:Nat->Heap->Prop) (J:It) (H':Hp),itv=.ref it/\Inv X pins σ H' s2/\a5F X.prog X.w X.K tg J fp it tn/\tn 0 s2.heap/\(∀ b∈fp,Q7 X pins H' b)/\R J H'
def PI (X:Cx) (tg iter:Expr) (wi:TI):Prop :=
 ∀ (pins:List (Addr×Obj)) (s:Shared) (σ:St) (H:Hp) (R:It->Hp->Prop),Inv X pins σ H s->wi σ H R →
  wpAny (model X.prog X.w) X.A (eval iter X.env) (λ v s1=>wpAny (model X.prog X.w) X.A (pyIter v) (PIE X pins σ tg R) X.xe s1) X.xe s
theorem a8V {M:Model} {A:Around} {E:Value->Shared->Prop} {s:Shared} {tg:Expr} {it:Addr} {u:Value} {o:Obj} {n:String} {vs:Array Value} {Q:Unit->Shared->Prop} (ho:s.heap.get? it=some o) (hc:o.cls=.type n) (hd:o.data=.fields vs)
    (hn:["enumerate","zip","dict_itemiterator","dict_reverseitemiterator","odict_iterator","itertools.zip_longest","itertools.pairwise"].contains n=false) (hQ:Q () s):wpAny M A (letOwnedTupleGo tg (.ref it) u) Q E s:=by
  unfold letOwnedTupleGo
  cases tg <;> first
    | exact wpAny_pure hQ
    | (cases u <;> first
        | exact wpAny_pure hQ
        | (refine wpAny_bind (wpAny_load ho ?_)
           rw [hc,hd]
           show wpAny M A (if (["enumerate","zip","dict_itemiterator","dict_reverseitemiterator","odict_iterator","itertools.zip_longest","itertools.pairwise"].contains n&&vs[0]?==some (rawInt _))=true then _ else _) Q E s
           rw [if_neg (by intro h; rw [hn,Bool.false_and] at h; cases h)];exact wpAny_pure hQ))
def Itl (K:W.Frag) (a:Addr):It :=
 ⟨λ i H=>∃ xs x,SqL K H a xs/\xs[i]?=some x,λ i H x H'=>H'=H/\∀ xs,SqL K H a xs->xs[i]?=some x,λ i H=>∃ xs,SqL K H a xs/\xs.length<=i⟩
def Itt (K:W.Frag) (a:Addr):It :=
 ⟨λ i H=>∃ xs x,SqT K H a xs/\xs[i]?=some x,λ i H x H'=>H'=H/\∀ xs,SqT K H a xs->xs[i]?=some x,λ i H=>∃ xs,SqT K H a xs/\xs.length<=i⟩
def Itr (lo:Int) (n:Nat):It:=⟨λ i _=>i<n,λ i H x H'=>H'=H/\x=.int (lo+i),λ i _=>n<=i⟩
theorem a8j {P:Program} {w:World} {K:W.Frag} {tg:Expr} (a it:Addr):a5F P w K tg (Itl K a) [it] it (λ i h=>h.IsListIter it a i) where
 mem:=by simp
 obj:=λ i h st b hb=>by
  have e:b=it:=by simpa using hb
  subst e;obtain ⟨o,e,c,d⟩:=st;exact ⟨o,e,λ v z=>by rw [d] at z; cases z⟩
 keep:=λ i h h' st k=>st.at λ o e=>k it (by simp) o e
 item:=by
  intro X hP hw hK hc i pins s σ H E I hf st hg;subst hP hw hK;obtain ⟨xs,x,hq,hx⟩:=hg;obtain ⟨its,rv,p,hz⟩:=I.list hq;obtain ⟨u,hu,ru⟩:=rv.get hx;obtain ⟨f0,f1,f2,f3,f4,f5⟩:=hf it (by simp);refine wpAny_pyNext_list_item st p.isList (x:=u) (by simpa using hu) λ h' st' sb=>?_;have I1:Inv X pins σ H { s with heap:=h' }:=I.turned (t':=s.toks) (λ b o hb e=>(sb.2 b hb).trans e) f0 f1 f3 f4 f5;obtain ⟨o,e,c,d⟩:=id st';exact ⟨u,rfl,a8V (s:={ s with heap:=h' }) e c d (by decide) ⟨x,H,I1,ru,⟨rfl,λ ys hy=>by rw [I.list_inj hy hq]; exact hx⟩,st',λ b hb=>(hf b hb).1⟩⟩
 done:=by
  intro X hP hw hK hc i pins s σ H E I hf st hg;subst hP hw hK;obtain ⟨xs,hq,hx⟩:=hg;obtain ⟨its,rv,p,hz⟩:=I.list hq;obtain ⟨f0,f1,f2,f3,f4,f5⟩:=hf it (by simp);have hl:=rv.length;exact wpAny_pyNext_list_end (I.ok.hd hc) st p.isList (by simp; omega) λ h' eb=>⟨rfl,I.turned (t':=s.toks) (λ b o hb e=>eb b o hb e) f0 f1 f3 f4 f5⟩
 self:=λ _ _ _ _ _ st h=>wpAny_pyIter_listiter st h
theorem a5x {P:Program} {w:World} {K:W.Frag} {tg:Expr} (a it:Addr):a5F P w K tg (Itt K a) [it] it (λ i h=>h.IsTupleIter it a i) where
 mem:=by simp
 obj:=λ i h st b hb=>by
  have e:b=it:=by simpa using hb
  subst e;obtain ⟨o,e,c,d⟩:=st;exact ⟨o,e,λ v z=>by rw [d] at z; cases z⟩
 keep:=λ i h h' st k=>st.at λ o e=>k it (by simp) o e
 item:=by
  intro X hP hw hK hc i pins s σ H E I hf st hg;subst hP hw hK;obtain ⟨xs,x,hq,hx⟩:=hg;obtain ⟨its,rv,p,hz⟩:=I.tuple hq;obtain ⟨u,hu,ru⟩:=rv.get hx;obtain ⟨f0,f1,f2,f3,f4,f5⟩:=hf it (by simp);refine wpAny_pyNext_tuple_item st (show s.heap.IsTuple a its.toArray from p) (x:=u) (by simpa using hu) λ h' st' sb=>?_;have I1:Inv X pins σ H { s with heap:=h' }:=I.turned (t':=s.toks) (λ b o hb e=>(sb.2 b hb).trans e) f0 f1 f3 f4 f5;obtain ⟨o,e,c,d⟩:=id st';exact ⟨u,rfl,a8V (s:={ s with heap:=h' }) e c d (by decide) ⟨x,H,I1,ru,⟨rfl,λ ys hy=>by rw [I.tuple_inj hy hq]; exact hx⟩,st',λ b hb=>(hf b hb).1⟩⟩
 done:=by
  intro X hP hw hK hc i pins s σ H E I hf st hg;subst hP hw hK;obtain ⟨xs,hq,hx⟩:=hg;obtain ⟨its,rv,p,hz⟩:=I.tuple hq;obtain ⟨f0,f1,f2,f3,f4,f5⟩:=hf it (by simp);have hl:=rv.length;exact wpAny_pyNext_tuple_end (I.ok.hd hc) st (show s.heap.IsTuple a its.toArray from p) (by simp; omega) λ h' eb=>⟨rfl,I.turned (t':=s.toks) (λ b o hb e=>eb b o hb e) f0 f1 f3 f4 f5⟩
 self:=λ _ _ _ _ _ st h=>wpAny_pyIter_tupleiter st h
theorem a6e {P:Program} {w:World} {K:W.Frag} {tg:Expr} (it:Addr) (lo:Int) (n:Nat):a5F P w K tg (Itr lo n) [it] it (λ i h=>IsRangeIter h it (lo+(i:Nat)*1) ((n:Int) - (i:Nat)) 1) where
 mem:=by simp
 obj:=λ i h st b hb=>by
  have e:b=it:=by simpa using hb
  subst e;exact ⟨_,st,λ v z=>by
   have z':Data.fields _=Data.cell v:=z
   cases z'⟩
 keep:=λ i h h' st k=>k it (by simp) _ st
 item:=by
  intro X hP hw hK hc i pins s σ H E I hf st hg;subst hP hw hK;obtain ⟨f0,f1,f2,f3,f4,f5⟩:=hf it (by simp);have W:=Walks.range (prog:=X.prog) (w:=X.w) (I.ok.hd hc) it lo 1 n;refine W.item i s _ _ hg st λ v h' tk hv st' kk=>?_;obtain ⟨t,rfl⟩:=hv;have I1:Inv X pins σ H { s with heap:=h',toks:=tk }:=I.turned (λ b o hb e=>kk b o (by simpa using hb) e) f0 f1 f3 f4 f5;refine ⟨_,rfl,a8V (s:={ s with heap:=h',toks:=tk }) (n:="range_iterator") st' rfl rfl (by decide) ⟨.int (lo+i),H,I1,⟨t,?_⟩,⟨rfl,rfl⟩,st',λ b hb=>(hf b hb).1⟩⟩;rw [dD]
 done:=by
  intro X hP hw hK hc i pins s σ H E I hf st hg;subst hP hw hK;obtain ⟨f0,f1,f2,f3,f4,f5⟩:=hf it (by simp);exact wpAny_pyNext_range_end (I.ok.hd hc) st (by have:n<=i:=hg; omega) λ h' eb=>⟨rfl,I.turned (t':=s.toks) (λ b o hb e=>eb b o hb e) f0 f1 f3 f4 f5⟩
 self:=λ _ _ _ _ _ st h=>wpAny_pyIter_rangeiter st h
section
variable {X:Cx} {tg:Expr}
def b1N (K:W.Frag) (tl:TE):TI:=λ σ H R=>tl σ H λ x H1=>∃ a,x=.ref a/\(∃ xs,SqL K H1 a xs)/\R (Itl K a) H1
def b4x (K:W.Frag) (tl:TE):TI:=λ σ H R=>tl σ H λ x H1=>∃ a,x=.ref a/\(∃ xs,SqT K H1 a xs)/\R (Itt K a) H1
theorem w8 {l:Expr} {tl:TE} (hl:PE X l tl):PI X tg l (b1N X.K tl):=by
 intro pins s σ H R I h;refine B6 (hl pins s σ H _ I h) λ v s1 ⟨x,H1,I1,r1,q1⟩=>?_;obtain ⟨a,e,⟨xs,hq⟩,q⟩:=q1;subst e
 cases r1;obtain ⟨its,rv,p,hz⟩:=I1.list hq;refine wpAny_pyIter_list p.isList ?_;refine ⟨s1.heap.objs.size,[s1.heap.objs.size],_,_,H1,rfl,I1.kept (t':=s1.toks) λ b o e=>Heap.get?_push_of_some _ e,a8j a _,⟨_,Heap.get?_push_size _ rfl,rfl,rfl⟩,λ b hb=>?_,q⟩;have e:b=s1.heap.objs.size:=by simpa using hb
 subst e;exact I1.fpOk (aF _) (I1.hok.fresh (aF _))
theorem a5T {l:Expr} {tl:TE} (hl:PE X l tl):PI X tg l (b4x X.K tl):=by
 intro pins s σ H R I h;refine B6 (hl pins s σ H _ I h) λ v s1 ⟨x,H1,I1,r1,q1⟩=>?_;obtain ⟨a,e,⟨xs,hq⟩,q⟩:=q1;subst e
 cases r1;obtain ⟨its,rv,p,hz⟩:=I1.tuple hq;refine wpAny_pyIter_tuple (show s1.heap.IsTuple a its.toArray from p) ?_;refine ⟨s1.heap.objs.size,[s1.heap.objs.size],_,_,H1,rfl,I1.kept (t':=s1.toks) λ b o e=>Heap.get?_push_of_some _ e,a5x a _,⟨_,Heap.get?_push_size _ rfl,rfl,rfl⟩,λ b hb=>?_,q⟩;have e:b=s1.heap.objs.size:=by simpa using hb
 subst e;exact I1.fpOk (aF _) (I1.hok.fresh (aF _))
theorem a9k {pins:List (Addr×Obj)} {σ:St} {H:Hp} {s:Shared} {R:It->Hp->Prop} {E:Value->Shared->Prop} {lo hi:Int} {t u v:Tok} {tk:Nat} (I:Inv X pins σ H s) (h1:-(2 ^ 62)<=lo) (h2:lo<2 ^ 62) (h3:-(2 ^ 62)<=hi) (h4:hi<2 ^ 62)
  (q:R (Itr lo (hi - lo).toNat) H):wpAny (model X.prog X.w) X.A (pyIter (.ref s.heap.objs.size)) (PIE X pins σ tg R) E { s with heap:=s.heap.push { cls:=.type "range",data:=.fields #[.int lo t,.int hi u,.int 1 v] },toks:=tk }:=by
 refine wpAny_pyIter_range (IsRange.new ..) (small_one h1 h2 h3 h4) ?_;have I1:Inv X pins σ H { s with heap:=s.heap.push { cls:=.type "range",data:=.fields #[.int lo t,.int hi u,.int 1 v] },toks:=tk }:=I.kept λ b o e=>Heap.get?_push_of_some _ e;refine ⟨(s.heap.push { cls:=.type "range",data:=.fields #[.int lo t,.int hi u,.int 1 v] }).objs.size,[(s.heap.push { cls:=.type "range",data:=.fields #[.int lo t,.int hi u,.int 1 v] }).objs.size],_,_,H,rfl,
  I1.kept (t':=tk) λ b o e=>Heap.get?_push_of_some _ e,a6e _ lo (hi - lo).toNat,?_,λ b hb=>?_,q⟩
 ·have e1:lo+((0:Nat):Int)*1=lo:=by simp
  have e2:(((hi - lo).toNat:Nat):Int) - ((0:Nat):Int)=Builtin.Range.rangeSize lo hi 1:=by rw [rangeSize_one]; split <;> omega
  show IsRangeIter _ _ (lo+((0:Nat):Int)*1) ((((hi - lo).toNat:Nat):Int) - ((0:Nat):Int)) 1
  rw [e1,e2];exact Heap.get?_push_size _ rfl
 ·have e:b=(s.heap.push { cls:=.type "range",data:=.fields #[.int lo t,.int hi u,.int 1 v] }).objs.size:=by simpa using hb
  subst e;exact I1.fpOk (aF _) (I1.hok.fresh (aF _))
def b4m (ta:TA):TI:=λ σ H R=>ta σ H λ vs H1=>∃ j:Int,vs=[.int j]/\-(2 ^ 62)<=j/\j<2 ^ 62/\R (Itr 0 j.toNat) H1
theorem J5 {a:Expr} {ta:TA} {p pos:Pos} (hg:Gl X "range") (hm:X.mg "range"=none) (ha:PA X [a] ta) (hs:starEach [a] X.env=[(false,eval a X.env)]:=by rfl):PI X tg (.Call (.Name "range" p) [a] [] pos) (b4m ta):=by
 intro pins s σ H R I h;refine Call_ (S5 I hg hm boot_range (fP (B6 (ha pos pins s σ H _ I h) λ us s1 ⟨vs,H1,I1,r1,q1⟩=>?_) hs rfl));obtain ⟨j,e,q1,q2,q⟩:=q1;subst e
 cases r1 with
 | cons r rr =>
  cases rr;obtain ⟨t,rfl⟩:=r;exact call_range_1 (a9k I1 (by omega) (by omega) q1 q2 (by simpa using q))
def b5G (wi:TI) (g:TG) (tb:TS):TS:=λ D σ H=>wi σ H λ J H1=>∃ W:Nat->Nat->St->Hp->Prop,(∃ m,W 0 m σ H1)/\∀ i m σ H,W i m σ H →
 (J.stop i H/\D.nx σ H)\/(J.go i H/\∃ N:St->Hp->Prop,(∀ σ' H',N σ' H'->∃ m',m'<m/\W (i+1) m' σ' H')/\∀ x H',J.yld i H x H'->g x σ H' λ σ2 H2=>tb { D with nx:=N,ct:=N,bk:=D.nx } σ2 H2)
def a0H (fp:List Addr) (h:Heap):List (Addr×Obj):=fp.filterMap λ b=>(h.get? b).map λ o=>(b,o)
theorem K7 {fp:List Addr} {h:Heap} {b:Addr} {o:Obj} (hb:b∈fp) (e:h.get? b=some o):(b,o)∈a0H fp h:=eP.mpr ⟨b,hb,by rw [e]; rfl⟩
theorem a7F {fp:List Addr} {h:Heap} {p:Addr×Obj} (hp:p∈a0H fp h):p.1∈fp/\h.get? p.1=some p.2:=by
 obtain ⟨b,hb,e⟩:=eP.mp hp
 cases q:h.get? b with
 | none=>rw [q] at e; cases e
 | some o =>
  rw [q] at e;have e':(b,o)=p:=aM e;subst e';exact ⟨hb,q⟩
theorem Inv.pinned {pins:List (Addr×Obj)} {σ:St} {H:Hp} {s:Shared} {fp:List Addr} (I:Inv X pins σ H s) (hf:∀ b∈fp,Q7 X pins H b) (ho:∀ b∈fp,∃ o,s.heap.get? b=some o/\∀ v,o.data≠.cell v):Inv X (pins++a0H fp s.heap) σ H s :=
 I.pins_of λ p hp=>(aT.mp hp).elim (λ z=>I.pin p (cF _ z)) λ z=>by
  obtain ⟨hb,e⟩:=a7F z;obtain ⟨f0,f1,f2,_⟩:=hf p.1 hb;obtain ⟨o,e',d⟩:=ho p.1 hb;rw [e] at e'; cases e';exact ⟨e,f0,f1,f2,d⟩
theorem Inv.unpinned {pins pl:List (Addr×Obj)} {σ:St} {H:Hp} {s:Shared} (I:Inv X (pins++pl) σ H s):Inv X pins σ H s:=I.pins_of λ p hp=>I.pin p (cF _ (cQ _ hp))
theorem Y2 {iter:Expr} {body:List Stmt} {wi:TI} {g:TG} {tb:TS} {pos:Pos} (hp:PassesOwn (model X.prog X.w) X.A X.env X.xe) (hc:X.calm=true) (hi:PI X tg iter wi) (hg:PG X tg g) (hb:PSs X body tb)
  (hs:∀ x,foldedSetIterable iter X.env x=pure x:=by intro _; rfl):PS X (.For tg iter body [] pos) (b5G wi g tb):=by
 intro pins s σ H D I h;refine wpAny_For (B6 (hi pins s σ H _ I h) λ v s1 h1=>B6 h1 λ itv s2 h2=>?_) hs;obtain ⟨it,fp,tn,J,H2,e,I2,T,st2,f2,W,⟨m0,w0⟩,turn⟩:=h2;subst e;have stat:∀ {H':Hp},(∀ b∈fp,H' b=none)->∀ b∈fp,Q7 X pins H' b:=λ hn b hb=>⟨hn b hb,(f2 b hb).2⟩;refine codeAny_forLoop_any (λ n s'=>∃ i σ' H',Inv X pins σ' H' s'/\tn i s'.heap/\(∀ b∈fp,H' b=none)/\W i n σ' H') ?_ m0 ⟨0,σ,H2,I2,st2,λ b hb=>(f2 b hb).1,w0⟩;rintro n s3 ⟨i,σ3,H3,I3,st3,fr3,w3⟩;rcases turn i n σ3 H3 w3 with ⟨stop,qn⟩ | ⟨go,N,hN,step⟩
 ·refine wpAny_passesOwn hp (B6 (T.done X rfl rfl rfl hc i pins s3 σ3 H3 X.xe I3 (stat fr3) st3 stop) λ r s4 ⟨hr,I4⟩=>?_)
  subst hr;exact wpAny_execs_nil ⟨σ3,H3,I4,qn⟩
 ·refine wpAny_passesOwn hp (B6 (T.item X rfl rfl rfl hc i pins s3 σ3 H3 X.xe I3 (stat fr3) st3 go) λ r s4 ⟨u,hr,h4⟩=>?_)
  subst hr;refine wpAny_passesOwn hp (B6 h4 λ _ s5 ⟨x,H5,I5,r5,y5,st5,fr5⟩=>?_);have I5':=I5.pinned (stat fr5) (T.obj _ _ st5);refine wpAny_passesOwn hp (B6 (hg _ s5 σ3 H5 x u _ I5' r5 (step x H5 y5)) λ _ s6 ⟨σ6,H6,I6,q6⟩=>?_);refine wpAny_passesOwn hp (B6 (hb _ s6 σ6 H6 _ I6 q6) λ f s7 q7=>?_);have again:∀ {σ7:St} {H7:Hp},Inv X (pins++a0H fp s5.heap) σ7 H7 s7->N σ7 H7->∃ m,m<n/\∃ i σ' H',Inv X pins σ' H' s7/\tn i s7.heap/\(∀ b∈fp,H' b=none)/\W i m σ' H':=λ {σ7 H7} I7 n7=>by
   obtain ⟨m',hm,w7⟩:=hN σ7 H7 n7;refine ⟨m',hm,i+1,σ7,H7,I7.unpinned,T.keep _ _ _ st5 λ b hb o e=>(I7.pin (b,o) (cF _ (cF _ (K7 hb e)))).1,λ b hb=>?_,w7⟩;obtain ⟨o,e,d⟩:=T.obj _ _ st5 b hb;exact (I7.pin (b,o) (cF _ (cF _ (K7 hb e)))).2.1
  cases f with
  | next=>obtain ⟨σ7,H7,I7,n7⟩:=q7; exact again I7 n7
  | cont=>obtain ⟨σ7,H7,I7,n7⟩:=q7; exact again I7 n7
  | brk=>obtain ⟨σ7,H7,I7,q7⟩:=q7; exact ⟨σ7,H7,I7.unpinned,q7⟩
  | ret v=>obtain ⟨x7,σ7,H7,I7,r7,q7⟩:=q7; exact ⟨x7,σ7,H7,I7.unpinned,r7,q7⟩
end
theorem a4m {K:W.Frag} {a:Addr} {xs:List V} {g:TG} {tb:TS} {D:Ends} {σ:St} {H:Hp} (Pv:Nat->St->Hp->Prop) (h0:Pv 0 σ H) (hl:∀ i σ H,i<=xs.length->Pv i σ H->SqL K H a xs)
  (hs:∀ i x σ H,xs[i]?=some x->Pv i σ H->g x σ H λ σ2 H2=>tb { D with nx:=Pv (i+1),ct:=Pv (i+1),bk:=D.nx } σ2 H2) (hd:∀ σ H,Pv xs.length σ H->D.nx σ H) :
  ∃ W:Nat->Nat->St->Hp->Prop,(∃ m,W 0 m σ H)/\∀ i m σ H,W i m σ H →
   ((Itl K a).stop i H/\D.nx σ H)\/((Itl K a).go i H/\∃ N:St->Hp->Prop,(∀ σ' H',N σ' H'->∃ m',m'<m/\W (i+1) m' σ' H')/\∀ x H',(Itl K a).yld i H x H'->g x σ H' λ σ2 H2=>tb { D with nx:=N,ct:=N,bk:=D.nx } σ2 H2):=by
 refine ⟨λ i m σ H=>m=xs.length - i/\i<=xs.length/\Pv i σ H,⟨xs.length,by simp,bW _,h0⟩,?_⟩;rintro i m σ H ⟨rfl,hi,p⟩;have q:=hl i σ H hi p
 by_cases hlt:i<xs.length
 ·refine .inr ⟨⟨xs,xs[i],q,by simp [hlt]⟩,Pv (i+1),λ σ' H' p'=>⟨xs.length - (i+1),by omega,rfl,hlt,p'⟩,λ x H' y=>?_⟩
  obtain ⟨e,y⟩:=y;subst e;exact hs i x σ _ (y xs q) p
 ·have e:i=xs.length:=by omega
  subst e;exact .inl ⟨⟨xs,q,aF _⟩,hd σ H p⟩
theorem a0z {lo:Int} {n:Nat} {g:TG} {tb:TS} {D:Ends} {σ:St} {H:Hp} (Pv:Nat->St->Hp->Prop) (h0:Pv 0 σ H)
  (hs:∀ i σ H,i<n->Pv i σ H->g (.int (lo+i)) σ H λ σ2 H2=>tb { D with nx:=Pv (i+1),ct:=Pv (i+1),bk:=D.nx } σ2 H2) (hd:∀ σ H,Pv n σ H->D.nx σ H) :
  ∃ W:Nat->Nat->St->Hp->Prop,(∃ m,W 0 m σ H)/\∀ i m σ H,W i m σ H →
   ((Itr lo n).stop i H/\D.nx σ H)\/((Itr lo n).go i H/\∃ N:St->Hp->Prop,(∀ σ' H',N σ' H'->∃ m',m'<m/\W (i+1) m' σ' H')/\∀ x H',(Itr lo n).yld i H x H'->g x σ H' λ σ2 H2=>tb { D with nx:=N,ct:=N,bk:=D.nx } σ2 H2):=by
 refine ⟨λ i m σ H=>m=n - i/\i<=n/\Pv i σ H,⟨n,by simp,bW _,h0⟩,?_⟩;rintro i m σ H ⟨rfl,hi,p⟩
 by_cases hlt:i<n
 ·refine .inr ⟨hlt,Pv (i+1),λ σ' H' p'=>⟨n - (i+1),by omega,rfl,hlt,p'⟩,λ x H' y=>?_⟩
  obtain ⟨e,y⟩:=y;subst e y;exact hs i σ _ hlt p
 ·have e:i=n:=by omega
  subst e;exact .inl ⟨Nat.le_refl _,hd σ H p⟩
theorem a9I {c:TT} {tb:TS} {D:Ends} {σ:St} {H:Hp} (Pv:St->Hp->Prop) (μ:St->Hp->Nat) (h0:Pv σ H)
  (hs:∀ σ H,Pv σ H->c σ H λ b H1=>if b=true then tb { D with nx:=λ σ' H'=>Pv σ' H'/\μ σ' H'<μ σ H,ct:=λ σ' H'=>Pv σ' H'/\μ σ' H'<μ σ H,bk:=D.nx } σ H1 else D.nx σ H1)
  (mono:∀ σ H Q Q',(∀ b H1,Q b H1->Q' b H1)->c σ H Q->c σ H Q'):a9P c tb D σ H:=by
 refine ⟨λ m σ H=>m=μ σ H/\Pv σ H,⟨_,rfl,h0⟩,?_⟩;rintro m σ H ⟨rfl,p⟩;refine mono σ H _ _ (λ b H1 q=>?_) (hs σ H p)
 cases b with
 | true=>exact ⟨_,λ σ' H' ⟨p',l⟩=>⟨_,l,rfl,p'⟩,q⟩
 | false=>exact q
abbrev R2:=V->V->Hp->VK->Prop
def X7 (X:Cx) (f:Value->Value->Sem Value) (r:R2):Prop :=
 ∀ (pins:List (Addr×Obj)) (s:Shared) (σ:St) (H:Hp) (x y:V) (v u:Value) (Q:VK),Inv X pins σ H s->RelV x v->RelV y u->r x y H Q →
  wpAny (model X.prog X.w) X.A (f v u) (EP X pins σ Q) X.xe s
def UnR (X:Cx) (f:Value->Sem Value) (r:V->Hp->VK->Prop):Prop :=
 ∀ (pins:List (Addr×Obj)) (s:Shared) (σ:St) (H:Hp) (x:V) (v:Value) (Q:VK),Inv X pins σ H s->RelV x v->r x H Q →
  wpAny (model X.prog X.w) X.A (f v) (EP X pins σ Q) X.xe s
def M2 (X:Cx) (f:Value) (r:List V->Hp->VK->Prop):Prop :=
 ∀ (pins:List (Addr×Obj)) (s:Shared) (σ:St) (H:Hp) (xs:List V) (us:List Value) (Q:VK),Inv X pins σ H s->Vals xs us->r xs H Q →
  wpAny (model X.prog X.w) X.A (call f us) (EP X pins σ Q) X.xe s
def tOp (r:R2) (ta tb:TE):TE:=λ σ H Q=>ta σ H λ x H1=>tb σ H1 λ y H2=>r x y H2 Q
def tUn (r:V->Hp->VK->Prop) (ta:TE):TE:=λ σ H Q=>ta σ H λ x H1=>r x H1 Q
def rI (C:Int->Int->Prop) (g:Int->Int->V):R2:=λ x y H Q=>∃ i j,x=.int i/\y=.int j/\C i j/\Q (g i j) H
def rI0 (g:Int->Int->V):R2:=λ x y H Q=>∃ i j,x=.int i/\y=.int j/\Q (g i j) H
def rU (g:Int->V):V->Hp->VK->Prop:=λ x H Q=>∃ i,x=.int i/\Q (g i) H
section
variable {X:Cx} {a b c:Expr} {ta tb tc:TE} {pos:Pos}
theorem b2U (ha:PE X a ta) (hb:PE X b tb) {pins:List (Addr×Obj)} {s:Shared} {σ:St} {H:Hp} {R:V->V->Hp->Prop} (I:Inv X pins σ H s)
  (h:ta σ H λ x H1=>tb σ H1 λ y H2=>R x y H2) {Q:Value->Shared->Prop} {f:Value->Value->Sem Value}
  (hf:∀ v u s2 x y H2,Inv X pins σ H2 s2->RelV x v->RelV y u->R x y H2->wpAny (model X.prog X.w) X.A (f v u) Q X.xe s2) :
  wpAny (model X.prog X.w) X.A (eval a X.env) (λ v s₁=>wpAny (model X.prog X.w) X.A (eval b X.env) (λ u s₂=>wpAny (model X.prog X.w) X.A (f v u) Q X.xe s₂) X.xe s₁) X.xe s:=by
 refine B6 (ha pins s σ H _ I h) λ v s1 ⟨x,H1,I1,r1,q1⟩=>?_;refine B6 (hb pins s1 σ H1 _ I1 q1) λ u s2 ⟨y,H2,I2,r2,q2⟩=>?_;exact hf v u s2 x y H2 I2 r1 r2 q2
theorem j5 {op:Operator} {r:R2} (ho:X7 X (binaryOp op) r) (ha:PE X a ta) (hb:PE X b tb):PE X (.BinOp a op b pos) (tOp r ta tb):=by
 intro pins s σ H Q I h;exact wpAny_BinOp (b2U ha hb I h λ v u s2 x y H2 I2 rx ry q=>ho pins s2 σ H2 x y v u Q I2 rx ry q)
theorem K2 {op:UnaryOp} {r:V->Hp->VK->Prop} (ho:UnR X (unaryOp op) r) (ha:PE X a ta):PE X (.UnaryOp op a pos) (tUn r ta):=by
 intro pins s σ H Q I h;exact UnaryOp_ (B6 (ha pins s σ H _ I h) λ v s1 ⟨x,H1,I1,r1,q1⟩=>ho pins s1 σ H1 x v Q I1 r1 q1)
theorem opI {f:Value->Value->Sem Value} {C:Int->Int->Prop} {g:Int->Int->Int}
  (rule:∀ (i j:Int) (t u:Tok) (s:Shared) (Q:Value->Shared->Prop) (E:Value->Shared->Prop),C i j->Q (.int (g i j) s.toks) { s with toks:=s.toks+1 }->wpAny (model X.prog X.w) X.A (f (.int i t) (.int j u)) Q E s) :
  X7 X f (rI C λ i j=>.int (g i j)):=by
 intro pins s σ H x y v u Q I rx ry h;obtain ⟨i,j,rfl,rfl,hc,q⟩:=h;obtain ⟨t,rfl⟩:=rx;obtain ⟨t',rfl⟩:=ry;exact rule i j t t' s _ _ hc ⟨.int (g i j),H,I.tok _,⟨_,rfl⟩,q⟩
theorem b3M {f:Value->Value->Sem Value} {g:Int->Int->Int}
  (rule:∀ (i j:Int) (t u:Tok) (s:Shared) (Q:Value->Shared->Prop) (E:Value->Shared->Prop),Q (.int (g i j) s.toks) { s with toks:=s.toks+1 }->wpAny (model X.prog X.w) X.A (f (.int i t) (.int j u)) Q E s) :
  X7 X f (rI0 λ i j=>.int (g i j)):=by
 intro pins s σ H x y v u Q I rx ry h;obtain ⟨i,j,rfl,rfl,q⟩:=h;obtain ⟨t,rfl⟩:=rx;obtain ⟨t',rfl⟩:=ry;exact rule i j t t' s _ _ ⟨.int (g i j),H,I.tok _,⟨_,rfl⟩,q⟩
theorem b1I {f:Value->Value->Sem Value} {g:Int->Int->Bool}
  (rule:∀ (i j:Int) (t u:Tok) (s:Shared) (Q:Value->Shared->Prop) (E:Value->Shared->Prop),Q (.bool (g i j)) s->wpAny (model X.prog X.w) X.A (f (.int i t) (.int j u)) Q E s) :
  X7 X f (rI0 λ i j=>.bl (g i j)):=by
 intro pins s σ H x y v u Q I rx ry h;obtain ⟨i,j,rfl,rfl,q⟩:=h;obtain ⟨t,rfl⟩:=rx;obtain ⟨t',rfl⟩:=ry;exact rule i j t t' s _ _ ⟨.bl (g i j),H,I,rfl,q⟩
def b5F (i j:Int):Prop:=0<j/\j<1073741824
def b5M (i j:Int):Prop:=0<=j/\j<=1000000/\i.natAbs<2 ^ 64
def CMul (i j:Int):Prop:=(-(2 ^ 64)<i/\i<2 ^ 64)\/(-(2 ^ 64)<j/\j<2 ^ 64)
theorem CMul.ok {i j:Int} (h:CMul i j):IntMulOk i j:=by
 rcases h with ⟨h1,h2⟩ | ⟨h1,h2⟩
 ·exact .of_left (intBits_le_64 h1 h2)
 ·exact .of_right (intBits_le_64 h1 h2)
theorem B9:X7 X (binaryOp .Add) (rI0 λ i j=>.int (i+j)):=b3M λ _ _ _ _ _ _ _ q=>add_int q
theorem a3w:X7 X (binaryOp .Sub) (rI0 λ i j=>.int (i - j)):=b3M λ _ _ _ _ _ _ _ q=>sub_int q
theorem T4:X7 X (binaryOp .Mult) (rI CMul λ i j=>.int (i*j)):=opI λ _ _ _ _ _ _ _ hc q=>mul_int q hc.ok
theorem W9:X7 X (binaryOp .FloorDiv) (rI b5F λ i j=>.int (i / j)):=opI λ i j _ _ _ _ _ hc q=>by
 have h1:(0:Int)<j:=hc.1;have h2:j<1073741824:=hc.2;exact floordiv_int (by omega) (by rw [jX i (by omega)]; exact q) (.inl (PyProof.noPylong_small (by omega)))
theorem A2:X7 X (binaryOp .Mod) (rI (λ _ j=>0<j) λ i j=>.int (i % j)):=opI λ i j _ _ _ _ _ hc q=>by
 have h1:(0:Int)<j:=hc;exact mod_int' (by omega) (by rw [Int.fmod_eq_emod_of_nonneg i (by omega)]; exact q)
theorem a3k:X7 X (binaryOp .Pow) (rI b5M λ i j=>.int (i ^ j.toNat)):=opI λ _ _ _ _ _ _ _ hc q=>pow_int_small hc.1 hc.2.1 hc.2.2 q
theorem unI {f:Value->Sem Value} {g:Int->Int}
  (rule:∀ (i:Int) (t:Tok) (s:Shared) (Q:Value->Shared->Prop) (E:Value->Shared->Prop),Q (.int (g i) s.toks) { s with toks:=s.toks+1 }->wpAny (model X.prog X.w) X.A (f (.int i t)) Q E s) :
  UnR X f (rU λ i=>.int (g i)):=by
 intro pins s σ H x v Q I rx h;obtain ⟨i,rfl,q⟩:=h;obtain ⟨t,rfl⟩:=rx;exact rule i t s _ _ ⟨.int (g i),H,I.tok _,⟨_,rfl⟩,q⟩
theorem D6:UnR X (unaryOp .USub) (rU λ i=>.int (-i)):=unI λ _ _ _ _ _ q=>neg_int q
end
def b4o:V->V->Bool
 | .non,.non=>true | .non,.int _=>true | .int _,.non=>true | .non,.bl _=>true | .bl _,.non=>true | .non,.str _=>true | .str _,.non=>true
 | .int _,.int _=>true | .bl _,.bl _=>true | .str _,.str _=>true | .byt _,.byt _=>true
 | .int _,.str _=>true | .str _,.int _=>true | .bl _,.str _=>true | .str _,.bl _=>true
 | _,_=>false
def rEq:R2:=λ x y H Q=>b4o x y=true/\Q (.bl (decide (x=y))) H
def rNe:R2:=λ x y H Q=>b4o x y=true/\Q (.bl (!decide (x=y))) H
theorem a7q {i j:Int}:decide (V.int i=V.int j)=(i==j):=by
 rw [gM];simp
theorem a8x {i j:Bool}:decide (V.bl i=V.bl j)=(i==j):=by
 rw [gM];simp
theorem a6F {i j:Str}:decide (V.str i=V.str j)=(i==j):=by
 rw [gM];simp
theorem a7b {i j:Array UInt8}:decide (V.byt i=V.byt j)=(i.toList==j.toList):=by
 rw [gM]
 cases i
 cases j;simp
section
variable {X:Cx} {a b c:Expr} {ta tb tc:TE} {pos:Pos}
theorem w6 {pins:List (Addr×Obj)} {σ:St} {H:Hp} {s:Shared} {Q:VK} {k k':Bool} (I:Inv X pins σ H s) (q:Q (.bl k) H) (e:k=k'):EP X pins σ Q (.bool k') s:=by
 subst e;exact ⟨.bl k,H,I,rfl,q⟩
theorem a1c:X7 X (compareOp .Eq) rEq:=by
 intro pins s σ H x y v u Q I rx ry h;obtain ⟨hs,q⟩:=h
 cases x with
 | non =>
  cases rx
  cases y with
  | non=>cases ry; exact mS (w6 I q (by simp))
  | bl j=>cases ry; exact mU (w6 I q (by simp))
  | int j=>obtain ⟨t',rfl⟩:=ry; exact mV (w6 I q (by simp))
  | str j=>obtain ⟨t',rfl⟩:=ry; exact mW (w6 I q (by simp))
  | _=>exact absurd (show false=true from hs) bK
 | bl i =>
  cases rx
  cases y with
  | non=>cases ry; exact mX (w6 I q (by simp))
  | bl j=>cases ry; exact eq_bool (w6 I q a8x)
  | str j=>obtain ⟨t',rfl⟩:=ry; exact mY (w6 I q (by simp))
  | _=>exact absurd (show false=true from hs) bK
 | int i =>
  obtain ⟨t,rfl⟩:=rx
  cases y with
  | non=>cases ry; exact mZ (w6 I q (by simp))
  | int j=>obtain ⟨t',rfl⟩:=ry; exact eq_int (w6 I q a7q)
  | str j=>obtain ⟨t',rfl⟩:=ry; exact nA (w6 I q (by simp))
  | _=>exact absurd (show false=true from hs) bK
 | str i =>
  obtain ⟨t,rfl⟩:=rx
  cases y with
  | non=>cases ry; exact nB (w6 I q (by simp))
  | bl j=>cases ry; exact nD (w6 I q (by simp))
  | int j=>obtain ⟨t',rfl⟩:=ry; exact nE (w6 I q (by simp))
  | str j=>obtain ⟨t',rfl⟩:=ry; exact eq_str (w6 I q a6F)
  | _=>exact absurd (show false=true from hs) bK
 | byt i =>
  obtain ⟨t,rfl⟩:=rx
  cases y with
  | byt j=>obtain ⟨t',rfl⟩:=ry; exact W.eq_bytes (w6 I q a7b)
  | _=>exact absurd (show false=true from hs) bK
 | _=>cases y <;> exact absurd (show false=true from hs) bK
theorem b4v:X7 X (compareOp .NotEq) rNe:=by
 intro pins s σ H x y v u Q I rx ry h;obtain ⟨hs,q⟩:=h
 cases x with
 | non =>
  cases rx
  cases y with
  | non=>cases ry; exact nF (w6 I q (by simp))
  | bl j=>cases ry; exact nG (w6 I q (by simp))
  | int j=>obtain ⟨t',rfl⟩:=ry; exact nH (w6 I q (by simp))
  | str j=>obtain ⟨t',rfl⟩:=ry; exact nJ (w6 I q (by simp))
  | _=>exact absurd (show false=true from hs) bK
 | bl i =>
  cases rx
  cases y with
  | non=>cases ry; exact nK (w6 I q (by simp))
  | bl j=>cases ry; exact ne_bool (w6 I q (congrArg not a8x))
  | str j=>obtain ⟨t',rfl⟩:=ry; exact nL (w6 I q (by simp))
  | _=>exact absurd (show false=true from hs) bK
 | int i =>
  obtain ⟨t,rfl⟩:=rx
  cases y with
  | non=>cases ry; exact nN (w6 I q (by simp))
  | int j=>obtain ⟨t',rfl⟩:=ry; exact ne_int (w6 I q (congrArg not a7q))
  | str j=>obtain ⟨t',rfl⟩:=ry; exact nQ (w6 I q (by simp))
  | _=>exact absurd (show false=true from hs) bK
 | str i =>
  obtain ⟨t,rfl⟩:=rx
  cases y with
  | non=>cases ry; exact nR (w6 I q (by simp))
  | bl j=>cases ry; exact nT (w6 I q (by simp))
  | int j=>obtain ⟨t',rfl⟩:=ry; exact nU (w6 I q (by simp))
  | str j=>obtain ⟨t',rfl⟩:=ry; exact ne_str (w6 I q (congrArg not a6F))
  | _=>exact absurd (show false=true from hs) bK
 | byt i =>
  obtain ⟨t,rfl⟩:=rx
  cases y with
  | byt j=>obtain ⟨t',rfl⟩:=ry; exact W.ne_bytes (w6 I q (congrArg not a7b))
  | _=>exact absurd (show false=true from hs) bK
 | _=>cases y <;> exact absurd (show false=true from hs) bK
theorem Z6:X7 X (compareOp .Lt) (rI0 λ i j=>.bl (decide (i<j))):=b1I λ _ _ _ _ _ _ _ q=>lt_int q
theorem b4H:X7 X (compareOp .LtE) (rI0 λ i j=>.bl (decide (i<=j))):=b1I λ _ _ _ _ _ _ _ q=>le_int q
theorem a1d:X7 X (compareOp .Gt) (rI0 λ i j=>.bl (decide (j<i))):=b1I λ _ _ _ _ _ _ _ q=>gt_int q
theorem b1Q:X7 X (compareOp .GtE) (rI0 λ i j=>.bl (decide (j<=i))):=b1I λ _ _ _ _ _ _ _ q=>ge_int q
theorem a5V:X7 X (compareOp .Is) (λ x y H Q=>y=.non/\Q (.bl (decide (x=.non))) H):=by
 intro pins s σ H x y v u Q I rx ry h;obtain ⟨rfl,q⟩:=h
 cases ry;refine is_none_gen (w6 I q ?_)
 cases x <;> first
  | (cases rx; rfl)
  | (obtain ⟨t,rfl⟩:=rx; rfl)
theorem b1F:X7 X (compareOp .IsNot) (λ x y H Q=>y=.non/\Q (.bl (!decide (x=.non))) H):=by
 intro pins s σ H x y v u Q I rx ry h;obtain ⟨rfl,q⟩:=h
 cases ry;refine isnot_none_gen (w6 I q ?_)
 cases x <;> first
  | (cases rx; rfl)
  | (obtain ⟨t,rfl⟩:=rx; rfl)
theorem t9 (b:Expr) {op:CmpOp} (h:op≠.In:=by decide) (h2:op≠.NotIn:=by decide):behindInMarks op b=false:=by
 have e1:(op==CmpOp.In)=false:=by cases op <;> first | rfl | exact absurd rfl h
 have e2:(op==CmpOp.NotIn)=false:=by cases op <;> first | rfl | exact absurd rfl h2
 cases b <;> simp [behindInMarks,e1,e2]
theorem R5 {op:CmpOp} {r:R2} (ho:X7 X (compareOp op) r) (ha:PE X a ta) (hb:PE X b tb) (hm:behindInMarks op b=false):PE X (.Compare a [op] [b] pos) (tOp r ta tb):=by
 intro pins s σ H Q I h;exact wpAny_Compare1 (b2U ha hb I h λ v u s2 x y H2 I2 rx ry q=>ho pins s2 σ H2 x y v u Q I2 rx ry q) hm
def b2s (t:TE):TT:=λ σ H Q=>t σ H λ x H'=>∃ k,x=.bl k/\Q k H'
theorem r9 {op:CmpOp} {r:R2} (ho:X7 X (compareOp op) r) (ha:PE X a ta) (hb:PE X b tb) (hm:behindInMarks op b=false):PT X (.Compare a [op] [b] pos) (b2s (tOp r ta tb)):=by
 intro pins s σ H Q I h;refine wpAny_isTrue_Compare1 (B6 (ha pins s σ H _ I h) λ v s1 ⟨x,H1,I1,r1,q1⟩=>B6 (hb pins s1 σ H1 _ I1 q1) λ u s2 ⟨y,H2,I2,r2,q2⟩ =>
  B6 (ho pins s2 σ H2 x y v u _ I2 r1 r2 q2) λ c s3 ⟨z,H3,I3,r3,k,e,q3⟩=>?_) hm
 subst e
 cases r3;exact wpAny_truthy_bool ⟨H3,I3,q3⟩
def b3l (r r':R2) (ta tb tc:TE):TE:=λ σ H Q=>ta σ H λ x H1=>tb σ H1 λ y H2=>r x y H2 λ z H3=>∃ k,z=.bl k ∧
 (if k=true then tc σ H3 λ w' H4=>r' y w' H4 Q else Q (.bl false) H3)
theorem a8K {op op':CmpOp} {r r':R2} (ho:X7 X (compareOp op) r) (ho':X7 X (compareOp op') r') (ha:PE X a ta) (hb:PE X b tb) (hc:PE X c tc)
  (hm:lastMarks [op,op'] [b,c]=false:=by with_unfolding_all rfl):PT X (.Compare a [op,op'] [b,c] pos) (b2s (b3l r r' ta tb tc)):=by
 intro pins s σ H Q I h;refine isTrue_chain (B6 (ha pins s σ H _ I h) λ v s1 ⟨x,H1,I1,r1,q1⟩=>test_link (B6 (hb pins s1 σ H1 _ I1 q1) λ u s2 ⟨y,H2,I2,r2,q2⟩ =>
  B6 (ho pins s2 σ H2 x y v u _ I2 r1 r2 q2) λ d s3 ⟨z,H3,I3,r3,k,e,q3⟩=>?_)) hm
 subst e
 cases r3;refine wpAny_truthy_bool ?_
 cases k with
 | false =>
  obtain ⟨k',e',q'⟩:=q3
  cases e';exact ite_ff ⟨H3,I3,q'⟩
 | true =>
  refine ite_tt (test_last (B6 (hc pins s3 σ H3 _ I3 q3) λ w' s4 ⟨z',H4,I4,r4,q4⟩=>B6 (ho' pins s4 σ H4 y z' u w' _ I4 r2 r4 q4) λ d' s5 ⟨z2,H5,I5,r5,k2,e2,q5⟩=>?_));subst e2
  cases r5;exact wpAny_truthy_bool ⟨H5,I5,q5⟩
theorem a3G:(sizeLine:Nat)<2 ^ 63:=by rw [sizeLine_eq]; decide
theorem N9 {x:V} {us:List Value} (r:Vals [x] us):∃ u,us=[u]/\RelV x u:=by
 cases r with
 | cons r1 r2=>cases r2; exact ⟨_,rfl,r1⟩
theorem a9t {x y:V} {us:List Value} (r:Vals [x,y] us):∃ u w',us=[u,w']/\RelV x u/\RelV y w':=by
 cases r with
 | cons r1 r2 =>
  cases r2 with
  | cons r3 r4=>cases r4; exact ⟨_,_,rfl,r1,r3⟩
theorem b0r:M2 X (.builtin "abs") (λ xs H Q=>∃ i,xs=[.int i]/\Q (.int (if i<0 then -i else i)) H):=by
 intro pins s σ H xs us Q I r h;obtain ⟨i,rfl,q⟩:=h;obtain ⟨u,rfl,t,rfl⟩:=N9 r;exact call_abs_int λ u tk=>⟨.int (if i<0 then -i else i),H,I.tok _,⟨_,rfl⟩,q⟩
theorem U9 (hc:X.calm=true):M2 X (.builtin "min") (λ xs H Q=>∃ i j,xs=[.int i,.int j]/\Q (.int (if j<i then j else i)) H):=by
 intro pins s σ H xs us Q I r h;obtain ⟨i,j,rfl,q⟩:=h;obtain ⟨u,w',rfl,⟨t,rfl⟩,⟨t',rfl⟩⟩:=a9t r;refine min_two_ints (I.ok.hd hc) λ h' tk k=>⟨_,H,I.kept k,?_,q⟩
 by_cases hj:j<i
 ·rw [if_pos hj,if_pos hj]; exact ⟨_,rfl⟩
 ·rw [if_neg hj,if_neg hj]; exact ⟨_,rfl⟩
theorem a2U:M2 X (.type "int") (λ xs H Q=>(∃ i,xs=[.int i]/\Q (.int i) H)\/∃ k,xs=[.bl k]/\Q (.int (if k then 1 else 0)) H):=by
 intro pins s σ H xs us Q I r h;rcases h with ⟨i,rfl,q⟩ | ⟨k,rfl,q⟩
 ·obtain ⟨u,rfl,t,rfl⟩:=N9 r
  exact call_int_int ⟨.int i,H,I,⟨_,rfl⟩,q⟩
 ·obtain ⟨u,rfl,r1⟩:=N9 r
  cases r1;exact call_int_bool ⟨.int (if k then 1 else 0),H,I.tok _,⟨_,rfl⟩,q⟩
end
structure ObjM (h:Heap) (x dx C:Addr) (mA:Str->Option Value):Prop where
 obj:h.get? x=some (W.instObj C dx)
 ns:h.Ns1 dx mA
 ne:dx≠x
theorem a8h {h:Heap} {dx:Addr} {mA:Str->Option Value} (n:h.Ns1 dx mA):∃ od,h.get? dx=some od/\∀ name,W.lookIn name od=some (mA name):=by
 obtain ⟨o,es,ep,ho,hd,hk,_,hm⟩:=n;refine ⟨o,ho,λ name=>?_⟩;have e:=hm name;unfold nsFind findBy at e;rw [<- Array.find?_toList] at e;unfold W.lookIn;rw [hd];dsimp only
 split
 ·rename_i y q
  rw [q] at e;exact congrArg some e
 ·rename_i q
  rw [q] at e;have a:es.toList.any (·.refKey)=false:=by
   rw [List.any_eq_false];intro y hy;obtain ⟨z,t,hkey⟩:=hk y (Array.mem_toList_iff.mp hy);simp [DictEntry.refKey,hkey]
  have a':¬ es.toList.any (·.refKey)=true:=by rw [a]; exact bK
  rw [if_neg a'];exact congrArg some e
theorem ObjM.look {h:Heap} {x dx C:Addr} {mA:Str->Option Value} (I:ObjM h x dx C mA):∃ od,W.InstAt h x (W.instObj C dx) C (some od)/\∀ name,W.lookIn name od=some (mA name) :=
 let ⟨od,ho,hl⟩:=a8h I.ns
 ⟨od,⟨I.obj,rfl,rfl,ho⟩,hl⟩
section
variable {prog:Program} {w:World} {A:Around} {E:Value->Shared->Prop} {s:Shared} {K:W.Frag} {x dx C f:Addr} {mA:Str->Option Value} {name:Str} {v:Value}
theorem b1H {expr:Bool} {Q:Value->Shared->Prop} (X:K.In s.heap) (I:ObjM s.heap x dx C mA) (hg:W.plainGet K C name=true) (hh:W.hasDictIn K C=true)
  (ha:W.findIn K (.ref C) name=some none) (hv:mA name=some v) (hv':W.handedIn v=true) (h:Q v { s with toks:=s.toks+1 }) :
  wpAny (model prog w) A (getAttr (.ref x) name expr) Q E s:=by
 obtain ⟨od,J,hl⟩:=I.look;exact W.get_value X J (W.plainGet_of hg).1 (W.findObj_own hh ha rfl (by rw [hl,hv])) hv' h
theorem a8P {pl:Sem Bool} {Q:Value×List Value->Shared->Prop} (X:K.In s.heap) (I:ObjM s.heap x dx C mA) (hg:W.plainGet K C name=true)
  (hf:W.findIn K (.ref C) name=some (some (.ref f))) (ht:W.isFn K (.ref f)=true) (hv:mA name=none) (h:Q (.ref f,[.ref x]) s) :
  wpAny (model prog w) A (getMethod (.ref x) name pl) Q E s:=by
 obtain ⟨od,J,hl⟩:=I.look;exact W.method_fn X J (W.plainGet_of hg).1 (W.plainGet_of hg).2 hf (beq_iff_eq.mp ht) (by show (W.lookIn name od).map (·.isSome)=some false; rw [hl,hv]; rfl) h
theorem b0C {ns:List Str} {Q:Unit->Shared->Prop} (X:K.In s.heap) (I:ObjM s.heap x dx C mA)
  (hs:W.findIn K (.ref C) "__setattr__"=some (some (.builtin "object.__setattr__"))) (hp:W.plainOver K C=true) (ht:W.takerIn K C name=some none) (hh:W.hasDictIn K C=true)
  (hw:iQ mA ns) (hsz:ns.length<=sizeLine)
  (h:∀ h',ObjM h' x dx C (λ y=>if y=name then some v else mA y)->Heap.SameBut dx s.heap h'->Q () { s with heap:=h',toks:=s.toks+2 }) :
  wpAny (model prog w) A (setAttr (.ref x) name v) Q E s:=by
 obtain ⟨od,J,hl⟩:=I.look;refine W.set_plain X J hs (W.osa_open (s:={ s with toks:=s.toks+1 }) (r:=none) X J hp ht λ b=>?_);obtain ⟨cd,hc,hd'⟩:=W.any_some hh;have hx:s.heap.get? x=some ⟨.ref C,some dx,.plain,#[]⟩:=I.obj;refine wpAny_bind (wpAny_pure (wpAny_bind (wpAny_bind (wpAny_loadPart hx (wpAny_bind (W.Looks.here (s:={ s with toks:=s.toks+1 }) (W.looks_clsIn X hc) ?_))))));rw [hd'];refine wpAny_pure (a:=some dx) (wpAny_bind (wpAny_pure (wpAny_bind ?_)));refine wpAny_nsSet1 (s:={ s with toks:=s.toks+1 }) I.ns λ h' hn2 hs2=>?_;obtain ⟨oD,esD,epD,hoD,hdD,hcD⟩:=hn2.count (nV name v hw);refine wpAny_bind (wpAny_lookBehind hoD (by rw [hdD]; exact pastItsLine_dict (bA hcD (by rw [cV]; omega))) ?_);exact wpAny_pure (h _ ⟨(hs2.2 _ (aO I.ne)).trans I.obj,hn2,I.ne⟩ hs2)
theorem a8p {R:Result->Shared->Prop} {vs:List Value} {kw:List (Str×Value)} (X:K.In s.heap) (hm:W.makesIn K C=true)
  (hi:W.findIn K (.ref C) "__init__"=some (some (.ref f))) (hf:W.typeIn K (.ref f)=some (.type "function"))
  (h:codeAny (model prog w) (A.under (.builtin "type.__call__" ⟨.ref C::vs,kw⟩)) (.call (.ref f) ⟨.ref (s.heap.objs.size+1)::vs,kw⟩) (W.InitBack (s.heap.objs.size+1) R)
   { s with heap:=(s.heap.push W.emptyDict).push (W.instObj C s.heap.objs.size) }) :
  codeAny (model prog w) A (.call (.ref C) ⟨vs,kw⟩) R s:=by
 obtain ⟨hh,g,d,t,os⟩:=s;exact W.make_core (W.makes_of X hm) (W.looks_findIn X hi) (λ self=>W.bind_fn X self hf) (.inl rfl) h
end
def X4 (f:Str) (v:V):List (Str×V)->List (Str×V)
 | []=>[(f,v)]
 | (g,x)::r=>if g=f then (g,v)::r else (g,x)::X4 f v r
theorem a1a (f g:Str) (v:V):∀ fs:List (Str×V),(X4 f v fs).lookup g=if g=f then some v else fs.lookup g
 | []=>by
  show eQ g [(f,v)]=_
  by_cases h:g=f
  ·have hb:(g==f)=true:=beq_iff_eq.mpr h
   simp only [eQ,hb,if_pos h]
  ·have hb:(g==f)=false:=beq_eq_false_iff_ne.mpr h
   simp only [eQ,hb,if_neg h]
 | (k,x)::r=>by
  have ih:=a1a f g v r;rw [show X4 f v ((k,x)::r)=(if k=f then (k,v)::r else (k,x)::X4 f v r) from rfl]
  by_cases hk:k=f
  ·rw [if_pos hk]
   by_cases h:g=k
   ·have hb:(g==k)=true:=beq_iff_eq.mpr h
    simp only [eQ,hb,if_pos (h.trans hk)]
   ·have hb:(g==k)=false:=beq_eq_false_iff_ne.mpr h
    simp only [eQ,hb,if_neg (λ e:g=f=>h (e.trans hk.symm))]
  ·rw [if_neg hk]
   by_cases h:g=k
   ·have hb:(g==k)=true:=beq_iff_eq.mpr h
    simp only [eQ,hb,if_neg (λ e:g=f=>hk (h.symm.trans e))]
   ·have hb:(g==k)=false:=beq_eq_false_iff_ne.mpr h
    simp only [eQ,hb];exact ih
theorem a0J (f:Str) (v:V):∀ fs:List (Str×V),f∈(X4 f v fs).map (·.1)/\∀ g,g∈fs.map (·.1)->g∈(X4 f v fs).map (·.1)
 | []=>⟨by simp [X4],λ g h=>by simp at h⟩
 | (k,x)::r=>by
  obtain ⟨i1,i2⟩:=a0J f v r;rw [show X4 f v ((k,x)::r)=(if k=f then (k,v)::r else (k,x)::X4 f v r) from rfl]
  by_cases hk:k=f
  ·rw [if_pos hk]
   subst hk;exact ⟨by simp,λ g h=>by simpa using h⟩
  ·rw [if_neg hk]
   refine ⟨?_,λ g h=>?_⟩
   ·rw [aQ]
    exact bL _ i1
   ·rw [aQ] at h ⊢
    rcases aL.mp h with e | e
    ·exact aL.mpr (.inl e)
    ·exact bL _ (i2 g e)
theorem a1b (f:Str) (v:V):∀ fs:List (Str×V),(X4 f v fs).length<=fs.length+1
 | []=>by simp [X4]
 | (k,x)::r=>by
  have ih:=a1b f v r;rw [show X4 f v ((k,x)::r)=(if k=f then (k,v)::r else (k,x)::X4 f v r) from rfl]
  by_cases hk:k=f
  ·rw [if_pos hk,cV,cV]; omega
  ·rw [if_neg hk,cV,cV]; omega
theorem RelO.some_of {v:V} {o:Option Value} (r:RelO (some v) o):∃ u,o=some u/\RelV v u:=by
 cases o with
 | none=>exact (show False from r).elim
 | some u=>exact ⟨u,rfl,r⟩
theorem RelO.none_of {o:Option Value} (r:RelO none o):o=none:=by
 cases o with
 | none=>rfl
 | some u=>exact (show False from r).elim
theorem a7v {v:V} {u:Value} (r:RelV v u):W.handedIn u=true:=by
 cases v with
 | non=>cases (show u=Value.none from r); rfl
 | bl b=>cases (show u=Value.bool b from r); rfl
 | int i=>obtain ⟨t,e⟩:=(show ∃ t,u=Value.int i t from r); cases e; rfl
 | str x=>obtain ⟨t,e⟩:=(show ∃ t,u=Value.str x t from r); cases e; rfl
 | byt b=>obtain ⟨t,e⟩:=(show ∃ t,u=Value.bytes b t from r); cases e; rfl
 | flt b=>obtain ⟨t,e⟩:=(show ∃ t,u=Value.float b t from r); cases e; rfl
 | ref a=>cases (show u=Value.ref a from r); rfl
 | ty n=>cases (show u=Value.type n from r); rfl
section
variable {P:Program} {w:World} {H H':Hp} {h h':Heap} {a C dx:Addr} {fs fs':List (Str×V)}
theorem a3O (hok:HOk P w H h) (e:H a=some (.ins C dx fs)):∃ mA,ObjM h a dx C mA/\(∀ f,RelO (fs.lookup f) (mA f))/\iQ mA (fs.map (·.1))/\fs.length<=1000/\H dx=some (.own a):=by
 obtain ⟨d,z,ne,ob,mA,n,r,q⟩:=(show ObjOk P w H h a (.ins C dx fs) from hok a _ e);exact ⟨mA,⟨ob,n,ne⟩,r,q,z,d⟩
end
structure Cls (K:W.Frag) (C:Addr):Prop where
 pg:W.plainGet K C Str.empty=true
 hd:W.hasDictIn K C=true
 po:W.plainOver K C=true
 sa:W.findIn K (.ref C) "__setattr__"=some (some (.builtin "object.__setattr__"))
theorem Cls.get {K:W.Frag} {C:Addr} (c:Cls K C) (f:Str):W.plainGet K C f=true:=c.pg
def NoAttr (K:W.Frag) (C:Addr) (f:Str):Prop:=W.findIn K (.ref C) f=some none
theorem NoAttr.taker {K:W.Frag} {C:Addr} {f:Str} (n:NoAttr K C f):W.takerIn K C f=some none:=by
 unfold W.takerIn;rw [show W.findIn K (.ref C) f=some none from n];rfl
structure Con (K:W.Frag) (C:Addr) (f:Str) (v:V) (u:Value):Prop where
 at_:W.findIn K (.ref C) f=some (some u)
 rel:RelV v u
 get:W.specialIn K u "__get__"=some none
 cp:W.copiedNames.contains f=false
structure b1m (K:W.Frag) (C:Addr) (m:Str) (f:Addr):Prop where
 at_:W.findIn K (.ref C) m=some (some (.ref f))
 fn:W.isFn K (.ref f)=true
 kp:W.keepIn K (.ref f)=true
section
variable {X:Cx} {pins:List (Addr×Obj)} {σ:St} {H:Hp} {s:Shared} {a C dx:Addr} {fs:List (Str×V)} {f:Str} {v:V} {A:Around} {E:Value->Shared->Prop}
theorem a5C {b:Bool} {Q:Value->Shared->Prop} (I:Inv X pins σ H s) (e:H a=some (.ins C dx fs)) (c:Cls X.K C) (n:NoAttr X.K C f) (l:fs.lookup f=some v)
  (h:∀ u s',Inv X pins σ H s'->RelV v u->Q u s'):wpAny (model X.prog X.w) A (getAttr (.ref a) f b) Q E s:=by
 obtain ⟨mA,O,r,_,_,_⟩:=a3O I.hok e;obtain ⟨u,hu,ru⟩:=RelO.some_of (v:=v) (o:=mA f) (by rw [<- l]; exact r f);exact b1H I.kIn O (c.get f) c.hd n hu (a7v ru) (h u _ (I.tok _) ru)
theorem a1H {m:Str} {g:Addr} {pl:Sem Bool} {Q:Value×List Value->Shared->Prop} (I:Inv X pins σ H s) (e:H a=some (.ins C dx fs)) (c:Cls X.K C) (k:b1m X.K C m g) (l:fs.lookup m=none)
  (h:Q (.ref g,[.ref a]) s):wpAny (model X.prog X.w) A (getMethod (.ref a) m pl) Q E s:=by
 obtain ⟨mA,O,r,_,_,_⟩:=a3O I.hok e;have hn:mA m=none:=RelO.none_of (by rw [<- l]; exact r m);exact a8P I.kIn O (c.get m) k.at_ k.fn hn h
theorem a5J {y:V} {u:Value} {Q:Unit->Shared->Prop} (I:Inv X pins σ H s) (e:H a=some (.ins C dx fs)) (c:Cls X.K C) (n:NoAttr X.K C f) (hl:fs.length<1000) (ry:RelV y u)
  (h:∀ s',Inv X pins σ (upd H a (.ins C dx (X4 f y fs))) s'->Q () s'):wpAny (model X.prog X.w) A (setAttr (.ref a) f u) Q E s:=by
 obtain ⟨mA,O,r,wi,_,ho⟩:=a3O I.hok e;have hz:(fs.map (·.1)).length<=sizeLine:=by rw [aA,sizeLine_eq]; omega
 refine b0C I.kIn O c.sa c.po n.taker c.hd wi hz λ h' O' sb=>h _ ?_;have hd:∃ o,h'.get? dx=some o:=let ⟨o,_,_,e',_⟩:=O'.ns; ⟨o,e'⟩
 refine I.write (x:=a) (e:=dx) (by rw [e]; exact jY) (.inr ho) (λ b q hb z=>(sb.2 b hb).trans z) hd ?_;refine ⟨by rw [d0 O.ne]; exact ho,?_,O.ne,O'.obj,_,O'.ns,λ g=>?_,λ g hg=>?_⟩
 ·have:=a1b f y fs; omega
 ·show RelO ((X4 f y fs).lookup g) (if g=f then some u else mA g)
  rw [a1a]
  by_cases q:g=f
  ·rw [if_pos q,if_pos q]; exact ry
  ·rw [if_neg q,if_neg q]; exact r g
 ·by_cases q:g=f
  ·rw [q]; exact (a0J f y fs).1
  ·refine (a0J f y fs).2 g (wi g λ z=>hg ?_)
   show (if g=f then some u else mA g)=none
   rw [if_neg q]; exact z
theorem Inv.made (I:Inv X pins σ H s):Inv X pins σ (upd (upd H s.heap.objs.size (.own (s.heap.objs.size+1))) (s.heap.objs.size+1) (.ins C s.heap.objs.size []))
  { s with heap:=(s.heap.push W.emptyDict).push (W.instObj C s.heap.objs.size) }:=by
 have e1:(s.heap.push W.emptyDict).get? s.heap.objs.size=some W.emptyDict:=Heap.get?_push_size s.heap rfl;have e2:((s.heap.push W.emptyDict).push (W.instObj C s.heap.objs.size)).get? (s.heap.objs.size+1)=some (W.instObj C s.heap.objs.size):=by
  have:=Heap.get?_push_size (s.heap.push W.emptyDict) (o:=W.instObj C s.heap.objs.size) rfl
  rwa [Heap.size_push] at this
 have e3:(s.heap.push W.emptyDict).Ns s.heap.objs.size (λ _=>none):=⟨W.emptyDict,#[],_,e1,rfl,(λ e he=>absurd he (by simp)),λ _=>rfl⟩;have I1:=I.laid (a:=s.heap.objs.size) (o:=.own (s.heap.objs.size+1)) (h':=s.heap.push W.emptyDict) (t':=s.toks) (λ b u q=>Heap.get?_push_of_some _ q) (aF _) ⟨_,e1⟩;refine I1.laid (a:=s.heap.objs.size+1) (o:=.ins C s.heap.objs.size []) (t':=s.toks) (λ b u q=>Heap.get?_push_of_some _ q) (iR (Heap.size_push _ _)) ?_;have ne:s.heap.objs.size≠s.heap.objs.size+1:=bD (eH _);refine ⟨by rw [d0 ne,upd_same],bW _,ne,e2,λ _=>none,(Heap.Ns1.of_empty e3).at λ o q=>Heap.get?_push_of_some _ q,λ _=>jY,λ y hy=>absurd rfl hy⟩
theorem b0y {prog:Program} {w:World} {env:Env} {e:Expr} {f:Str} {pos:Pos} {s:Shared} {Q:Value->Shared->Prop} (hb:attributeBase e f env (eval e env)=eval e env)
  (h:wpAny (model prog w) A (eval e env) (λ o s₁=>wpAny (model prog w) A (getAttr o f true) Q E s₁) E s):wpAny (model prog w) A (eval (.Attribute e f pos) env) Q E s :=
 Attribute_any_ h (by rw [arm_eval_Attribute,hb])
end
def b3P (K:W.Frag) (ta:TE) (f:Str):TE:=λ σ H Q=>ta σ H λ x H1=>∃ a C dx fs v,x=.ref a/\H1 a=some (.ins C dx fs)/\Cls K C/\NoAttr K C f/\fs.lookup f=some v/\Q v H1
def b5C (K:W.Frag) (ta tv:TE) (f:Str):TS:=λ D σ H=>tv σ H λ y H1=>ta σ H1 λ x H2=>∃ a C dx fs,x=.ref a/\H2 a=some (.ins C dx fs)/\Cls K C/\NoAttr K C f/\fs.length<1000 ∧
 D.nx σ (upd H2 a (.ins C dx (X4 f y fs)))
section
variable {X:Cx} {o e value:Expr} {f:Str} {pos pos' tpos:Pos} {ta tv:TE}
theorem v7 (he:PE X e ta) (hb:attributeBase e f X.env (eval e X.env)=eval e X.env):PE X (.Attribute e f pos) (b3P X.K ta f):=by
 intro pins s σ H Q I h;refine b0y hb (B6 (he pins s σ H _ I h) λ u s1 ⟨x,H1,I1,rx,a,C,dx,fs,v,ex,ea,c,n,l,q⟩=>?_);subst ex;obtain rfl:u=Value.ref a:=rx;exact a5C I1 ea c n l λ u' s2 I2 ru=>⟨v,H1,I2,ru,q⟩
theorem Y4 (ha:PE X o ta) (hv:PE X value tv) (hs:swapsWith value (some (.Attribute o f pos')) pos.line X.env=pure false):PS X (.Assign [.Attribute o f pos'] value pos) (b5C X.K ta tv f):=by
 intro pins s σ H D I h;refine plainObj_wpAny_Assign_Attribute (B6 (hv pins s σ H _ I h) λ u s1 ⟨y,H1,I1,ry,q⟩=>B6 (ha pins s1 σ H1 _ I1 q) λ ov s2 ⟨x,H2,I2,rx,a,C,dx,fs,ex,ea,c,n,l,q2⟩=>?_) hs;subst ex;obtain rfl:ov=Value.ref a:=rx;exact a5J I2 ea c n l ry λ s3 I3=>⟨σ,_,I3,q2⟩
end
section
variable {X:Cx} {pins:List (Addr×Obj)} {σ:St} {H:Hp} {s:Shared} {A:Around} {E:Value->Shared->Prop} {Q:Value->Shared->Prop} {c:Value} {b:Bool}
inductive a1G (K:W.Frag) (H:Hp):V->Value->Prop where
 | non:a1G K H .non (.type "NoneType")
 | bl (x:Bool):a1G K H (.bl x) (.type "bool")
 | int (i:Int):a1G K H (.int i) (.type "int")
 | str (x:Str):a1G K H (.str x) (.type "str")
 | flt (x:UInt64):a1G K H (.flt x) (.type "float")
 | lst {a:Addr} {xs:List V} (e:H a=some (.lst xs)):a1G K H (.ref a) (.type "list")
 | frz {a:Addr} {o:Obj} {xs:List V} (e:H a=some (.frz o (.lst xs))):a1G K H (.ref a) (.type "list")
 | tup {a:Addr} {xs:List V} (e:H a=some (.tup xs)):a1G K H (.ref a) (.type "tuple")
 | dK {a:Addr} {kvs:List (Key×V)} (e:H a=some (.dK kvs)):a1G K H (.ref a) (.type "dict")
 | dT {a:Addr} {kvs:List (List Key×V)} (e:H a=some (.dT kvs)):a1G K H (.ref a) (.type "dict")
 | ins {a C dx:Addr} {fs:List (Str×V)} (e:H a=some (.ins C dx fs)) (cl:Cls K C) (ha:W.findIn K (.ref C) "__class__"=some (some (.builtin "object.__class__")))
   (hn:W.specialIn K (.builtin "object.__class__") "__get__"=some (some (.builtin "getset_descriptor.__get__"))) (htk:W.takesIn K (.builtin "object.__class__")=some true)
   (hm:W.mroIn K C (.type "object")=some true):a1G K H (.ref a) (.ref C)
end
structure Room (k:Nat) (A:Around):Prop where
 hd:A.handled=none
 dp:A.depth+3*k+5<recursionLimit
 un:A.units+16*k+200<cLine
theorem Room.mono {j k:Nat} {A:Around} (r:Room k A) (h:j<=k):Room j A:=⟨r.hd,by have:=r.dp; omega,by have:=r.un; omega⟩
theorem Room.deeper {k:Nat} {A:Around} (r:Room (k+1) A) (env:Env):Room k (A.deeper env) :=
 ⟨r.hd,by have:=r.dp; show A.depth+1+3*k+5<_; omega,by have:=r.un; show A.units+3+16*k+200<_; omega⟩
theorem Room.in1 {k:Nat} {A:Around} (r:Room (k+1) A):Room k A.in1 :=
 ⟨r.hd,by have:=r.dp; show A.depth+3*k+5<_; omega,by have:=r.un; show A.units+1+16*k+200<_; omega⟩
theorem a5P {A:Around} {C:Addr} {us:List Value} {kw:List (Str×Value)}:(A.under (.builtin "type.__call__" ⟨.ref C::us,kw⟩)).depth=A.depth+1:=by
 first | rfl | simp [Around.under,Code.weight,Code.isCreation,Code.isGuard,Code.isCaller,Code.frames,Code.isFrame,guardIds]
theorem a6l {A:Around} {C:Addr} {us:List Value} {kw:List (Str×Value)}:(A.under (.builtin "type.__call__" ⟨.ref C::us,kw⟩)).units=A.units+1:=by
 first | rfl | simp [Around.under,Code.cUnits,Code.frames,Code.isFrame]
theorem Room.make {k:Nat} {A:Around} (r:Room (k+1) A) (C:Addr) (us:List Value) (kw:List (Str×Value)):Room k (A.under (.builtin "type.__call__" ⟨.ref C::us,kw⟩)) :=
 ⟨r.hd,by have:=r.dp; rw [a5P]; omega,by have:=r.un; rw [a6l]; omega⟩
theorem Room.depth {k:Nat} {A:Around} (r:Room k A):A.depth<recursionLimit:=by have:=r.dp; omega
theorem Room.units {k:Nat} {A:Around} (r:Room k A):A.units+64<cLine:=by have:=r.un; omega
def b0W:TA:=λ _ H Q=>Q [] H
def b2e (ta:TE) (tr:TA):TA:=λ σ H Q=>ta σ H λ x H1=>tr σ H1 λ xs H2=>Q (x::xs) H2
section
variable {X:Cx} {e:Expr} {es:List Expr} {te:TE} {t:TA} {pos:Pos}
theorem c7:PA X [] b0W:=λ _ _ _ _ H Q I h=>Calls.spliced_nil ⟨[],H,I,.nil,h⟩
theorem c5 (ha:PE X e te) (hr:PA X es t) (hs:starEach (e::es) X.env=(false,eval e X.env)::starEach es X.env:=by rfl):PA X (e::es) (b2e te t):=by
 intro pos pins s σ H Q I h;rw [hs]
 show wpAny _ _ (spliced ((false,eval e X.env)::backTo pos (starEach es X.env))) _ _ s
 refine Calls.spliced_cons (B6 (ha pins s σ H _ I h) λ u s1 ⟨x,H1,I1,r1,q1⟩=>?_);exact B6 (hr pos pins s1 σ H1 _ I1 q1) λ us s2 ⟨xs,H2,I2,r2,q2⟩=>⟨x::xs,H2,I2,.cons r1 r2,q2⟩
def b5o (t:TA):TE:=λ σ H Q=>t σ H λ xs H1=>xs.length<=sizeLine/\∀ p,H1 p=none->Q (.ref p) (upd H1 p (.tup xs))
def b5Z (t:TA):TE:=λ σ H Q=>t σ H λ xs H1=>xs.length<=sizeLine/\∀ p,H1 p=none->Q (.ref p) (upd H1 p (.lst xs))
theorem O9 {x1} (h:PA X es t):PE X (.Tuple es x1 pos) (b5o t):=by
 intro pins s σ H Q I hq;refine wpAny_Tuple_spliced (B6 (h pos pins s σ H _ I hq) λ us s1 ⟨xs,H1,I1,r,z,q⟩=>⟨by rw [<- r.length]; exact z,?_⟩);have hf:H1 s1.heap.objs.size=none:=I1.hok.fresh (aF _);refine ⟨.ref s1.heap.objs.size,upd H1 s1.heap.objs.size (.tup xs),I1.laid (t':=s1.toks) (λ b u e=>Heap.get?_push_of_some _ e) (aF _) ?_,rfl,q _ hf⟩;exact ⟨z,us,r,⟨_,Heap.get?_push_size _ rfl,rfl,_,rfl⟩⟩
theorem u9 (h:PA X es t):PE X (.List es pos) (b5Z t):=by
 intro pins s σ H Q I hq;refine wpAny_List_spliced (B6 (h pos pins s σ H _ I hq) λ us s1 ⟨xs,H1,I1,r,z,q⟩=>⟨by rw [<- r.length]; exact z,?_⟩);have hf:H1 s1.heap.objs.size=none:=I1.hok.fresh (aF _);refine ⟨.ref s1.heap.objs.size,upd H1 s1.heap.objs.size (.lst xs),I1.laid (t':=s1.toks) (λ b u e=>Heap.get?_push_of_some _ e) (aF _) ?_,rfl,q _ hf⟩;exact ⟨z,us,0,r,Heap.get?_push_size _ rfl⟩
end
abbrev Sp:=List V->Hp->VK->XK->Prop
abbrev CXT:=List Env->Hp->Shared->XK->Value->Shared->Prop
structure Env0 (P:Program) (w:World) (K:W.Frag) (mg:Str->Option Value) (base:Heap) (A:Around) (outer:List Env) (s:Shared) (H:Hp):Prop where
 frames:A.frames=some outer
 mod:Mod K mg base
 bs:∀ b o,base.get? b=some o->s.heap.get? b=some o/\H b=none
 bsz:base.objs.size<=s.heap.objs.size
 funs:s.heap.FunFrames base outer
 frf:∀ b∈frs outer,H b=none
 hok:HOk P w H s.heap
 bare:AllBare s.gens
def CE (outer:List Env) (P:Program) (w:World) (H:Hp) (s:Shared) (Q:VK) (u:Value) (s':Shared):Prop :=
 ∃ v H',s'.os=s.os/\AllBare s'.gens/\Un (frs outer) [] H H' s.heap s'.heap/\HOk P w H' s'.heap/\RelV v u/\Q v H'
def CR (CX:CXT) (outer:List Env) (P:Program) (w:World) (H:Hp) (s:Shared) (Q:VK) (E:XK) (r:Result) (s':Shared):Prop :=
 match r with
 | .ok (.ret u)=>CE outer P w H s Q u s'
 | .ok _=>False
 | .error e=>CX outer H s E e s'
structure FnOk (P:Program) (w:World) (K:W.Frag) (mg:Str->Option Value) (base:Heap) (CX:CXT) (k:Nat) (f:Addr) (fd:FuncData) (ps:List Str) (sp:Sp):Prop where
 len:∀ vs H Q E,sp vs H Q E->vs.length=ps.length
 run:∀ (A:Around) (outer:List Env) (s:Shared) (H:Hp) (args:Args) (us:List Value) (vs:List V) (Q:VK) (E:XK),Room k A->Env0 P w K mg base A outer s H->BindsTo s fd args (ps.zip us)->Vals vs us->sp vs H Q E →
  codeAny (model P w) A (.call (.ref f) args) (CR CX outer P w H s Q E) s
theorem FnOk.imp {P:Program} {w:World} {K:W.Frag} {mg:Str->Option Value} {base:Heap} {CX:CXT} {k:Nat} {f:Addr} {fd:FuncData} {ps:List Str} {sp sp':Sp} (F:FnOk P w K mg base CX k f fd ps sp)
  (h:∀ vs H Q E,sp' vs H Q E->sp vs H Q E):FnOk P w K mg base CX k f fd ps sp' :=
 ⟨λ vs H Q E q=>F.len vs H Q E (h _ _ _ _ q),λ A outer s H args us vs Q E hr he hb hv hs=>F.run A outer s H args us vs Q E hr he hb hv (h _ _ _ _ hs)⟩
theorem Env0.make {P:Program} {w:World} {K:W.Frag} {mg:Str->Option Value} {base:Heap} {A:Around} {outer:List Env} {s:Shared} {H:Hp} (e:Env0 P w K mg base A outer s H) (C:Addr) (us:List Value) (kw:List (Str×Value)) :
  Env0 P w K mg base (A.under (.builtin "type.__call__" ⟨.ref C::us,kw⟩)) outer s H:=⟨by first | exact e.frames | (simpa [Around.under,Code.envs,Code.isFrame,pushEnvs] using e.frames),e.mod,e.bs,e.bsz,e.funs,e.frf,e.hok,e.bare⟩
section
variable {X:Cx} {pins:List (Addr×Obj)} {σ:St} {H:Hp} {s s':Shared}
theorem Inv.env0 (I:Inv X pins σ H s):Env0 X.prog X.w X.K X.mg X.base X.A X.stack s H :=
 ⟨I.ok.frames,I.ok.mod,I.bs,bA I.ok.bsz I.sz,I.stack,I.stkFree,I.hok,I.bare⟩
theorem Inv.after {Q:VK} {u:Value} (I:Inv X pins σ H s) (h:CE X.stack X.prog X.w H s Q u s'):EP X pins σ Q u s':=by
 obtain ⟨v,H',os,bare,un,hok,r,q⟩:=h;obtain ⟨hh,g,d,t,os'⟩:=s';obtain rfl:os'=s.os:=os;exact ⟨v,H',I.call (h':=hh) (g':=g) (d':=d) (t':=t) (ch:=[]) un hok bare (λ b z=>absurd z (by simp)),r,q⟩
end
def b4A (sp:Sp) (dvs:List V) (E:XK) (t:TA):TE:=λ σ H Q=>t σ H λ vs H1=>sp (vs++dvs) H1 Q E
def b1Z (C:Addr) (m:Str) (sp:Sp) (dvs:List V) (E:XK) (ta:TE) (t:TA):TE:=λ σ H Q=>ta σ H λ x H1=>∃ a dx fs,x=.ref a/\H1 a=some (.ins C dx fs)/\fs.lookup m=none ∧
 t σ H1 λ vs H2=>sp (x::(vs++dvs)) H2 Q E
def b4G (C:Addr) (sp:Sp) (dvs:List V) (E:XK) (t:TA):TE:=λ σ H Q=>t σ H λ vs H1=>∀ x dx,H1 x=none->H1 dx=none->dx≠x →
 sp (.ref x::(vs++dvs)) (upd (upd H1 dx (.own x)) x (.ins C dx [])) (λ v H2=>v=.non/\Q (.ref x) H2) E
def Binds (K:W.Frag) (fd:FuncData) (ps:List Str) (ds:List Value):Prop :=
 ∀ (s:Shared) (us:List Value),K.In s.heap->(us++ds).length=ps.length->BindsTo s fd ⟨us,[]⟩ (ps.zip (us++ds))
theorem Binds.all {K:W.Frag} {fd:FuncData} {ps:List Str} (h:∀ us:List Value,us.length=ps.length->bindArgs fd ⟨us,[]⟩=pure (ps.zip us)):Binds K fd ps []:=λ s us _ hl=>by
 rw [iS] at hl ⊢;exact .of_eq (h us hl)
def M6 (CX:CXT) (X:Cx) (E:XK):Prop:=∀ (pins:List (Addr×Obj)) (σ:St) (H:Hp) (s:Shared) (e:Value) (s':Shared),Inv X pins σ H s->CX X.stack H s E e s'->X.xe e s'
section
variable {X:Cx} {CX:CXT} {k:Nat} {f C:Addr} {fd:FuncData} {ps:List Str} {sp:Sp} {dvs:List V} {ds:List Value} {E:XK} {x m:Str} {p pos apos:Pos} {e o:Expr} {es:List Expr} {ta:TE} {t:TA}
theorem a6f {pins:List (Addr×Obj)} {σ:St} {H:Hp} {s:Shared} {Q:VK} {us:List Value} {vs:List V} (F:FnOk X.prog X.w X.K X.mg X.base CX k f fd ps sp) (hr:Room k X.A) (hb:Binds X.K fd ps ds) (hd:Vals dvs ds) (hx:M6 CX X E)
  (I:Inv X pins σ H s) (r:Vals vs us) (h:sp (vs++dvs) H Q E):wpAny (model X.prog X.w) X.A (call (.ref f) us) (EP X pins σ Q) X.xe s:=by
 have r2:Vals (vs++dvs) (us++ds):=r.append hd;have hl:(us++ds).length=ps.length:=by rw [<- r2.length]; exact F.len _ _ _ _ h
 refine wpAny_call (codeAny_mono (F.run X.A X.stack s H ⟨us,[]⟩ (us++ds) (vs++dvs) Q E hr I.env0 (hb s us I.kIn hl) r2 h) λ r s' hq=>?_)
 cases r with
 | error e=>exact hx pins σ H s e s' I hq
 | ok fl =>
  cases fl with
  | ret u=>exact I.after hq
  | next=>exact dB hq
  | brk=>exact dB hq
  | cont=>exact dB hq
theorem m6 (F:FnOk X.prog X.w X.K X.mg X.base CX k f fd ps sp) (hr:Room k X.A) (hg:Gl X x) (hm:X.mg x=some (.ref f)) (hk:W.keepIn X.K (.ref f)=true) (hb:Binds X.K fd ps ds) (hd:Vals dvs ds) (hx:M6 CX X E)
  (ha:PA X (e::es) t) (hdb:(x==("__debug__":Str))=false:=by decide) (he:starEach (e::es) X.env=(false,eval e X.env)::starEach es X.env:=by rfl) (hpl:(backTo pos (starEach es X.env)).any (·.1)=false:=by rfl) :
  PE X (.Call (.Name x p) (e::es) [] pos) (b4A sp dvs E t):=by
 intro pins s σ H Q I h;refine wpAny_Call_Name_kw (a1D I hg hm ?_ hdb);refine W.callWith_K (h₀:=X.base) I.ok.mod.kin hk (B6 (ha pos pins s σ H _ I h) λ us s1 ⟨vs,H1,I1,r,q⟩=>⟨I1.kIn,?_⟩) he hpl;exact a6f F hr hb hd hx I1 r q
theorem a3E {pl:Sem Bool} (he:PE X o ta) (c:Cls X.K C) (hm:b1m X.K C m f) (F:FnOk X.prog X.w X.K X.mg X.base CX k f fd ps sp) (hr:Room k X.A) (hb:Binds X.K fd ps ds) (hd:Vals dvs ds) (hx:M6 CX X E) (ha:PA X (e::es) t)
  (hst:starEach (e::es) X.env=(false,eval e X.env)::starEach es X.env:=by rfl) (hpl:(backTo pos (starEach es X.env)).any (·.1)=false:=by rfl)
  (ht:eval (.Call (.Attribute o m apos) (e::es) [] pos) X.env=(do
   let ov <- eval o X.env
   standAt apos.atName
   let (f,first) <- holding [ov] (getMethod ov m pl)
   callWith pos f first (backTo pos (starEach (e::es) X.env)) (backToKw pos (keywordEach [] X.env))):=by rfl) :
  PE X (.Call (.Attribute o m apos) (e::es) [] pos) (b1Z C m sp dvs E ta t):=by
 intro pins s σ H Q I h;refine W.methodCall_KW (pl:=pl) (B6 (he pins s σ H _ I h) λ u s1 ⟨x,H1,I1,rx,a,dx,fs,ex,ea,l,q⟩=>?_) ht;subst ex;obtain rfl:u=Value.ref a:=rx;refine a1H I1 ea c hm l ?_;refine W.callWith_K (first:=[.ref a]) (h₀:=X.base) I.ok.mod.kin hm.kp (B6 (ha pos pins s1 σ H1 _ I1 q) λ us s2 ⟨vs,H2,I2,r,q2⟩=>⟨I2.kIn,?_⟩) hst hpl;exact a6f (us:=.ref a::us) (vs:=.ref a::vs) F hr hb hd hx I2 (.cons rfl r) q2
theorem a0n {pl:Sem Bool} (he:PE X o ta) (c:Cls X.K C) (hm:b1m X.K C m f) (F:FnOk X.prog X.w X.K X.mg X.base CX k f fd ps sp) (hr:Room k X.A) (hb:Binds X.K fd ps ds) (hd:Vals dvs ds) (hx:M6 CX X E)
  (ht:eval (.Call (.Attribute o m apos) [] [] pos) X.env=(do
   let ov <- eval o X.env
   standAt apos.atName
   let (f,first) <- holding [ov] (getMethod ov m pl)
   callWith pos f first (backTo pos (starEach [] X.env)) (backToKw pos (keywordEach [] X.env))):=by rfl) :
  PE X (.Call (.Attribute o m apos) [] [] pos) (b1Z C m sp dvs E ta b0W):=by
 intro pins s σ H Q I h;refine W.methodCall_KW (pl:=pl) (B6 (he pins s σ H _ I h) λ u s1 ⟨x,H1,I1,rx,a,dx,fs,ex,ea,l,q⟩=>?_) ht;subst ex;obtain rfl:u=Value.ref a:=rx;refine a1H I1 ea c hm l ?_;exact W.callWith_K0 (first:=[.ref a]) I1.kIn hm.kp (a6f (us:=[.ref a]) (vs:=[.ref a]) F hr hb hd hx I1 (.cons rfl .nil) q)
structure Mk (K:W.Frag) (C f:Addr):Prop where
 makes:W.makesIn K C=true
 init:W.findIn K (.ref C) "__init__"=some (some (.ref f))
 fn:W.isFn K (.ref f)=true
 kp:W.keepIn K (.ref C)=true
theorem b0p {pins:List (Addr×Obj)} {σ:St} {H:Hp} {s:Shared} {Q:VK} {us:List Value} {vs:List V} (M:Mk X.K C f) (F:FnOk X.prog X.w X.K X.mg X.base CX k f fd ps sp) (hr:Room (k+1) X.A) (hb:Binds X.K fd ps ds) (hd:Vals dvs ds)
  (hx:M6 CX X E) (I:Inv X pins σ H s) (r:Vals vs us)
  (h:∀ x dx,H x=none->H dx=none->dx≠x->sp (.ref x::(vs++dvs)) (upd (upd H dx (.own x)) x (.ins C dx [])) (λ v H2=>v=.non/\Q (.ref x) H2) E) :
  wpAny (model X.prog X.w) X.A (call (.ref C) us) (EP X pins σ Q) X.xe s:=by
 have hq:=h (s.heap.objs.size+1) s.heap.objs.size (I.hok.fresh (fB _)) (I.hok.fresh (aF _)) (bD (eH _));have I2:=Inv.made (C:=C) I;have r2:Vals (V.ref (s.heap.objs.size+1)::(vs++dvs)) (Value.ref (s.heap.objs.size+1)::(us++ds)):=.cons rfl (r.append hd);have hl:(Value.ref (s.heap.objs.size+1)::us++ds).length=ps.length:=by
  have e:=r2.length;rw [F.len _ _ _ _ hq] at e;exact e.symm
 refine wpAny_call (a8p (f:=f) I.kIn M.makes M.init (beq_iff_eq.mp M.fn) (codeAny_mono (F.run _ X.stack _ _ ⟨Value.ref (s.heap.objs.size+1)::us,[]⟩ (Value.ref (s.heap.objs.size+1)::(us++ds)) _ _ E (hr.make C us [])
  (I2.env0.make C us []) (hb _ (Value.ref (s.heap.objs.size+1)::us) I2.kIn hl) r2 hq) λ r s' hq'=>?_))
 cases r with
 | error e=>exact hx pins σ _ _ e s' I2 hq'
 | ok fl =>
  cases fl with
  | ret u =>
   obtain ⟨v,H',I3,rv,ev,q3⟩:=I2.after hq';subst ev;exact ⟨rv,⟨V.ref (s.heap.objs.size+1),H',I3,rfl,q3⟩⟩
  | next=>exact dB hq'
  | brk=>exact dB hq'
  | cont=>exact dB hq'
theorem b1u (M:Mk X.K C f) (F:FnOk X.prog X.w X.K X.mg X.base CX k f fd ps sp) (hr:Room (k+1) X.A) (hg:Gl X x) (hm:X.mg x=some (.ref C)) (hb:Binds X.K fd ps ds) (hd:Vals dvs ds) (hx:M6 CX X E)
  (ha:PA X (e::es) t) (hdb:(x==("__debug__":Str))=false:=by decide) (he:starEach (e::es) X.env=(false,eval e X.env)::starEach es X.env:=by rfl) (hpl:(backTo pos (starEach es X.env)).any (·.1)=false:=by rfl) :
  PE X (.Call (.Name x p) (e::es) [] pos) (b4G C sp dvs E t):=by
 intro pins s σ H Q I h;refine wpAny_Call_Name_kw (a1D I hg hm ?_ hdb);refine W.callWith_K (h₀:=X.base) I.ok.mod.kin M.kp (B6 (ha pos pins s σ H _ I h) λ us s1 ⟨vs,H1,I1,r,q⟩=>⟨I1.kIn,?_⟩) he hpl;exact b0p M F hr hb hd hx I1 r q
end
section
variable {X:Cx} {CX:CXT} {k:Nat} {f C:Addr} {fd:FuncData} {ps ks:List Str} {sp:Sp} {E:XK} {x m:Str} {p pos apos kpos:Pos} {e o:Expr} {es:List Expr} {kws:List Keyword} {te ta:TE} {t tk:TA} {nm:Option Str}
structure b5K (K:W.Frag) (fd:FuncData) (ps ks:List Str) (g:List Value->List Value->List Value) (gV:List V->List V->List V):Prop where
 to:∀ (s:Shared) (us ws:List Value),K.In s.heap->(g us ws).length=ps.length->BindsTo s fd ⟨us,ks.zip ws⟩ (ps.zip (g us ws))
 rel:∀ {vs:List V} {us:List Value} {zs:List V} {ws:List Value},Vals vs us->Vals zs ws->Vals (gV vs zs) (g us ws)
variable {g:List Value->List Value->List Value} {gV:List V->List V->List V}
end
structure r8 (N P:List Str) (sc:Scope):Prop where
 kind:sc.kind=.function
 co:sc.isCoroutine=false
 gen:sc.isGenerator=false
 nd:N.Nodup
 pre:N.take P.length=P
 par:∀ x∈P,sc.names.lookup x=some .local\/sc.names.lookup x=some .cell
 nofree:∀ y∈sc.names,y.2≠.free
theorem a3b {kindOf:Str->Option NameKind} {x:Str}:∀ {binds:List (Str×Value)} {m:Str->Option Value},(∀ v,(x,v) ∉ binds)->bindL kindOf binds m x=m x
 | [],_,_=>rfl
 | (n,v)::r,m,h=>by
  unfold bindL;rw [a3b λ w hw=>h w (bL _ hw)]
  split
  ·have:x≠n:=by rintro rfl; exact h v cJ
   simp [this]
  ·rfl
theorem a2Z {kindOf:Str->Option NameKind} {x:Str}:∀ {binds:List (Str×Value)} {m:Str->Option Value},(∀ v,(x,v) ∉ binds)->bindC kindOf binds m x=m x
 | [],_,_=>rfl
 | (n,v)::r,m,h=>by
  unfold bindC;rw [a2Z λ w hw=>h w (bL _ hw)]
  split
  ·rfl
  ·have:x≠n:=by rintro rfl; exact h v cJ
   simp [this]
theorem a2W {kindOf:Str->Option NameKind} {x:Str} {v:Value}:∀ {P:List Str} {vs:List Value} {i:Nat} {m:Str->Option Value},P.Nodup->P[i]?=some x->vs[i]?=some v->kindOf x=some .local →
  bindL kindOf (P.zip vs) m x=some v
 | [],_,_,_,_,h,_,_=>by simp at h
 | _::_,[],_,_,_,_,h,_=>by simp at h
 | p::P,w::vs,0,m,nd,h1,h2,hk=>by
  simp at h1 h2; subst h1; subst h2
  show bindL kindOf ((p,w)::P.zip vs) m p=_
  unfold bindL;rw [a3b λ v hv=>(gN.mp nd).1 (iT hv).1,if_pos hk];simp
 | p::P,w::vs,i+1,m,nd,h1,h2,hk=>by
  show bindL kindOf ((p,w)::P.zip vs) m x=_
  unfold bindL;exact a2W (i:=i) (gN.mp nd).2 (by simpa using h1) (by simpa using h2) hk
theorem a3e {kindOf:Str->Option NameKind} {x:Str} {v:Value}:∀ {P:List Str} {vs:List Value} {i:Nat} {m:Str->Option Value},P.Nodup->P[i]?=some x->vs[i]?=some v->kindOf x≠some .local →
  bindC kindOf (P.zip vs) m x=some v
 | [],_,_,_,_,h,_,_=>by simp at h
 | _::_,[],_,_,_,_,h,_=>by simp at h
 | p::P,w::vs,0,m,nd,h1,h2,hk=>by
  simp at h1 h2; subst h1; subst h2
  show bindC kindOf ((p,w)::P.zip vs) m p=_
  unfold bindC;rw [a2Z λ v hv=>(gN.mp nd).1 (iT hv).1,if_neg hk];simp
 | p::P,w::vs,i+1,m,nd,h1,h2,hk=>by
  show bindC kindOf ((p,w)::P.zip vs) m x=_
  unfold bindC;exact a3e (i:=i) (gN.mp nd).2 (by simpa using h1) (by simpa using h2) hk
def T0 (N:List Str) (vs:List V):St:=vs.map some++aI (N.length - vs.length) none
def J6 (CX:CXT) (P:Program) (w:World) (K:W.Frag) (mg:Str->Option Value) (base:Heap) (N:List Str) (qual:Str) (scope:Scope) (f:Addr) (cd:Value) (A:Around) (outer:List Env) (s:Shared) (H:Hp) (E:XK):Cx where
 prog:=P
 w:=w
 K:=K
 mg:=mg
 base:=base
 A:=A.deeper (envOfC qual scope s.heap.objs.size f cd)
 N:=N
 s₀:=s
 H₀:=H
 env:=envOfC qual scope s.heap.objs.size f cd
 outer:=outer
 stack:=envOfC qual scope s.heap.objs.size f cd::outer
 ex:=[]
 calm:=true
 fn:=λ _=>true
 pn:=[]
 xe:=λ e s'=>wpAny (model P w) (A.deeper (envOfC qual scope s.heap.objs.size f cd)) (leaving (envOfC qual scope s.heap.objs.size f cd) e) (λ _ s''=>CX outer H s E e s'') (λ e' s''=>CX outer H s E e' s'') s'
theorem a5h {sc:Scope} {n:Nat} {x:Str} (h:sc.names.lookup x=some .cell):∃ c,(cellsFrom n sc.names []).lookup x=some c:=by
 have q:=W.cellsFrom_some sc.names n [] (.inl h);exact Option.isSome_iff_exists.mp q
theorem a7T {CX:CXT} {P:Program} {w:World} {K:W.Frag} {mg:Str->Option Value} {base:Heap} {N ps:List Str} {qual:Str} {scope:Scope} {f:Addr} {cd:Value} {A:Around} {outer:List Env} {s s1:Shared} {H:Hp} {E:XK} {us:List Value} {vs:List V}
  (S:r8 N ps scope) (hd:A.handled=none) (e0:Env0 P w K mg base A outer s H) (hl:vs.length=ps.length) (r:Vals vs us)
  (x:InCallC s s.heap.objs.size (bindL (envOfC qual scope s.heap.objs.size f cd).kindOf (ps.zip us) λ _=>none) (cellsFrom (s.heap.objs.size+1) scope.names []) (bindC (envOfC qual scope s.heap.objs.size f cd).kindOf (ps.zip us) λ _=>none) s1) :
  Inv (J6 CX P w K mg base N qual scope f cd A outer s H E) [] (T0 N vs) H s1:=by
 have hpl:ps.length<=N.length:=by have:=congrArg fD S.pre; rw [bX] at this; omega
 obtain ⟨h1,tk,rfl,hk⟩:=x.done;have noA:∀ b:Addr,b ∉ (J6 CX P w K mg base N qual scope f cd A outer s H E).ex:=λ b z=>absurd (show b∈([]:List Addr) from z) (by simp);refine ⟨⟨e0.mod,S.kind,rfl,rfl,aF _,λ y z c h1 h2=>?_,λ y hy=>?_,λ y c _ h=>?_,λ _=>hd,Around.frames_deeper e0.frames,.inr ⟨rfl,rfl⟩,λ b z=>absurd z (noA b),e0.bs,e0.bsz,λ b _ _=>noA b,λ b z=>absurd z (noA b),e0.funs,e0.frf⟩,
  rfl,e0.bare,Un.kept hk,⟨_,x.toInCall.ns,λ i y v h1 h2 h3=>?_⟩,λ y c h=>⟨_,x.cell y c h⟩,e0.hok.fresh (aF _),λ y c h=>?_,λ p hp=>absurd (show p∈([]:List (Addr×Obj)) from hp) (by simp),e0.hok.kept hk,?_⟩
 ·exact name_of_addr x.apart (gB h1) (gB h2)
 ·have hy:scope.names.lookup y=some .cell\/scope.names.lookup y=some .free:=hy
  rcases hy with hy | hy
  ·exact a5h hy
  ·exact absurd rfl (S.nofree _ (gB hy))
 ·exact cP (x.above y c (gB h))
 ·have hi:i<vs.length:=by
   unfold T0 at h2
   by_cases hi:i<vs.length
   ·exact hi
   ·rw [bU (by simpa using hi)] at h2
    rw [dI] at h2
    split at h2 <;> cases h2
  have ha:vs[i]?=some v:=by
   unfold T0 at h2;rw [bF (by simpa using hi),aE] at h2
   cases e:vs[i]? with
   | none=>rw [e] at h2; cases h2
   | some a=>rw [e] at h2; cases h2; rfl
  obtain ⟨u,hu,rv⟩:=r.get ha;have hp:ps[i]?=some y:=by
   rw [<- S.pre,jZ (by omega)]; exact h1
  have ndP:ps.Nodup:=by rw [<- S.pre]; exact S.nd.sublist (List.take_sublist _ _)
  refine ⟨u,rv,?_⟩;rcases S.par y (aU hp) with k | k
  ·exact .inl ⟨k,a2W ndP hp hu k⟩
  ·obtain ⟨c,e⟩:=a5h (n:=s.heap.objs.size+1) k
   refine .inr ⟨.inl k,c,e,?_⟩;have q:=x.cell y c e;rw [a3e ndP hp hu (by show scope.names.lookup y≠_; rw [k]; decide)] at q;exact q
 ·exact e0.hok.fresh (cP (x.above y c (gB h)))
 ·unfold T0
  show _=N.length
  rw [aJ,aA,cA];omega
theorem a8E {CX:CXT} {P:Program} {w:World} {K:W.Frag} {mg:Str->Option Value} {base:Heap} {k:Nat} {f:Addr} {name qual:Str} {params:Arguments} {body:List Stmt} {scope:Scope} {dV kV doc pm cdv ct oc:Value} {an od:Option Addr}
  {osl:Array (Option Value)} {N ps:List Str} {sp:Sp} (lk:K.lookup f=some ⟨oc,od,.func (W.fnOf name qual params body scope dV kV doc pm an cdv ct),osl⟩) (hcd:W.codeIn K cdv qual=true) (S:r8 N ps scope)
  (len:∀ vs H Q E,sp vs H Q E->vs.length=ps.length)
  (hbody:∀ (A:Around) (outer:List Env) (s:Shared) (H:Hp) (vs:List V) (Q:VK) (E:XK),Room k (A.deeper (envOfC qual scope s.heap.objs.size f cdv))->sp vs H Q E →
   ∃ t,PSs (J6 CX P w K mg base N qual scope f cdv A outer s H E) body t/\t { nx:=λ _ H'=>Q .non H',rt:=Q } (T0 N vs) H) :
  FnOk P w K mg base CX (k+1) f (W.fnOf name qual params body scope dV kV doc pm an cdv ct) ps sp:=by
 refine ⟨len,λ A outer s H args us vs Q E hr e0 hb r hsp=>?_⟩;have hl:=len _ _ _ _ hsp;have KX:K.In s.heap:=e0.mod.kin.keeps λ b o e=>(e0.bs b o e).1;have lim:s.heap.NoLimit:=e0.mod.nolimit.keeps λ b o e=>(e0.bs b o e).1;have hkind:∀ y∈ps.zip us,scope.names.lookup y.1=some .local\/(scope.names.lookup y.1=some .cell/\((cellsFrom (s.heap.objs.size+1) scope.names []).lookup y.1).isSome=true):=λ ⟨n,v⟩ hy=>by
  rcases S.par n (iT hy).1 with q | q
  ·exact .inl q
  ·exact .inr ⟨q,W.cellsFrom_some _ _ _ (.inl q)⟩
 refine codeAny_call_function hr.depth (KX _ _ lk) rfl S.co S.gen rfl (W.codeRec_of KX hcd) (hb _ _ _ _ ?_);refine wpAny_newFunctionEnv_cells S.kind hkind λ env he s1 x=>?_;subst he;refine ⟨lim.keeps x.toInCall.keep,codeAny_func ?_⟩;obtain ⟨t,ht,hq⟩:=hbody A outer s H vs Q E (hr.deeper _) hsp;have I:Inv (J6 CX P w K mg base N qual scope f cdv A outer s H E) [] (T0 N vs) H s1:=a7T S hr.hd e0 hl r x;refine wpAny_mono (ht [] s1 (T0 N vs) H _ I hq) (λ fl s' hs=>?_) λ e s' hs=>hs;have fin:∀ {σ':St} {H':Hp} {v:V} {u:Value},Inv (J6 CX P w K mg base N qual scope f cdv A outer s H E) [] σ' H' s'->RelV v u->Q v H'->CE outer P w H s Q u s' :=
  λ {σ' H' v u} J rv q=>⟨v,H',J.os,J.bare,J.base,J.hok,rv,q⟩
 cases fl with
 | ret u =>
  obtain ⟨v,σ',H',J,rv,q⟩:=hs;exact fin J rv q
 | next =>
  obtain ⟨σ',H',J,q⟩:=hs;exact fin (v:=V.non) (u:=Value.none) J rfl q
 | brk =>
  obtain ⟨_,_,_,q⟩:=hs;exact dB q
 | cont =>
  obtain ⟨_,_,_,q⟩:=hs;exact dB q
section
variable {X:Cx} {x:Str} {p pos:Pos} {e:Expr} {es:List Expr} {t:TA} {id T:String} {r:List V->Hp->VK->Prop}
def tCB (r:List V->Hp->VK->Prop) (t:TA):TE:=λ σ H Q=>t σ H λ vs H1=>r vs H1 Q
theorem m9 (hc:M2 X (.builtin id) r) (hg:Gl X x) (hm:X.mg x=none) (hv:bootBuiltins x=some (.builtin id)) (ha:PA X (e::es) t) (hn:x≠"__name__":=by decide) (hdb:(x==("__debug__":Str))=false:=by decide)
  (he:starEach (e::es) X.env=(false,eval e X.env)::starEach es X.env:=by rfl) (hpl:(backTo pos (starEach es X.env)).any (·.1)=false:=by rfl):PE X (.Call (.Name x p) (e::es) [] pos) (tCB r t):=by
 intro pins s σ H Q I h;refine wpAny_Call_Name_kw (S5 I hg hm hv ?_ hn hdb);exact kA (B6 (ha pos pins s σ H _ I h) λ us s1 ⟨vs,H1,I1,r1,q1⟩=>hc pins s1 σ H1 vs us Q I1 r1 q1) he hpl
theorem v9 (hc:M2 X (.type T) r) (hg:Gl X x) (hm:X.mg x=none) (hv:bootBuiltins x=some (.type T)) (ha:PA X (e::es) t) (hn:x≠"__name__":=by decide) (hdb:(x==("__debug__":Str))=false:=by decide)
  (he:starEach (e::es) X.env=(false,eval e X.env)::starEach es X.env:=by rfl) (hpl:(backTo pos (starEach es X.env)).any (·.1)=false:=by rfl):PE X (.Call (.Name x p) (e::es) [] pos) (tCB r t):=by
 intro pins s σ H Q I h;refine wpAny_Call_Name_kw (S5 I hg hm hv ?_ hn hdb);exact fP (B6 (ha pos pins s σ H _ I h) λ us s1 ⟨vs,H1,I1,r1,q1⟩=>hc pins s1 σ H1 vs us Q I1 r1 q1) he hpl
end
end L2
namespace HT
open PySem PyProof.Rows
section
open PySem.SeqAt
open PySem.AutoSeq1 (wpAny_loadPart')
open PySem.MeetsSeq PySem.MeetsSeq2 PySem.MeetsSeq3
end
section
variable {prog:Program} {w:World} {A:Around} {E:Value->Shared->Prop} {s:Shared}
theorem cat_tup {t b:Addr} {vs ws:List Value} {Q:Value->Shared->Prop} (ht:IsTup s.heap t vs.toArray) (hb:IsTup s.heap b ws.toArray) (hv:vs≠[])
  (h1:ws=[]->Q (.ref t) s) (h2:ws≠[]->Q (.ref s.heap.objs.size) { s with heap:=s.heap.push { cls:=.type "tuple",data:=.seq (vs++ws).toArray } })
  (hsz:vs.length+ws.length<=sizeLine):wpAny (model prog w) A (binaryOp .Add (.ref t) (.ref b)) Q E s:=by
 obtain ⟨⟨cls,dd,data,sl⟩,ho,hc,n,hd⟩:=id ht;obtain ⟨⟨cls2,dd2,data2,sl2⟩,ho2,hc2,n2,hd2⟩:=id hb;simp only at hc hd hc2 hd2;subst hc hd hc2 hd2;have e:vs.toArray++ws.toArray=(vs++ws).toArray:=by simp
 by_cases hw:ws=[]
 ·exact concat_meets ⟨_,ho,rfl⟩ ⟨_,ho2,rfl⟩ noFill_tuple_add seq_tuple_add kB kD (kF _ _)
   (tuple_addW1 t b vs.toArray ws.toArray n n2 dd dd2 sl sl2 (by simpa using hv) (by simp [hw])) ⟨ho,ho2,h1 hw⟩
 ·refine concat_meets ⟨_,ho,rfl⟩ ⟨_,ho2,rfl⟩ noFill_tuple_add seq_tuple_add kB kD (kF _ _)
   (tuple_addW2 t b vs.toArray ws.toArray n n2 dd dd2 sl sl2 (by simpa using hv) (by simpa using hw) (by rw [bM,bM]; exact hsz)) ⟨ho,ho2,?_⟩
  rw [e];exact h2 hw
def sIx (n d:Nat):Option Int->Nat
 | none=>d
 | some v=>if v<0 then (v+(n:Int)).toNat else min v.toNat n
theorem sIx_none (n d:Nat):sIx n d none=d:=rfl
theorem sIx_nat (n d k:Nat):sIx n d (some (k:Int))=min k n:=by
 show (if (k:Int)<0 then ((k:Int)+(n:Int)).toNat else min (k:Int).toNat n)=min k n
 rw [if_neg (by omega),aV]
end
end HT
namespace L2
open PySem PySem.Spec PyProof.Rows
abbrev TO:=St->Hp->(Option Int->Hp->Prop)->Prop
def PO (X:Cx) (e:Option Expr) (t:TO):Prop :=
 ∀ (pins:List (Addr×Obj)) (s:Shared) (σ:St) (H:Hp) (Q:Option Int->Hp->Prop),Inv X pins σ H s->t σ H Q →
  wpAny (model X.prog X.w) X.A (evalPart e X.env) (λ u s'=>∃ o H',Inv X pins σ H' s'/\IsPart u o/\Q o H') X.xe s
def b0u:TO:=λ _ H Q=>Q none H
def b4L (t:TE):TO:=λ σ H Q=>t σ H λ x H1=>∃ i,x=.int i/\Q (some i) H1
section
variable {X:Cx} {e:Expr} {te:TE} {lo hi:Option Expr} {tl th:TO} {pos p2:Pos}
theorem O8:PO X none b0u:=by
 intro pins s σ H Q I h;rw [evalPart_none];exact wpAny_pure ⟨none,H,I,.none,h⟩
theorem B8 (h:PE X e te):PO X (some e) (b4L te):=by
 intro pins s σ H Q I hw;rw [evalPart_some];refine B6 (h pins s σ H _ I hw) λ u s1 ⟨x,H1,I1,r1,q1⟩=>?_;obtain ⟨i,rfl,q⟩:=q1;obtain ⟨t,rfl⟩:=r1;exact ⟨some i,H1,I1,.int i t,q⟩
def SlR (X:Cx) (r:V->Option Int->Option Int->Hp->VK->Prop):Prop :=
 ∀ (pins:List (Addr×Obj)) (s:Shared) (σ:St) (H:Hp) (x:V) (v vl vu:Value) (lo hi:Option Int) (sl:Addr) (Q:VK),Inv X pins σ H s->RelV x v->s.heap.IsSliceOf sl vl vu .none->IsPart vl lo->IsPart vu hi->r x lo hi H Q →
  ∃ T id,typeLookup (.type T) "__getitem__"=pure (some (.builtin id))/\s.TypeIs v T/\wpAny (model X.prog X.w) X.A (getItem v (.ref sl)) (EP X pins σ Q) X.xe s
def tSl (r:V->Option Int->Option Int->Hp->VK->Prop) (te:TE) (tl th:TO):TE:=λ σ H Q=>te σ H λ x H1=>tl σ H1 λ l H2=>th σ H2 λ u H3=>r x l u H3 Q
theorem C8 {r:V->Option Int->Option Int->Hp->VK->Prop} (hr:SlR X r) (he:PE X e te) (hl:PO X lo tl) (hu:PO X hi th):PE X (.Subscript e (.Slice lo hi none p2) pos) (tSl r te tl th):=by
 intro pins s σ H Q I h;refine Subscript_ (B6 (he pins s σ H _ I h) λ v s1 ⟨x,H1,I1,r1,q1⟩=>?_);refine wpAny_Slice (B6 (hl pins s1 σ H1 _ I1 q1) λ vl s2 ⟨l,H2,I2,pl,q2⟩=>B6 (hu pins s2 σ H2 _ I2 q2) λ vu s3 ⟨u,H3,I3,pu,q3⟩=>?_);rw [evalPart_none];refine wpAny_pure ?_;have I4:Inv X pins σ H3 { s3 with heap:=s3.heap.push { cls:=.type "slice",data:=.fields #[vl,vu,.none] } }:=I3.kept (t':=s3.toks) λ b ob q=>Heap.get?_push_of_some _ q;obtain ⟨T,id,hT,ht,hg⟩:=hr pins { s3 with heap:=s3.heap.push { cls:=.type "slice",data:=.fields #[vl,vu,.none] } } σ H3 x v vl vu l u s3.heap.objs.size Q I4 r1 (Heap.IsSliceOf.new ..) pl pu q3
 show wpAny (model X.prog X.w) X.A (subscriptTail e (.Slice lo hi none p2) v (.ref s3.heap.objs.size)) (EP X pins σ Q) X.xe { s3 with heap:=s3.heap.push { cls:=.type "slice",data:=.fields #[vl,vu,.none] } }
 exact tail_any (ops:=[.ref s3.heap.objs.size,v]) ht hT hg (by with_unfolding_all rfl)
def A7 (xs:List V) (lo hi:Option Int):List V:=(xs.drop (HT.sIx xs.length 0 lo)).take (HT.sIx xs.length xs.length hi - HT.sIx xs.length 0 lo)
theorem a0Z (xs:List V) (lo hi:Option Int):(A7 xs lo hi).length<=xs.length:=by
 unfold A7;rw [bX,dL];omega
def b4n (K:W.Frag):R2:=λ x y H Q=>∃ a b xs ys,x=.ref a/\y=.ref b/\SqT K H a xs/\SqT K H b ys/\xs≠[]/\xs.length+ys.length<=sizeLine ∧
 (ys=[]->Q (.ref a) H)/\(ys≠[]->∀ p,H p=none->Q (.ref p) (upd H p (.tup (xs++ys))))
theorem Vals.nil_iff {xs:List V} {us:List Value} (r:Vals xs us):us=[] ↔ xs=[]:=by
 cases r with
 | nil=>simp
 | cons _ _=>simp
theorem a7d:X7 X (binaryOp .Add) (b4n X.K):=by
 intro pins s σ H x y v u Q I rx ry h;obtain ⟨a,b,xs,ys,rfl,rfl,ha,hb,hx,hz,q1,q2⟩:=h
 cases rx
 cases ry;obtain ⟨its,r1,p1,_⟩:=I.tuple ha;obtain ⟨its2,r2,p2,_⟩:=I.tuple hb;refine HT.cat_tup p1 p2 (λ z=>hx (r1.nil_iff.mp z)) (λ z=>⟨.ref a,H,I,rfl,q1 (r2.nil_iff.mp z)⟩) (λ z=>?_) (by rw [<- r1.length,<- r2.length]; exact hz);refine ⟨.ref s.heap.objs.size,_,I.laid (t':=s.toks) (o:=.tup (xs++ys)) (λ b ob q=>Heap.get?_push_of_some _ q) (aF _) ?_,rfl,q2 (λ w=>z (r2.nil_iff.mpr w)) _ (I.hok.fresh (aF _))⟩;exact ⟨by rw [aJ]; exact hz,_,r1.append r2,IsTup.new _ _⟩
end
def ixN (n:Nat) (i:Int):Option Nat:=if 0<=i then (if i<n then some i.toNat else none) else if -(n:Int)<=i then some (i+n).toNat else none
def S8 {α:Type} (xs:List α) (i:Int):Option α:=(ixN xs.length i).bind λ j=>xs[j]?
theorem a6p {n:Nat} {i:Int} {j:Nat} (h:ixN n i=some j):seqIndex? i n=some j/\j<n/\-(n:Int)<=i/\i<n:=by
 unfold ixN at h
 by_cases h0:0<=i
 ·rw [if_pos h0] at h
  by_cases h1:i<n
  ·rw [if_pos h1] at h
   have e:i.toNat=j:=aM h;exact ⟨by rw [seqIndex_of h0 h1,e],by omega,by omega,h1⟩
  ·rw [if_neg h1] at h; cases h
 ·rw [if_neg h0] at h
  by_cases h1:-(n:Int)<=i
  ·rw [if_pos h1] at h
   have e:(i+n).toNat=j:=aM h;exact ⟨by rw [seqIndex_neg (by omega) h1,e],by omega,h1,by omega⟩
  ·rw [if_neg h1] at h; cases h
theorem a7a {α:Type} {xs:List α} {i:Int} {v:α} (h:S8 xs i=some v):∃ j,seqIndex? i xs.length=some j/\xs[j]?=some v/\j<xs.length/\-(xs.length:Int)<=i/\i<xs.length:=by
 unfold S8 at h
 cases e:ixN xs.length i with
 | none=>rw [e] at h; cases h
 | some j =>
  rw [e] at h;obtain ⟨h1,h2,h3,h4⟩:=a6p e;exact ⟨j,h1,h,h2,h3,h4⟩
theorem v8 {α:Type} {xs:List α} {j:Nat} {v:α} (h:xs[j]?=some v):S8 xs (j:Int)=some v:=by
 have hj:j<xs.length:=(aY.mp h).1;have e:ixN xs.length (j:Int)=some j:=by
  unfold ixN;rw [if_pos (by omega),if_pos (by omega)]; simp
 unfold S8; rw [e]; exact h
theorem a0s {α:Type} (xs:List α) (v:α):S8 (xs++[v]) (-1)=some v:=by
 have hl:(xs++[v]).length=xs.length+1:=by simp
 have e:ixN (xs++[v]).length (-1)=some xs.length:=by
  unfold ixN;rw [hl,if_neg (by decide),if_pos (by omega)]
  congr 1
  omega
 unfold S8;rw [e]
 show (xs++[v])[xs.length]?=some v
 simp
def b1n (b:Expr):Prop:=∀ o i,subscripted b false o i=operate [o,i] (getItem o i)
def IxR (X:Cx) (r:R2):Prop :=
 ∀ (value slice:Expr) (pins:List (Addr×Obj)) (s:Shared) (σ:St) (H:Hp) (x y:V) (v u:Value) (Q:VK),Inv X pins σ H s->RelV x v->RelV y u->r x y H Q →
  subscripted slice false v u=operate [v,u] (getItem v u)->wpAny (model X.prog X.w) X.A (subscriptTail value slice v u) (EP X pins σ Q) X.xe s
def MtR (X:Cx) (id:String) (r:V->List V->Hp->VK->Prop):Prop :=
 ∀ (pins:List (Addr×Obj)) (s:Shared) (σ:St) (H:Hp) (x:V) (xs:List V) (v:Value) (us:List Value) (Q:VK),Inv X pins σ H s->RelV x v->Vals xs us->r x xs H Q →
  wpAny (model X.prog X.w) X.A (call (.builtin id) (v::us)) (EP X pins σ Q) X.xe s
section
variable {X:Cx} {a b:Expr} {ta tb:TE} {pos:Pos}
theorem m8 {r:R2} (hr:IxR X r) (ha:PE X a ta) (hb:PE X b tb) (hs:b1n b):PE X (.Subscript a b pos) (tOp r ta tb):=by
 intro pins s σ H Q I h;exact Subscript_ (b2U ha hb I h λ v u s2 x y H2 I2 rx ry q=>hr a b pins s2 σ H2 x y v u Q I2 rx ry q (hs _ _))
def b4c (K:W.Frag):R2:=λ x y H Q=>∃ p xs i v,x=.ref p/\y=.int i/\SqL K H p xs/\S8 xs i=some v/\Q v H
def b4W (K:W.Frag):R2:=λ x y H Q=>∃ p xs i v,x=.ref p/\y=.int i/\SqT K H p xs/\S8 xs i=some v/\Q v H
theorem j6:IxR X (b4c X.K):=by
 intro value slice pins s σ H x y v u Q I rx ry h hs;obtain ⟨p,xs,i,z,rfl,rfl,hq,he,q⟩:=h
 cases rx;obtain ⟨t,rfl⟩:=ry;obtain ⟨its,r,pl,hz⟩:=I.list hq;obtain ⟨j,h1,h2,h3,h4,h5⟩:=a7a he;obtain ⟨w,ew,rw'⟩:=r.get h2;have hl:=r.length;have hn:=a3G;have fin:EP X pins σ Q w s:=⟨z,H,I,rw',q⟩
 by_cases h0:0<=i
 ·have hj:i.toNat=j:=by
   rw [seqIndex_of h0 h5] at h1;exact aM h1
  exact item_listR pl.isList h0 (by omega) (by rw [hj]; simpa using ew) fin hs
 ·have hj:(i+(its.toArray.size:Int)).toNat=j:=by
   rw [seqIndex_neg (by omega) h4] at h1;rw [bM,<- hl];exact aM h1
  exact subscriptTail_builtinR (x:=w) pl.isList.typeIs slot_list_getitem.lookup
   (wpAny_getItem_list_neg (Q:=λ r s'=>r=w/\EP X pins σ Q r s') pl.isList (by omega) (by rw [bM] <;> omega) (by omega) (by rw [hj]; simpa using ew) ⟨rfl,fin⟩) hs
theorem a0v:IxR X (b4W X.K):=by
 intro value slice pins s σ H x y v u Q I rx ry h hs;obtain ⟨p,xs,i,z,rfl,rfl,hq,he,q⟩:=h
 cases rx;obtain ⟨t,rfl⟩:=ry;obtain ⟨its,r,pl,hz⟩:=I.tuple hq;obtain ⟨j,h1,h2,h3,h4,h5⟩:=a7a he;obtain ⟨w,ew,rw'⟩:=r.get h2;have hl:=r.length;have hn:=a3G;have fin:EP X pins σ Q w s:=⟨z,H,I,rw',q⟩;exact subscriptTail_builtinR (x:=w) pl.typeIs slot_tuple_getitem.lookup
  (getItem_tuple (j:=j) (Q:=λ r s'=>r=w/\EP X pins σ Q r s') pl (by omega) (by omega) (by rw [bM,<- hl]; exact h1) (by simpa using ew) ⟨rfl,fin⟩) hs
theorem a5K (its:List Value) (n j:Nat) (u:Value):Obj.mapSeq (·.setIfInBounds j u) { cls:=.type "list",data:=.seq its.toArray n }={ cls:=.type "list",data:=.seq (its.set j u).toArray n }:=by
 simp [Obj.mapSeq]
theorem Inv.lst {pins:List (Addr×Obj)} {σ:St} {H:Hp} {s:Shared} {p:Addr} {xs:List V} (I:Inv X pins σ H s) (h:H p=some (.lst xs)) :
  ∃ (its:List Value) (n:Nat),Vals xs its/\s.heap.get? p=some { cls:=.type "list",data:=.seq its.toArray n }/\xs.length<=sizeLine:=by
 obtain ⟨z,its,n,r,e⟩:=I.hok p _ h;exact ⟨its,n,r,e,z⟩
theorem Inv.lstUpd {pins:List (Addr×Obj)} {σ:St} {H:Hp} {s:Shared} {p:Addr} {xs ys:List V} {its its':List Value} {n n':Nat} {f:Obj->Obj} (I:Inv X pins σ H s) (h:H p=some (.lst xs))
  (ho:s.heap.get? p=some { cls:=.type "list",data:=.seq its.toArray n }) (hf:f { cls:=.type "list",data:=.seq its.toArray n }={ cls:=.type "list",data:=.seq its'.toArray n' }) (r:Vals ys its') (hz:ys.length<=sizeLine) (t:Nat) :
  Inv X pins σ (upd H p (.lst ys)) { s with heap:=s.heap.update p f,toks:=t }:=by
 have e:(s.heap.update p f).get? p=some { cls:=.type "list",data:=.seq its'.toArray n' }:=by
  rw [Heap.get?_update_self f ho (by rw [hf] <;> rfl),hf]
 refine I.write (x:=p) (e:=p) (by rw [h]; trivial) (.inl rfl) (λ b u hb q=>(Heap.get?_update_other _ _ (aO hb)).trans q) ⟨_,e⟩ ?_;exact ⟨hz,its',n',r,e⟩
def b4a:V->V->V->Hp->(Hp->Prop)->Prop:=λ o i v H Q=>∃ p xs k j,o=.ref p/\i=.int k/\H p=some (.lst xs)/\ixN xs.length k=some j/\Q (upd H p (.lst (xs.set j v)))
theorem E8:b4f X b4a:=by
 intro pins s σ H o i v ov iv u Q I ro ri rv h;obtain ⟨p,xs,k,j,rfl,rfl,hp,hj,q⟩:=h
 cases ro;obtain ⟨t,rfl⟩:=ri;obtain ⟨its,n,r,ho,hz⟩:=I.lst hp;obtain ⟨h1,h2,h3,h4⟩:=a6p hj;have hl:=r.length;have hn:=a3G;have I':Inv X pins σ (upd H p (.lst (xs.set j v))) { s with heap:=s.heap.update p (Obj.mapSeq (·.setIfInBounds j u)) } :=
  I.lstUpd hp ho (a5K its n j u) (r.set rv j) (by rw [bY]; exact hz) s.toks
 by_cases h0:0<=k
 ·have hk:k.toNat=j:=by
   rw [seqIndex_of h0 h4] at h1;exact aM h1
  exact W.ki_setAt ho h0 (by omega) (by rw [bM,<- hl]; exact h4) (by rw [hk]; exact ⟨_,I',q⟩)
 ·have hk:(k+(its.toArray.size:Int)).toNat=j:=by
   rw [seqIndex_neg (by omega) h3] at h1;rw [bM,<- hl];exact aM h1
  exact W.ki_setBack ho (by omega) (by rw [bM,<- hl]; exact h3) (by omega) (by rw [hk]; exact ⟨_,I',q⟩)
theorem a3A (lo hi:Option Int) (n:Nat):(sliceBounds lo hi none n).1=((HT.sIx n 0 lo:Nat):Int)/\(sliceBounds lo hi none n).2.1=((HT.sIx n n hi:Nat):Int)/\(sliceBounds lo hi none n).2.2=1:=by
 refine ⟨?_,?_,rfl⟩
 ·cases lo with
  | none=>simp [sliceBounds,HT.sIx]
  | some i =>
   simp only [sliceBounds,HT.sIx,kH,show (1:Int)>0 by decide,if_true]
   by_cases h:i<0
   ·simp only [h,if_true] <;> omega
   ·simp only [h,if_false] <;> omega
 ·cases hi with
  | none=>simp [sliceBounds,HT.sIx]
  | some i =>
   simp only [sliceBounds,HT.sIx,kH,show (1:Int)>0 by decide,if_true]
   by_cases h:i<0
   ·simp only [h,if_true] <;> omega
   ·simp only [h,if_false] <;> omega
theorem a2I (its:List Value) (lo hi:Option Int):slicePick its.toArray lo hi none=((its.drop (HT.sIx its.length 0 lo)).take (HT.sIx its.length its.length hi - HT.sIx its.length 0 lo)).toArray:=by
 obtain ⟨h1,h2,h3⟩:=a3A lo hi its.toArray.size;unfold slicePick;rw [h1,h2,h3];simp only [sliceRange_one,pick_run,bM] <;> rfl
def b3L (K:W.Frag):V->Option Int->Option Int->Hp->VK->Prop:=λ x lo hi H Q=>∃ a xs,x=.ref a/\SqL K H a xs/\∀ p,H p=none->Q (.ref p) (upd H p (.lst (A7 xs lo hi)))
theorem G4:SlR X (b3L X.K):=by
 intro pins s σ H x v vl vu lo hi sl Q I rx hs pl pu h;obtain ⟨a,xs,rfl,hx,q⟩:=h
 cases rx;obtain ⟨its,r,ht,hz⟩:=I.list hx;have hlen:=r.length;refine ⟨"list",_,slot_list_getitem.lookup,ht.isList.typeIs,?_⟩;refine wpAny_getItem_list_slice ht.isList hs pl pu .none (by simp) ?_ (by rw [bM] <;> omega);rw [a2I,<- hlen];refine ⟨.ref s.heap.objs.size,_,I.laid (t':=s.toks) (o:=.lst (A7 xs lo hi)) (λ b ob q=>Heap.get?_push_of_some _ q) (aF _) ?_,rfl,q _ (I.hok.fresh (aF _))⟩;exact ⟨Nat.le_trans (a0Z xs lo hi) hz,_,0,(r.drop (HT.sIx xs.length 0 lo)).take (HT.sIx xs.length xs.length hi - HT.sIx xs.length 0 lo),Heap.get?_push_size _ rfl⟩
def a0c:V->Bool
 | .non=>true
 | .bl _=>true
 | .int _=>true
 | .str _=>true
 | _=>false
def eqV:V->V->Bool
 | .non,.non=>true
 | .bl a,.bl b=>a==b
 | .bl a,.int b=>(if a then 1 else 0)==b
 | .int a,.bl b=>a==(if b then 1 else 0)
 | .int a,.int b=>a==b
 | .str a,.str b=>a==b
 | _,_=>false
theorem b2D {A:Around} {s:Shared} {y x:V} {u v:Value} (ry:RelV y u) (rx:RelV x v) (fy:a0c y=true) (fx:a0c x=true):SeqAt.EqAt A s u v (eqV y x):=by
 cases y with
 | non =>
  cases ry
  cases x with
  | non=>cases rx; exact SeqAt.EqAt.same _
  | bl b=>cases rx; exact SeqAt.EqAt.none_bool b
  | int b=>obtain ⟨t,rfl⟩:=rx; exact SeqAt.EqAt.none_int b t
  | str b=>obtain ⟨t,rfl⟩:=rx; exact SeqAt.EqAt.none_str b t
  | _=>exact absurd (show false=true from fx) bK
 | bl a =>
  cases ry
  cases x with
  | non=>cases rx; exact SeqAt.EqAt.bool_none a
  | bl b=>cases rx; exact SeqAt.EqAt.bool_bool a b
  | int b=>obtain ⟨t,rfl⟩:=rx; exact SeqAt.EqAt.bool_int a b t
  | str b=>obtain ⟨t,rfl⟩:=rx; exact SeqAt.EqAt.bool_str a b t
  | _=>exact absurd (show false=true from fx) bK
 | int a =>
  obtain ⟨t',rfl⟩:=ry
  cases x with
  | non=>cases rx; exact SeqAt.EqAt.int_none a t'
  | bl b=>cases rx; exact SeqAt.EqAt.int_bool a t' b
  | int b=>obtain ⟨t,rfl⟩:=rx; exact SeqAt.EqAt.int_int a t' b t
  | str b=>obtain ⟨t,rfl⟩:=rx; exact SeqAt.EqAt.int_str a t' b t
  | _=>exact absurd (show false=true from fx) bK
 | str a =>
  obtain ⟨t',rfl⟩:=ry
  cases x with
  | non=>cases rx; exact SeqAt.EqAt.str_none a t'
  | bl b=>cases rx; exact SeqAt.EqAt.str_bool a t' b
  | int b=>obtain ⟨t,rfl⟩:=rx; exact SeqAt.EqAt.str_int a t' b t
  | str b=>obtain ⟨t,rfl⟩:=rx; exact SeqAt.EqAt.str_str a t' b t
  | _=>exact absurd (show false=true from fx) bK
 | _=>exact absurd (show false=true from fy) bK
def eqU (x:V) (u:Value):Bool:=match u with
 | .none=>eqV .non x
 | .bool b=>eqV (.bl b) x
 | .int i _=>eqV (.int i) x
 | .str z _=>eqV (.str z) x
 | _=>false
theorem a9r {x y:V} {u:Value} (r:RelV y u) (f:a0c y=true):eqU x u=eqV y x:=by
 cases y with
 | non=>cases r; rfl
 | bl b=>cases r; rfl
 | int i=>obtain ⟨t,rfl⟩:=r; rfl
 | str z=>obtain ⟨t,rfl⟩:=r; rfl
 | _=>exact absurd (show false=true from f) bK
theorem a3D {x:V}:∀ {xs:List V} {us:List Value},Vals xs us->xs.all a0c=true->us.any (eqU x)=xs.any λ y=>eqV y x
 | _,_,.nil,_=>rfl
 | y::xs,u::us,.cons r t,f=>by
  rw [kJ,dX] at f;rw [iU,iU,a9r r f.1,a3D t f.2]
theorem a2m {A:Around} {s:Shared} {x:V} {v:Value} (rx:RelV x v) (fx:a0c x=true):∀ {xs:List V} {us:List Value},Vals xs us->xs.all a0c=true->∀ u∈us,SeqAt.EqAt A s u v (eqU x u)
 | _,_,.nil,_=>λ u hu=>by cases hu
 | y::xs,u::us,.cons r t,f=>λ u' hu=>by
  rw [kJ,dX] at f;rcases aL.mp hu with rfl | hu
  ·rw [a9r r f.1]; exact b2D r rx f.1 fx
  ·exact a2m rx fx t f.2 u' hu
def inV (x:V) (xs:List V):Bool:=xs.any λ y=>eqV y x
def rIn (K:W.Frag) (neg:Bool):R2:=λ x y H Q=>∃ p xs,y=.ref p/\(SqL K H p xs\/SqT K H p xs)/\a0c x=true/\xs.all a0c=true/\Q (.bl (if neg then !inV x xs else inV x xs)) H
theorem a3P:X7 X (compareOp .NotIn) (rIn X.K true):=by
 intro pins s σ H x y v u Q I rx ry h;obtain ⟨p,xs,rfl,hq,fx,fs,q⟩:=h
 cases ry;rcases hq with hq | hq
 ·obtain ⟨its,r,pl,hz⟩:=I.list hq
  refine SeqAt.notIn_listAt (eqU x) pl.isList (λ w hw=>a2m rx fx r fs w (by simpa using hw)) ⟨.bl _,H,I,rfl,?_⟩;rw [show its.toArray.any (eqU x)=its.any (eqU x) by simp,a3D r fs];exact q
 ·obtain ⟨its,r,pl,hz⟩:=I.tuple hq
  refine SeqAt.notIn_tupleAt (eqU x) pl (λ w hw=>a2m rx fx r fs w (by simpa using hw)) ⟨.bl _,H,I,rfl,?_⟩;rw [show its.toArray.any (eqU x)=its.any (eqU x) by simp,a3D r fs];exact q
theorem j9:M2 X (.builtin "len") (λ xs H Q=>∃ p ys,xs=[.ref p]/\(SqL X.K H p ys\/SqT X.K H p ys)/\Q (.int ys.length) H):=by
 intro pins s σ H xs us Q I r h;obtain ⟨p,ys,rfl,hq,q⟩:=h;obtain ⟨u,rfl,rx⟩:=N9 r
 cases rx;have hn:=a3G;rcases hq with hq | hq
 ·obtain ⟨its,r',pl,hz⟩:=I.list hq
  have hlen:=r'.length;exact Calls.call_len_list pl.isList (by simp only [bM] <;> omega) ⟨.int ys.length,H,I.tok _,⟨s.toks+1,by rw [bM,hlen]⟩,q⟩
 ·obtain ⟨its,r',pl,hz⟩:=I.tuple hq
  have hlen:=r'.length;exact len_tuple pl (by simp only [bM] <;> omega) ⟨.int ys.length,H,I.tok _,⟨s.toks+1,by rw [bM,hlen]⟩,q⟩
theorem E5:M2 X (.type "list") (λ xs H Q=>∃ p ys,xs=[.ref p]/\(SqL X.K H p ys\/SqT X.K H p ys)/\∀ l,H l=none->Q (.ref l) (upd H l (.lst ys))):=by
 intro pins s σ H xs us Q I r h;obtain ⟨p,ys,rfl,hq,q⟩:=h;obtain ⟨u,rfl,rx⟩:=N9 r
 cases rx;have fin:∀ (its:List Value),Vals ys its->ys.length<=sizeLine->∀ (h':Heap) (c':Nat),(∀ b o',s.heap.get? b=some o'->h'.get? b=some o') →
   h'.get? s.heap.objs.size=some { cls:=.type "list",dict:=none,data:=.seq its.toArray c',slots:=#[] }->EP X pins σ Q (.ref s.heap.objs.size) { s with heap:=h' }:=λ its r' hz h' c' kp e =>
  ⟨.ref s.heap.objs.size,_,I.laid (t':=s.toks) kp (aF _) (show ObjOk X.prog X.w _ h' _ (.lst ys) from ⟨hz,its,c',r',e⟩),rfl,q _ (I.hok.fresh (aF _))⟩
 rcases hq with hq | hq
 ·obtain ⟨its,r',pl,hz⟩:=I.list hq
  have hlen:=r'.length;obtain ⟨o,ho,hc,n,hd⟩:=pl.isList;exact call_list_seq p (.inl rfl) ho hc hd (λ h' c' kp e=>fin its r' hz h' c' kp e) (by simp only [bM] <;> omega)
 ·obtain ⟨its,r',pl,hz⟩:=I.tuple hq
  have hlen:=r'.length;obtain ⟨o,ho,hc,n,hd⟩:=pl;exact call_list_seq p (.inr rfl) ho hc hd (λ h' c' kp e=>fin its r' hz h' c' kp e) (by simp only [bM] <;> omega)
theorem E9:M2 X (.type "tuple") (λ xs H Q=>∃ p ys,xs=[.ref p]/\((SqL X.K H p ys/\∀ l,H l=none->Q (.ref l) (upd H l (.tup ys)))\/(SqT X.K H p ys/\Q (.ref p) H))):=by
 intro pins s σ H xs us Q I r h;obtain ⟨p,ys,rfl,h⟩:=h;obtain ⟨u,rfl,rx⟩:=N9 r
 cases rx;rcases h with ⟨hq,q⟩ | ⟨hq,q⟩
 ·obtain ⟨its,r',pl,hz⟩:=I.list hq
  have hlen:=r'.length;refine call_tuple_list pl.isList (λ h' kp=>?_) (by simp only [bM] <;> omega);have I1:Inv X pins σ H { s with heap:=h' }:=I.kept (t':=s.toks) kp;have I2:Inv X pins σ (upd H h'.objs.size (.tup ys)) { s with heap:=h'.push { cls:=.type "tuple",data:=.seq its.toArray } } :=
   I1.laid (t':=s.toks) (λ b o e=>Heap.get?_push_of_some _ e) (aF _) (show ObjOk X.prog X.w _ _ _ (.tup ys) from ⟨hz,its,r',IsTup.new _ _⟩)
  exact ⟨.ref h'.objs.size,_,I2,rfl,q _ (I1.hok.fresh (aF _))⟩
 ·obtain ⟨its,r',pl,hz⟩:=I.tuple hq
  exact call_tuple_same pl ⟨.ref p,H,I,rfl,q⟩
def tyV (K:W.Frag) (T:String) (x:V) (H:Hp):Prop:=match x with
 | .str _=>T="str"
 | .int _=>T="int"
 | .ref p=>(T="list"/\∃ xs,SqL K H p xs)\/(T="tuple"/\∃ o,K.lookup p=some o/\o.cls=.type "tuple"/\o.dict=none) ∨
   (T="dict"/\((∃ kvs,H p=some (.dK kvs))\/∃ kvs,H p=some (.dT kvs)))\/(T="set"/\∃ S n,H p=some (.set S n))
 | _=>False
theorem b2Q {pins:List (Addr×Obj)} {σ:St} {H:Hp} {s:Shared} {T:String} {x:V} {v:Value} (I:Inv X pins σ H s) (r:RelV x v) (ty:tyV X.K T x H) :
  s.TypeIs v T/\∀ a,v=.ref a->∃ ob,s.heap.get? a=some ob/\ob.dict=none:=by
 cases x with
 | str z =>
  obtain ⟨t,rfl⟩:=r
  cases (show T="str" from ty);exact ⟨typeIs_str s z t,λ _ e=>nomatch e⟩
 | int i =>
  obtain ⟨t,rfl⟩:=r
  cases (show T="int" from ty);exact ⟨typeIs_int s i t,λ _ e=>nomatch e⟩
 | ref p =>
  cases r;rcases ty with ⟨rfl,xs,hq⟩ | ⟨rfl,o,hk,hc,hd⟩ | ⟨rfl,hk⟩ | ⟨rfl,S,n,hk⟩
  ·obtain ⟨its,_,pl,_⟩:=I.list hq
   refine ⟨pl.isList.typeIs,λ a e=>?_⟩
   cases e;obtain ⟨o,n,e,c,hd,_⟩:=pl;exact ⟨o,e,hd⟩
  ·refine ⟨⟨o,I.kIn p o hk,hc⟩,λ a e=>?_⟩
   cases e;exact ⟨o,I.kIn _ o hk,hd⟩
  ·have z:∃ o,s.heap.get? p=some o/\o.ExactDict:=by
    rcases hk with ⟨kvs,hk⟩ | ⟨kvs,hk⟩
    ·obtain ⟨_,_,_,_,o,_,_,e,ex,_⟩:=I.hok p _ hk
     exact ⟨o,e,ex⟩
    ·obtain ⟨_,_,_,_,o,_,_,e,ex,_⟩:=I.hok p _ hk
     exact ⟨o,e,ex⟩
   obtain ⟨o,e,ex⟩:=z;refine ⟨⟨o,e,ex.1⟩,λ a e2=>?_⟩
   cases e2;exact ⟨o,e,ex.2.1⟩
  ·obtain ⟨o,_,_,_,e,ex,_⟩:=I.hok p _ hk
   refine ⟨⟨o,e,ex.1⟩,λ a e2=>?_⟩
   cases e2;exact ⟨o,e,ex.2.1⟩
 | _=>exact dB ty
def tBM (K:W.Frag) (T:String) (r:V->List V->Hp->VK->Prop) (to:TE) (t:TA):TE:=λ σ H Q=>to σ H λ x H1=>tyV K T x H1/\t σ H1 λ xs H2=>r x xs H2 Q
variable {o e:Expr} {es:List Expr} {to:TE} {t:TA} {name:Str} {apos cpos:Pos} {T id:String} {r:V->List V->Hp->VK->Prop}
theorem a7e (pa:PlainAttrs T) (slot:Slot T name id) (hty:typeOf (.builtin id)=pure (.type "method_descriptor")) (hm:MtR X id r) (ho:PE X o to) (ha:PA X (e::es) t)
    (hbase:attributeBase o name X.env (eval o X.env)=eval o X.env:=by rfl)
    (hfew:((backTo cpos (starEach (e::es) X.env)).all (λ x=>!x.1)&&(backToKw cpos (keywordEach [] X.env)).all (λ x=>x.1.isSome)
     &&decide ((e::es).length+([]:List Keyword).length+(if ([]:List Keyword).isEmpty then 0 else 1)<30))=true:=by rfl)
    (hline:(apos.endLine==cpos.line)=true:=by rfl) (hs:starEach (e::es) X.env=(false,eval e X.env)::starEach es X.env:=by rfl) (hplain:(backTo cpos (starEach es X.env)).any (·.1)=false:=by rfl) :
    PE X (.Call (.Attribute o name apos) (e::es) [] cpos) (tBM X.K T r to t):=by
  intro pins s σ H Q I h;refine wpAny_Call_method_late hbase hfew hline rfl (B6 (ho pins s σ H _ I h) λ v s1 ⟨x,H1,I1,r1,ty,q1⟩=>?_);obtain ⟨h1,h2⟩:=b2Q I1 r1 ty;refine ⟨T,id,pa,slot,hty,h1,h2,?_⟩;have hA:=ha cpos pins s1 σ H1 _ I1 q1;rw [hs] at hA ⊢;refine Calls.callWith_builtin (by show (false || (backTo cpos (starEach es X.env)).any (·.1))=false; rw [hplain] <;> rfl) (Calls.evalArgs_plain ?_);exact B6 hA λ us s2 ⟨vs,H2,I2,r2,q2⟩=>hm pins s2 σ H2 x vs v us Q I2 r1 r2 q2
/- xs.append(e),list.index on a module's tuple .. are MtR facts of 06m -/
end
def MtM (X:Cx) (id:String) (r:V->List V->Hp->VK->Prop):Prop :=
 ∀ (pins:List (Addr×Obj)) (s:Shared) (σ:St) (H:Hp) (x:V) (xs:List V) (v:Value) (us:List Value) (Q:VK),Inv X pins σ H s->RelV x v->Vals xs us->r x xs H Q →
  wpAny (model X.prog X.w) X.A (call (.builtin id) (v::us)) (EP X pins σ Q) X.xe s
theorem Vals.one:∀ {x:V} {us:List Value},Vals [x] us->∃ u,us=[u]/\RelV x u
 | _,_,.cons r .nil=>⟨_,rfl,r⟩
theorem Vals.rep {xs:List V} {us:List Value} (h:Vals xs us):∀ k:Nat,Vals (aI k xs).flatten (aI k us).flatten
 | 0=>.nil
 | k+1=>by
  rw [eJ,eJ,gD,gD];exact Vals.append h (Vals.rep h k)
theorem a3h (its:List Value):∀ (k:Nat) (acc:List Value),
  iV (λ x1 x2=>x1++x2) acc.toArray (aI k its.toArray)=(acc++(aI k its).flatten).toArray
 | 0,acc=>by simp
 | k+1,acc=>by
  have e:acc.toArray++its.toArray=(acc++its).toArray:=by simp
  have e2:(acc++its)++(aI k its).flatten=acc++(aI (k+1) its).flatten:=by
   rw [eJ,gD,dE]
  rw [<- e2,<- a3h its k (acc++its),<- e,eJ,List.foldl_cons]
section
variable {X:Cx} {pins:List (Addr×Obj)} {σ:St} {H:Hp} {s:Shared} {l b:Addr} {xs ys zs:List V}
theorem Inv.lset {its its':List Value} {n:Nat} {f:Array Value->Array Value} {t':Nat} (I:Inv X pins σ H s) (hH:H l=some (.lst xs))
  (e:s.heap.get? l=some { cls:=.type "list",data:=.seq its.toArray n }) (hf:f its.toArray=its'.toArray) (hv:Vals ys its') (hz:ys.length<=sizeLine) :
  Inv X pins σ (upd H l (.lst ys)) { s with heap:=s.heap.update l (Obj.mapSeq f),toks:=t' }:=by
 have q:=nW e f;rw [hf] at q;refine I.write (x:=l) (e:=l) (by rw [hH]; exact trivial) (.inl rfl) (λ b' u hb hu=>(Heap.get?_update_other s.heap (Obj.mapSeq f) (aO hb)).trans hu) ⟨_,q⟩ ?_;exact ⟨hz,its',_,hv,q⟩
theorem Inv.lnew {its:List Value} {t':Nat} (I:Inv X pins σ H s) (hv:Vals ys its) (hz:ys.length<=sizeLine) :
  Inv X pins σ (upd H s.heap.objs.size (.lst ys)) { s with heap:=s.heap.push { cls:=.type "list",data:=.seq its.toArray },toks:=t' } :=
 I.laid (λ _ _ q=>Heap.get?_push_of_some _ q) (aF _) ⟨hz,its,0,hv,Heap.get?_push_size _ rfl⟩
theorem Inv.fresh (I:Inv X pins σ H s):H s.heap.objs.size=none:=I.hok.fresh (aF _)
theorem Inv.lstM (I:Inv X pins σ H s) (hH:H l=some (.lst xs)):xs.length<=sizeLine/\∃ (its:List Value) (n:Nat),Vals xs its/\xs.length=its.length/\s.heap.get? l=some { cls:=.type "list",data:=.seq its.toArray n }:=by
 obtain ⟨z,its,n,r,e⟩:=I.hok l _ hH;exact ⟨z,its,n,r,r.length,e⟩
theorem a9e {n:Nat} (h:n<=sizeLine):Builtin.List.listTooLong n=false:=by
 unfold Builtin.List.listTooLong;exact decide_eq_false (by omega)
end
section
variable {X:Cx}
def b0I:V->List V->Hp->VK->Prop:=λ x vs H Q=>∃ l xs y,x=.ref l/\vs=[y]/\H l=some (.lst xs)/\xs.length<sizeLine/\Q .non (upd H l (.lst (xs++[y])))
theorem N4:MtM X "list.append" b0I:=by
 intro pins s σ H x vs v us Q I rx rv h;obtain ⟨l,xs,y,rfl,rfl,hH,hz,q⟩:=h
 cases rx;obtain ⟨u,rfl,ru⟩:=rv.one;obtain ⟨z,its,n,r,hl,e⟩:=I.lstM hH;refine call_meets F.slot_list_append ⟨_,e,rfl⟩ F.entry_list_append (F.args_list_append_2 _ _) (PySem.list_append l its.toArray n u (by rw [bM]; omega)) ⟨e,?_⟩;refine ⟨.non,_,I.lset (its':=its++[u]) hH e (by simp) (r.append (.cons ru .nil)) ?_,rfl,q⟩;rw [aJ,cY];omega
def b5D:R2:=λ x y H Q=>∃ l b xs zs,x=.ref l/\y=.ref b/\H l=some (.lst xs)/\H b=some (.lst zs)/\xs.length+zs.length<=sizeLine/\∀ p,H p=none->Q (.ref p) (upd H p (.lst (xs++zs)))
theorem C2:X7 X (binaryOp .Add) b5D:=by
 intro pins s σ H x y v u Q I rx ry h;obtain ⟨l,b,xs,zs,rfl,rfl,hH,hB,hz,q⟩:=h
 cases rx
 cases ry;obtain ⟨z,its,n,r,hl,e⟩:=I.lstM hH;obtain ⟨z2,its2,n2,r2,hl2,e2⟩:=I.lstM hB;refine PySem.P.add_list e e2 ?_ (by rw [bM,bM]; omega);have ea:its.toArray++its2.toArray=(its++its2).toArray:=by simp
 rw [ea];exact ⟨.ref _,_,I.lnew (t':=s.toks) (r.append r2) (by rw [aJ]; omega),rfl,q _ I.fresh⟩
def b6e:R2:=λ x y H Q=>∃ l k xs,x=.ref l/\y=.int k/\H l=some (.lst xs)/\-(2 ^ 63)<=k/\k<2 ^ 63/\xs.length*k.toNat<=sizeLine ∧
 ∀ p,H p=none->Q (.ref p) (upd H p (.lst (aI k.toNat xs).flatten))
theorem b1a {α:Type} (xs:List α) (k:Nat):(aI k xs).flatten.length=k*xs.length:=by
 induction k with
 | zero=>simp
 | succ k ih=>rw [eJ,gD,aJ,ih,gO,Nat.add_comm]
theorem R8:X7 X (binaryOp .Mult) b6e:=by
 intro pins s σ H x y v u Q I rx ry h;obtain ⟨l,k,xs,rfl,rfl,hH,h1,h2,hz,q⟩:=h
 cases rx;obtain ⟨t,rfl⟩:=ry;obtain ⟨z,its,n,r,hl,e⟩:=I.lstM hH;have hlen:its.toArray.size*k.toNat<=sizeLine:=by rw [bM,<- hl]; exact hz
 have hcap:¬ its.toArray.size*k.toNat>(2 ^ 63 - 1) / 8:=by
  have:(sizeLine:Nat)<=(2 ^ 63 - 1) / 8:=by decide
  omega
 have hfit:¬ (!Builtin.List.listFitsIndex k)=true:=by
  rw [fitsIndex_both h1 h2];exact bK
 have hlong:¬ Builtin.List.listTooLong (its.toArray.size*k.toNat)=true:=by
  rw [a9e hlen];exact bK
 have hnew:iV (λ x1 x2=>x1++x2) #[] (aI (if its.toArray.isEmpty=true then 0 else k.toNat) its.toArray)=(aI k.toNat its).flatten.toArray:=by
  have f0:∀ m:Nat,iV (λ x1 x2=>x1++x2) #[] (aI m its.toArray)=(aI m its).flatten.toArray:=λ m=>by
   have:=a3h its m [];rw [fE] at this;exact this
  rw [f0]
  cases its with
  | nil=>simp
  | cons a r'=>rw [if_neg (by simp)]
 refine wpAny_binaryOp_repeat_ref (T:="list") (U:="int") (by decide) ⟨_,e,rfl⟩ (λ s'=>typeIs_int s' k t) noFill_list_mul F.fills_int_mul F.slot_int_rmul repeat_list F.slot_int_index.lookup
  (call_meets F.slot_int_rmul (typeIs_int s k t) F.entry_int_rmul (F.args_int_rmul_2 _ _) (int___rmul___int_list k t l its.toArray n)
   ⟨e,rfl,⟨_,e,rfl⟩,call_meets F.slot_list_mul ⟨_,e,rfl⟩ F.entry_list_mul (F.args_list_mul_2 _ _) (AutoListH.list___mul___list_int_3 l its.toArray n k t hfit hcap hlong) ⟨e,?_⟩⟩)
 rw [hnew];exact ⟨.ref _,_,I.lnew (t':=s.toks) (r.rep k.toNat) (by rw [b1a,gP]; exact hz),rfl,q _ I.fresh⟩
end
section
variable {prog:Program} {w:World} {A:Around} {E:Value->Shared->Prop} {s:Shared}
end
section
variable {X:Cx}
end
end L2
namespace Att
open PySem PySem.W PySem.Calls PyProof.Rows
theorem a1k {P:Params} {h:Heap}:∀ (ns:List Int) (vs:List Value),WellAll P h vs (ns.map WData.int)->IntsAre vs ns:=by
 intro ns
 induction ns with
 | nil =>
  intro vs w;rw [eI] at w
  cases w;exact .nil
 | cons n ns ih =>
  intro vs w;rw [aQ] at w
  cases w with
  | cons a b =>
   cases a;exact .cons _ _ (ih _ b)
theorem a7S {l:OpenLaw} {n:Nat} (hn:l.most=some n) {P:Params} {h:Heap} {args:List WData} {vals:List Value}
  (hpre:l.row.toRowW.claim.pre args=true) (hwl:WellAll P h vals args) :
  ∃ a vs ns,vals=[Value.ref a]/\args=[WData.list (ns.map WData.int)]/\h.get? a=some { cls:=.type "list",data:=.seq vs.toArray }/\IntsAre vs ns/\ns.length<=n:=by
 have hsh:WShape.hasAll [] args [.list .int]=true:=(pre_splitW hpre).1;have hc:l.pre.holds [] { args:=args }=true:=(pre_splitW hpre).2;obtain ⟨d,r,rfl,h1,h2⟩:=hasAllW_cons hsh;obtain rfl:=hasAllW_nil h2;obtain ⟨xs,rfl,h3⟩:=hasW_list h1;obtain ⟨ns,rfl⟩:=items_int h3;have hlen:ns.length<=n:=by
  unfold OpenLaw.pre at hc;have h4:(WTm.not (.lt (.lit (.int (n:Int))) (.len (.arg 0)))).holds [] { args:=[.list (ns.map .int)] }=true:=by
   have h4:=(holds_andW hc).1;rw [hn] at h4;exact h4
  have h5:=condW_of h4 (w_not (w_lt w_lit (w_len_list (w_arg rfl))));rw [aA] at h5;refine gQ λ q=>?_;have q':(n:Int)<((ns.length:Nat):Int):=by omega
  first
   | (rw [decide_eq_true q'] at h5; exact absurd h5 (by decide))
   | (simp at h5; omega)
 cases hwl with
 | cons w1 w2 =>
  cases w2
  cases w1 with
  | list ho hall=>exact ⟨_,_,ns,rfl,rfl,ho,a1k ns _ hall,hlen⟩
theorem a7r (l:OpenLaw) (args:List WData):l.row.toRowW.claim.post args (.bool true) args=true :=
 postW_of (r:=l.row.toRowW) (X:=(true==true))
  (show WShape.has [] (.bool true) .bool=true by first | rfl | decide | simp [WShape.has,WShape.arms,WShape.armsAll])
  (show (WTm.eq .res (.lit (.bool true))).value [] { args:=args,res:=some (.bool true),after:=args }=some (.bool (true==true)) from w_eq_bool (w_res rfl) w_lit) rfl
theorem attach_call {l:OpenLaw} {n:Nat} {q:Program} {loose:List Str} {XP:(Str->Option Value)->Heap->Prop} {YP:World->Heap->Prop} {d:DefRec}
  (hn:l.most=some n) (hdf:d.params.defaults=[])
  (call:∀ (w:World) (s₀ s₁:Shared) (mg mb:Str->Option Value) (fa:Addr) (o:Obj) (pm cd doc:Value) (a:Addr) (vs:List Value) (ns:List Int),
   Ground q loose [] XP w s₀ mg mb s₁.heap->YP w s₁.heap →
   s₁.heap.get? fa=some o->o.data=.func (docDef d.name d.params d.body d.scope pm cd doc)->s₁.heap.CodeRec cd d.name->mg d.name=some (.ref fa) →
   s₁.heap.get? a=some { cls:=.type "list",data:=.seq vs.toArray }->IntsAre vs ns->ns.length<=n->s₁.gens=#[] →
   codeAny (model l.prog w) callerA (.call (.ref fa) ⟨[.ref a],[]⟩) (λ r s'=>r=.ok (.ret (.bool true))/\OldK s₁.heap s'.heap/\s'.os=s₁.os/\AllBare s'.gens) s₁) :
  WalkO q loose XP YP l.row.toRowW d [] (λ f vs=>iW f vs):=by
 intro w s₀ s₁ mg mb G Y fa o pm cd doc dV kV ho hd hcd hD hmg hg args vals as hpre hlay hrd hwl hlo;obtain rfl:dV=.none:=Dflts.none hD hdf;obtain rfl:kV=.none:=Dflts.noKw hD;obtain ⟨a,vs,ns,rfl,rfl,hobj,hints,hlen⟩:=a7S hn hpre hwl;refine enter_call (codeAny_mono (call w s₀ s₁ mg mb fa o pm cd doc a vs ns G Y ho (fd_plain hd) hcd hmg hobj hints hlen hg) λ r s' hq=>?_);obtain ⟨rfl,h2,h3,h4⟩:=hq;exact ⟨.inl ⟨.bool true,.bool true,[],rfl,λ _=>rfl,.bool true,a7r l _,λ _=>⟨List.Pairwise.nil,λ _ hm=>(nomatch hm)⟩⟩,h2,h3,h4⟩
section
variable {prog:Program} {w:World} {A:Around} {E:Value->Shared->Prop} {s:Shared} {K:Frag}
end
end Att
namespace L2
open PySem PySem.Spec PyProof.Rows
theorem a2M:∀ {vs:List Value} {ns:List Int},IntsAre vs ns->Vals (ns.map V.int) vs
 | _,_,.nil=>.nil
 | _,_,.cons n t h=>.cons ⟨t,rfl⟩ (a2M h)
def S3 (s:Stmt) (j:Nat):Stmt:=match s with
 | .ClassDef _ _ _ body _ _ _ _ _ _ _=>body.getD j (.Pass ⟨0,0,0,0⟩)
 | _=>.Pass ⟨0,0,0,0⟩
def G3 (s:Stmt):Arguments:=match s with
 | .FunctionDef _ a _ _ _ _ _ _ _ _=>a
 | _=>{ posonlyargs:=[],args:=[],vararg:=none,kwonlyargs:=[],kw_defaults:=[],kwarg:=none,defaults:=[] }
def v4 (s:Stmt):List Stmt:=match s with
 | .FunctionDef _ _ b _ _ _ _ _ _ _=>b
 | _=>[]
def i9 (s:Stmt):Scope:=match s with
 | .FunctionDef _ _ _ _ _ _ sc _ _ _=>sc
 | _=>{ kind:=.function,names:=[],isGenerator:=false,isCoroutine:=false }
abbrev J7:CXT:=λ _ _ _ _ _ _=>False
abbrev E0:XK:=λ _ _ _=>False
theorem u0 {X:Cx}:M6 J7 X E0:=λ _ _ _ _ _ _ _ h=>h.elim
structure Fun (K:W.Frag) (x qual:Str) (st:Stmt) (f:Addr) (fd:FuncData):Prop where
 ex:∃ (oc:Value) (od:Option Addr) (kV doc pm:Value) (an:Option Addr) (cdv ct:Value) (osl:Array (Option Value)),
  fd=W.fnOf x qual (G3 st) (v4 st) (i9 st) .none kV doc pm an cdv ct/\K.lookup f=some ⟨oc,od,.func fd,osl⟩/\W.codeIn K cdv qual=true
 kp:W.keepIn K (.ref f)=true
section
variable {P:Program} {w:World} {K:W.Frag} {mg:Str->Option Value} {base:Heap}
theorem Fun.ok {x qual:Str} {st:Stmt} {f:Addr} {fd:FuncData} {N ps:List Str} {k:Nat} {sp:Sp} (F:Fun K x qual st f fd) (S:r8 N ps (i9 st)) (len:∀ vs H Q E,sp vs H Q E->vs.length=ps.length)
  (hbody:∀ (cdv:Value) (A:Around) (outer:List Env) (s:Shared) (H:Hp) (vs:List V) (Q:VK) (E:XK),Room k (A.deeper (envOfC qual (i9 st) s.heap.objs.size f cdv))->sp vs H Q E →
   ∃ t,PSs (J6 J7 P w K mg base N qual (i9 st) f cdv A outer s H E).nox (v4 st) t/\t { nx:=λ _ H'=>Q .non H',rt:=Q } (T0 N vs) H):FnOk P w K mg base J7 (k+1) f fd ps sp:=by
 obtain ⟨oc,od,kV,doc,pm,an,cdv,ct,osl,rfl,lk,hcd⟩:=F.ex;refine a8E lk hcd S len λ A outer s H vs Q E hr hsp=>?_;obtain ⟨t,h,q⟩:=hbody cdv A outer s H vs Q E hr hsp;exact ⟨t,h.nox,q⟩
theorem Fun.binds {x qual:Str} {st:Stmt} {f:Addr} {fd:FuncData} {ps:List Str} (F:Fun K x qual st f fd)
  (h:∀ (kV doc pm:Value) (an:Option Addr) (cdv ct:Value) (us:List Value),us.length=ps.length->bindArgs (W.fnOf x qual (G3 st) (v4 st) (i9 st) .none kV doc pm an cdv ct) ⟨us,[]⟩=pure (ps.zip us)):Binds K fd ps []:=by
 obtain ⟨oc,od,kV,doc,pm,an,cdv,ct,osl,rfl,lk,hcd⟩:=F.ex;exact .all (h kV doc pm an cdv ct)
theorem a9i {x qual:Str} {st:Stmt} {f:Addr} {oc:Value} {od an:Option Addr} {osl:Array (Option Value)} {kV doc pm cdv ct:Value} (l:K.lookup f=some ⟨oc,od,.func (W.fnOf x qual (G3 st) (v4 st) (i9 st) .none kV doc pm an cdv ct),osl⟩)
  (c:W.codeIn K cdv qual=true) (k:W.keepIn K (.ref f)=true):Fun K x qual st f (W.fnOf x qual (G3 st) (v4 st) (i9 st) .none kV doc pm an cdv ct):=⟨⟨oc,od,kV,doc,pm,an,cdv,ct,osl,rfl,l,c⟩,k⟩
end
theorem j4 {n:Nat} (h:n<=1000):n<sizeLine:=eR h (by decide)
section
variable {X:Cx}
theorem pv (i:Nat) {x:Str} {pos:Pos} (hN:X.N[i]?=some x:=by rfl) (hv:Vis X.env.scope x:=by first | exact aC rfl | exact cI (aC rfl) | exact cI (cI rfl)) (hd:(x==("__debug__":Str))=false:=by decide)
  (hcd:(x==("__classdict__":Str))=false:=by decide):PE X (.Name x pos) (a8e i):=b3k hN hv hd hcd
end
theorem a3o {A B:Prop} (h:B):if false=true then A else B:=by
 rw [if_neg bK];exact h
theorem b1B {A B:Prop} (h:A):if true=true then A else B:=by
 rw [if_pos rfl];exact h
theorem G5 {c A B:Prop} [Decidable c] (h1:c->A) (h2:¬ c->B):if c then A else B:=by
 by_cases h:c
 ·rw [if_pos h]
  exact h1 h
 ·rw [if_neg h]
  exact h2 h
def Same (H H':Hp):Prop:=∀ b o,H b=some o->H' b=some o
theorem Same.refl (H:Hp):Same H H:=λ _ _ h=>h
theorem Same.trans {H H1 H2:Hp} (a:Same H H1) (b:Same H1 H2):Same H H2:=λ c o h=>b c o (a c o h)
theorem Same.free {H H':Hp} (e:Same H H') {l:Addr} (h:H' l=kK):H l=kK:=by
 cases q:H l with
 | none=>rfl
 | some o =>
  rw [e l o q] at h
  cases h
theorem Same.seq {K:W.Frag} {H H':Hp} {a:Addr} {xs:List V} (e:Same H H') (h:SqL K H a xs):SqL K H' a xs:=by
 rcases h with (h | ⟨o,h⟩) | h
 ·exact .inl (.inl (e _ _ h))
 ·exact .inl (.inr ⟨o,e _ _ h⟩)
 ·exact .inr h
def clo (env:Env):List (Str×NameKind)->List (Str×Addr)->List (Str×Addr)
 | [],cs=>cs
 | (n,k)::r,cs=>if k==.free then (match env.cells.lookup n with | some a=>clo env r ((n,a)::cs) | none=>clo env r cs) else clo env r cs
theorem C7 {scope:Scope} {env:Env} (h:∀ n,(n,NameKind.free)∈scope.names->∃ c,env.cells.lookup n=some c):closureFor scope env=pure (clo env scope.names []):=by
 simp only [closureFor];generalize ([]:List (Str×Addr))=cs
 revert h
 generalize scope.names=l;intro h
 induction l generalizing cs with
 | nil=>rfl
 | cons x r ih =>
  obtain ⟨n,k⟩:=x;have hr:∀ n,(n,NameKind.free)∈r->∃ c,env.cells.lookup n=some c:=λ n hn=>h n (bL _ hn)
  by_cases hk:k=.free
  ·subst hk
   obtain ⟨c,hc⟩:=h n cJ;have q:=ih ((n,c)::cs) hr;simp only [gR,clo,hc,beq_self_eq_true,if_true,cellOf];exact q
  ·have hb:(k==NameKind.free)=false:=by simpa using hk
   have q:=ih cs hr;simp only [gR,clo,hb,kL,if_false];exact q
theorem a0e {env:Env} {x:Str} {c:Addr}:∀ {l:List (Str×NameKind)} {cs:List (Str×Addr)},(∀ x c,cs.lookup x=some c->env.cells.lookup x=some c)->(clo env l cs).lookup x=some c->env.cells.lookup x=some c
 | [],_,h,e=>h x c e
 | (n,k)::r,cs,h,e=>by
  unfold clo at e
  by_cases hk:(k==NameKind.free)=true
  ·rw [if_pos hk] at e
   cases q:env.cells.lookup n with
   | none=>rw [q] at e; exact a0e h e
   | some a =>
    rw [q] at e;refine a0e (cs:=(n,a)::cs) (λ y d z=>?_) e;rw [dM] at z
    cases hy:y==n with
    | true =>
     rw [hy] at z;have:y=n:=by simpa using hy
     subst this;rw [q]; exact z
    | false=>rw [hy] at z; exact h y d z
  ·rw [if_neg hk] at e
   exact a0e h e
theorem a1E {env:Env} {x:Str} {c:Addr}:∀ {l:List (Str×NameKind)} {cs:List (Str×Addr)},(x,c)∈clo env l cs->(env.cells.lookup x=some c/\(x,NameKind.free)∈l)\/(x,c)∈cs
 | [],_,e=>.inr e
 | (n,k)::r,cs,e=>by
  unfold clo at e
  by_cases hk:(k==NameKind.free)=true
  ·rw [if_pos hk] at e
   have hk':k=.free:=by simpa using hk
   cases q:env.cells.lookup n with
   | none =>
    rw [q] at e;exact (a1E e).imp (λ z=>⟨z.1,bL _ z.2⟩) id
   | some a =>
    rw [q] at e;rcases a1E (cs:=(n,a)::cs) e with z | z
    ·exact .inl ⟨z.1,bL _ z.2⟩
    ·rcases aL.mp z with z | z
     ·cases z
      exact .inl ⟨q,by rw [hk']; exact cJ⟩
     ·exact .inr z
  ·rw [if_neg hk] at e
   exact (a1E e).imp (λ z=>⟨z.1,bL _ z.2⟩) id
theorem v6:∀ (names:List (Str×NameKind)) (n:Nat) (acc:List (Str×Addr)),cellsFrom n names acc=cellsFrom n names []++acc
 | [],_,_=>rfl
 | (x,k)::r,n,acc=>by
  unfold cellsFrom
  split
  ·rw [v6 r (n+1) ((x,n)::acc),v6 r (n+1) [(x,n)],dE]; rfl
  ·exact v6 r n acc
theorem J9 {x:Str} {c:Addr}:∀ {names:List (Str×NameKind)} {n:Nat},(x,c)∈cellsFrom n names []->(x,NameKind.cell)∈names
 | [],_,e=>by cases e
 | (y,k)::r,n,e=>by
  unfold cellsFrom at e
  by_cases hk:(k==NameKind.cell)=true
  ·rw [if_pos hk,v6] at e
   have hk':k=.cell:=by simpa using hk
   rcases aT.mp e with z | z
   ·exact bL _ (J9 z)
   ·rw [bH] at z
    cases z;rw [hk']; exact cJ
  ·rw [if_neg hk] at e
   exact bL _ (J9 e)
theorem P3 {x:Str}:∀ {names:List (Str×NameKind)} {n:Nat},(x,NameKind.cell)∈names->∃ c,(x,c)∈cellsFrom n names []
 | (y,k)::r,n,e=>by
  unfold cellsFrom;rcases aL.mp e with z | z
  ·cases z
   rw [if_pos (by rfl),v6];exact ⟨n,cF _ cJ⟩
  ·split
   ·rw [v6]
    obtain ⟨c,hc⟩:=P3 (n:=n+1) z;exact ⟨c,cQ _ hc⟩
   ·exact P3 z
theorem a2A {α:Type} {x:Str}:∀ {l₁ l₂:List (Str×α)},(l₁++l₂).lookup x=match l₁.lookup x with | some c=>some c | none=>l₂.lookup x
 | [],_=>rfl
 | (n,c)::r,l₂=>by
  rw [dG,dM,dM]
  cases hx:x==n with
  | true=>rfl
  | false=>exact a2A (l₁:=r)
theorem X9 {α:Type} {x:Str} {c:α}:∀ {l:List (Str×α)},(x,c)∈l->∃ c',l.lookup x=some c'
 | (n,d)::r,h=>by
  rw [dM]
  cases hx:x==n with
  | true=>exact ⟨d,rfl⟩
  | false =>
   rcases aL.mp h with z | z
   ·cases z; simp at hx
   ·exact X9 z
theorem W5 {env:Env} {x:Str}:∀ {l:List (Str×NameKind)} {cs:List (Str×Addr)},(∃ c,cs.lookup x=some c)->∃ c,(clo env l cs).lookup x=some c
 | [],_,h=>h
 | (n,k)::r,cs,h=>by
  unfold clo
  split
  ·split
   ·refine W5 ?_
    rw [dM]
    cases hy:x==n with
    | true=>exact ⟨_,rfl⟩
    | false=>exact h
   ·exact W5 h
  ·exact W5 h
theorem W4 {env:Env} {x:Str} (hx:∃ c,env.cells.lookup x=some c):∀ {l:List (Str×NameKind)} {cs:List (Str×Addr)},(x,NameKind.free)∈l->∃ c,(clo env l cs).lookup x=some c
 | (n,k)::r,cs,h=>by
  rcases aL.mp h with e | e
  ·cases e
   obtain ⟨c,hc⟩:=hx;unfold clo;rw [if_pos (by rfl),hc];refine W5 ⟨c,?_⟩;simp [dM]
  ·unfold clo
   split
   ·split
    ·exact W4 hx e
    ·exact W4 hx e
   ·exact W4 hx e
def M7 (env:Env) (scope:Scope) (C:Addr):List (Str×Addr):=cellsFrom (C+1) scope.names (clo env scope.names [])
theorem E6 {env:Env} {scope:Scope} {C:Addr} {x:Str} {c:Addr} (h:(M7 env scope C).lookup x=some c) :
  ((x,c)∈cellsFrom (C+1) scope.names []/\(x,NameKind.cell)∈scope.names)\/(env.cells.lookup x=some c/\(x,NameKind.free)∈scope.names):=by
 have m:=mem_of_lookup h;unfold M7 at m;rw [v6] at m;rcases aT.mp m with z | z
 ·exact .inl ⟨z,J9 z⟩
 ·rcases a1E z with y | y
  ·exact .inr y
  ·cases y
theorem a0T {env:Env} {scope:Scope} {C:Addr} {x:Str} (hx:∃ c,env.cells.lookup x=some c) (hf:(x,NameKind.free)∈scope.names) (hn:(x,NameKind.cell) ∉ scope.names):(M7 env scope C).lookup x=env.cells.lookup x:=by
 obtain ⟨c,hc⟩:=W4 (env:=env) (cs:=[]) hx hf;have hc':=a0e (env:=env) (λ _ _ z=>by simp at z) hc;unfold M7;rw [v6,a2A]
 cases q:(cellsFrom (C+1) scope.names []).lookup x with
 | some d=>exact absurd (J9 (mem_of_lookup q)) hn
 | none=>rw [hc',<- hc]
def R7 (X:Cx) (os:List Str) (fr:List Nat) (scope:Scope) (C:Addr) (fp:List Addr) (s₀:Shared) (H₀:Hp):Cx :=
 { X with N:=os++fr.map (λ j=>X.N.getD j ""),s₀:=s₀,H₀:=H₀,env:=compEnvC scope (M7 X.env scope C) C X.env,outer:=X.stack,ex:=fp,fn:=λ x=>scope.names.lookup x==some .cell,pn:=[],xe:=λ _ _=>False }
def frv (fr:List Nat) (σ:St):St:=fr.map λ j=>(σ[j]?).join
def blkσ (n:Nat) (fr:List Nat) (σ:St):St:=aI n none++frv fr σ
def Wk (σ0 σ2:St):Prop:=σ2.length=σ0.length/\∀ (i:Nat) v,σ0[i]?=some (some v)->σ2[i]?=some (some v)
def X5 (outer:Scope) (scope:Scope) (N:List Str) (fr:List Nat):Bool :=
 (scope.names.all λ p=>(scope.names.lookup p.1==some p.2)&&(p.2 != .free || outer.names.lookup p.1==some .cell)) &&
 (fr.all λ j=>decide (j<N.length)&&(outer.names.lookup (N.getD j "")==some .cell)&&(scope.names.lookup (N.getD j "")==some .free))
theorem G7 {x:Str} {k:NameKind}:∀ {l:List (Str×NameKind)},l.lookup x=some k->(x,k)∈l
 | (n,j)::r,h=>by
  rw [dM] at h
  cases hx:x==n with
  | true =>
   rw [hx] at h;have:x=n:=by simpa using hx
   subst this
   cases h;exact cJ
  | false=>rw [hx] at h; exact bL _ (G7 h)
theorem N0 {env:Env} {x:Str} {k:NameKind}:∀ {names:List (Str×NameKind)},
  (names.map λ (n,k)=>if (k==NameKind.free&&env.scope.kind==.function&&env.kindOf n==some .cell) then (n,NameKind.cell) else (n,k)).lookup x=some k →
  (x,k)∈names\/(x,NameKind.free)∈names
 | [],h=>by simp at h
 | (n,j)::r,h=>by
  rw [aQ] at h;dsimp only at h
  by_cases hc:(j==NameKind.free&&env.scope.kind==.function&&env.kindOf n==some .cell)=true
  ·rw [if_pos hc,dM] at h
   have hj:j=.free:=by
    have:=(dX _ _ ▸ (dX _ _ ▸ hc).1).1
    simpa using this
   cases hx:x==n with
   | true =>
    have:x=n:=by simpa using hx
    subst this;subst hj;exact .inr cJ
   | false =>
    rw [hx] at h;exact (N0 h).imp (bL _) (bL _)
  ·rw [if_neg hc,dM] at h
   cases hx:x==n with
   | true =>
    rw [hx] at h;have:x=n:=by simpa using hx
    subst this
    cases h;exact .inl cJ
   | false =>
    rw [hx] at h;exact (N0 h).imp (bL _) (bL _)
section
variable {X:Cx} {os:List Str} {fr:List Nat} {scope:Scope}
theorem M5 (h:X5 X.env.scope scope X.N fr=true):∀ p∈scope.names,scope.names.lookup p.1=some p.2/\(p.2=.free->X.env.scope.names.lookup p.1=some .cell):=λ p hp=>by
 have q:=iX.mp (dX _ _ ▸ h).1 p hp;simp only [dX,bne_iff_ne,Bool.or_eq_true,beq_iff_eq,ne_eq] at q;refine ⟨q.1,λ e=>?_⟩;rcases q.2 with z | z
 ·exact absurd e z
 ·exact z
theorem a5G (h:X5 X.env.scope scope X.N fr=true) {x:Str} {a b:NameKind} (ha:(x,a)∈scope.names) (hb:(x,b)∈scope.names):a=b:=by
 have h1:=(M5 h _ ha).1;have h2:=(M5 h _ hb).1;rw [h1] at h2;exact aM h2
theorem b2k (h:X5 X.env.scope scope X.N fr=true):∀ j∈fr,j<X.N.length/\X.env.scope.names.lookup (X.N.getD j "")=some .cell/\scope.names.lookup (X.N.getD j "")=some .free:=λ j hj=>by
 have q:=iX.mp (dX _ _ ▸ h).2 j hj;simp only [dX,beq_iff_eq,decide_eq_true_eq] at q;exact ⟨q.1.1,q.1.2,q.2⟩
theorem O7 {pins:List (Addr×Obj)} {σ:St} {H:Hp} {s:Shared} (I:Inv X pins σ H s) (h:X5 X.env.scope scope X.N fr=true):∀ n,(n,NameKind.free)∈scope.names->∃ c,X.env.cells.lookup n=some c:=λ n hn =>
 I.ok.has n (.inl ((M5 h _ hn).2 rfl))
theorem Inv.block {pins:List (Addr×Obj)} {σ:St} {H:Hp} {s:Shared} {fp:List Addr} {h₁:Heap} {t':Nat} (I:Inv X pins σ H s) (hk:scope.kind=.function) (h:X5 X.env.scope scope X.N fr=true)
  (hf:∀ b∈fp,Q7 X pins H b) (ho:∀ b∈fp,∃ o,s.heap.get? b=some o) (hns:h₁.Ns s.heap.objs.size λ _=>none) (hkeep:∀ b o,s.heap.get? b=some o->h₁.get? b=some o)
  (hcl:CellsOk h₁ (s.heap.objs.size+1) (cellsFrom (s.heap.objs.size+1) scope.names [])) :
  Inv (R7 X os fr scope s.heap.objs.size fp s H) [] (blkσ os.length fr σ) H { s with heap:=h₁,toks:=t' } where
 ok:={
  mod:=I.ok.mod
  kind:=hk
  glob:=I.ok.glob
  blt:=I.ok.blt
  above:=aF _
  inj:=λ x y c e1 e2=>by
   have old:∀ {z:Str},X.env.cells.lookup z=some c->c<s.heap.objs.size:=λ {z} e=>by
    obtain ⟨v,q⟩:=I.cell z c e;exact q.lt
   rcases E6 e1 with z1 | z1 <;> rcases E6 e2 with z2 | z2
   ·exact name_of_addr hcl.apart z1.1 z2.1
   ·exact absurd (aZ (dQ (old z2.1)) (hcl.empty _ _ z1.1).2) (bR _)
   ·exact absurd (aZ (dQ (old z1.1)) (hcl.empty _ _ z2.1).2) (bR _)
   ·exact I.ok.inj x y c z1.1 z2.1
  has:=λ x hx=>by
   have hm:(x,NameKind.cell)∈scope.names\/(x,NameKind.free)∈scope.names:=by
    rcases hx with e | e
    ·exact N0 e
    ·rcases N0 e with z | z
     ·exact .inr z
     ·exact .inr z
   rcases hm with z | z
   ·obtain ⟨c,hc⟩:=P3 (n:=s.heap.objs.size+1) z
    refine X9 (c:=c) ?_
    show (x,c)∈M7 _ _ _
    unfold M7;rw [v6];exact cQ _ hc
   ·obtain ⟨c,hc⟩:=O7 I h x z
    refine ⟨c,?_⟩
    show (M7 _ _ _).lookup x=_
    rw [a0T ⟨c,hc⟩ z (λ w=>by cases a5G h z w)];exact hc
  cab:=λ x c hx e=>by
   have hx':scope.names.lookup x=some .cell:=by simpa using (show (scope.names.lookup x==some .cell)=true from hx)
   rcases E6 e with z | z
   ·exact cP (kO (hcl.empty _ _ z.1).2)
   ·cases a5G h (G7 hx') z.2
  hd:=I.ok.hd
  frames:=I.ok.frames
  stk:=.inl rfl
  exf:=λ b hb=>by
   obtain ⟨o,e⟩:=ho b hb;refine ⟨Nat.ne_of_lt (Heap.lt_size e),λ x c e1=>?_⟩;rcases E6 e1 with z | z
   ·intro w
    have:=(hcl.empty _ _ z.1).2;rw [w] at this;exact absurd (aZ (dQ (Heap.lt_size e)) this) (bR _)
   ·exact (hf b hb).2.2.2.2.1 x c z.1
  bs:=I.bs
  bsz:=bA I.ok.bsz I.sz
  noex:=λ b o e hb=>by
   rcases (hf b hb).2.2.2.1 with z | z
   ·exact I.ok.noex b o e z
   ·exact absurd (aZ (Heap.lt_size e) (bA I.ok.bsz z)) (bR _)
  exfs:=λ b hb hz=>by
   rcases aL.mp (I.stkSub b hz) with e | e
   ·exact (hf b hb).2.1 e
   ·exact (hf b hb).2.2.1 e
  funs:=I.stack
  frf:=I.stkFree }
 os:=rfl
 bare:=I.bare
 base:=Un.kept hkeep
 loc:=by
  refine ⟨_,hns,λ i x v e1 e2 _=>?_⟩;have hi:os.length<=i:=by
   refine gQ λ hlt=>?_;unfold blkσ at e2;rw [bF (by simpa using hlt)] at e2;rw [dI] at e2
   split at e2 <;> cases e2
  have e1':(fr.map λ j=>X.N.getD j "")[i - os.length]?=some x:=by
   rw [<- bU (l₁:=os) hi]; exact e1
  have e2':(fr.map λ j=>(σ[j]?).join)[i - os.length]?=some (some v):=by
   have z:(aI os.length (none:Option V)).length<=i:=by simpa using hi
   unfold blkσ at e2;rw [bU z,cA] at e2;exact e2
  rw [aE] at e1' e2'
  cases q:fr[i - os.length]? with
  | none=>rw [q] at e1'; cases e1'
  | some j =>
   rw [q] at e1' e2';have hj:j∈fr:=aU q;obtain ⟨hjl,hjc,hjf⟩:=b2k h j hj;have ex:X.N.getD j ""=x:=aM e1';have ev:(σ[j]?).join=some v:=aM e2';have hN:X.N[j]?=some x:=by
    rw [<- ex,aG,aD hjl]; rfl
   have hσ:σ[j]?=some (some v):=by
    cases r:σ[j]? with
    | none=>rw [r] at ev; cases ev
    | some y=>rw [r] at ev; exact congrArg some ev
   rw [ex] at hjc hjf;obtain ⟨m,_,hl⟩:=I.loc;obtain ⟨u,r,lk⟩:=hl j x v hN hσ (.inr (.inl hjc));refine ⟨u,r,?_⟩;have kc:Env.kindOf X.env x=some .cell:=hjc;rcases lk with ⟨k1,_⟩ | ⟨_,c,ec,z⟩
   ·rw [kc] at k1; cases k1
   ·have hfm:=G7 hjf
    have ec':(M7 X.env scope s.heap.objs.size).lookup x=some c:=by
     rw [a0T ⟨c,ec⟩ hfm (λ w=>by cases a5G h hfm w)]; exact ec
    refine .inr ⟨?_,c,ec',?_⟩
    ·have kk:∀ {names:List (Str×NameKind)},names.lookup x=some .free->(names.map λ (n,k)=>if (k==NameKind.free&&X.env.scope.kind==.function&&X.env.kindOf n==some .cell) then (n,NameKind.cell) else (n,k)).lookup x=some .cell:=by
      intro names
      induction names with
      | nil=>intro e; simp at e
      | cons p r ih =>
       obtain ⟨n,k⟩:=p;intro e;rw [dM] at e;rw [aQ];dsimp only
       cases hx:x==n with
       | true =>
        rw [hx] at e
        cases e;have hxn:x=n:=by simpa using hx
        subst hxn;rw [if_pos (by rw [I.ok.kind,kc]; rfl),dM];simp
       | false =>
        rw [hx] at e
        by_cases hc:(k==NameKind.free&&X.env.scope.kind==.function&&X.env.kindOf n==some .cell)=true
        ·rw [if_pos hc,dM,hx]; exact ih e
        ·rw [if_neg hc,dM,hx]; exact ih e
     exact .inl (kk hjf)
    ·obtain ⟨o,ho',hd⟩:=z
     exact ⟨o,hkeep _ _ ho',hd⟩
 cell:=λ x c e=>by
  rcases E6 e with z | z
  ·exact ⟨_,(hcl.empty _ _ z.1).1⟩
  ·obtain ⟨v,o,ho',hd⟩:=I.cell x c z.1
   exact ⟨v,o,hkeep _ _ ho',hd⟩
 free:=I.hok.fresh (aF _)
 freeC:=λ x c e=>by
  rcases E6 e with z | z
  ·exact I.hok.fresh (cP (kO (hcl.empty _ _ z.1).2))
  ·exact I.freeC x c z.1
 pin:=λ p hp=>nomatch hp
 hok:=I.hok.kept hkeep
 len:=by simp [blkσ,frv,R7]
theorem Inv.unblock {pins:List (Addr×Obj)} {σ σ':St} {H H':Hp} {s s':Shared} {fp:List Addr} {C:Addr} (I:Inv X pins σ H s) (hf:∀ b∈fp,Q7 X pins H b) (J:Inv (R7 X os fr scope C fp s H) [] σ' H' s'):Inv X pins σ H' s' :=
 I.call' J.os J.base J.hok J.bare λ b hb=>⟨(hf b hb).2.2.2.1,(hf b hb).2.1,(hf b hb).2.2.2.2.1,(hf b hb).2.2.2.2.2⟩
theorem Inv.letgo {pins:List (Addr×Obj)} {σ:St} {H H₀:Hp} {s s₀:Shared} {C:Addr} {h':Heap} (I₀:Inv X pins σ₀ H₀ s₀) (I:Inv X pins σ H s) (hn:H C=none) (hC:s₀.heap.objs.size<=C) (hs:Heap.SameBut C s.heap h'):Inv X pins σ H { s with heap:=h' } :=
 I.turned (t':=s.toks) (it:=C) (λ b o hb e=>(hs.2 b hb).trans e) hn (cU (aZ I₀.lt hC)) (.inr (bA I₀.sz hC))
  (λ x c e z=>by
   obtain ⟨v,q⟩:=I₀.cell x c e;exact absurd (aZ q.lt (by rw [z]; exact hC)) (bR _))
  λ p hp z=>absurd (aZ (Heap.lt_size (I₀.pin p hp).1) (by rw [z]; exact hC)) (bR _)
end
def b3e (X:Cx) (ifs:List Expr) (t:TT):Prop :=
 ∀ (pins:List (Addr×Obj)) (s:Shared) (σ:St) (H:Hp) (Q:Bool->Hp->Prop),Inv X pins σ H s->t σ H Q →
  wpAny (model X.prog X.w) X.A (forIn ifs true λ c r=>if r=true then do let ok <- isTrue c X.env (eval c X.env); pure (gS ok) else pure (gS r)) (TP X pins σ Q) X.xe s
def a8B:TT:=λ _ H Q=>Q true H
theorem a4D {X:Cx}:b3e X [] a8B:=λ _ _ _ H _ I h=>wpAny_tests_nil ⟨H,I,h⟩
theorem a4J {X:Cx} {c:Expr} {t:TT} (h:PT X c t):b3e X [c] t:=λ pins s σ H Q I q=>wpAny_tests_one (h pins s σ H Q I q)
theorem a0r {M:Model} {A:Around} {E:Value->Shared->Prop} {s:Shared} {scope:Scope} {globals:Addr} {closure:List (Str×Addr)} {qual:Str} {env:Env} {Q:Env->Shared->Prop}
  (hQ:Q { scope,locals:=s.heap.objs.size,globals,cells:=cellsFrom (s.heap.objs.size+1) scope.names closure,qual,func:=none,code:=env.code,frame:=env.frame,builtins:=env.builtins } { s with heap:=pushCells (s.heap.push { cls:=.type "dict",data:=.dict #[] }) scope.names }) :
  wpAny M A (newFunctionEnv scope globals closure [] qual none .none (some env)) Q E s:=by
 simp only [newFunctionEnv,Option.isSome_some,if_true];refine wpAny_bind (wpAny_alloc ?_);refine wpAny_bind (wpAny_layCells _ (λ name kind cells=>by cases hkc:kind==NameKind.cell <;> simp [hkc]) _ _ _ _ ?_);rw [show ({ s with heap:=s.heap.push { cls:=.type "dict",data:=.dict #[] } }:Shared).heap.objs.size=s.heap.objs.size+1 from Heap.size_push ..];simp only [iY];exact wpAny_bind (wpAny_pure (wpAny_pure hQ))
theorem a3s {prog:Program} {w:World} {A:Around} {R:Result->Shared->Prop} {s:Shared} {elt target iter:Expr} {ifs:List Expr} {scope:Scope} {pos:Pos} {it acc:Value} {env:Env} (I:Nat->Shared->Prop)
  (turn:∀ n s,I n s->wpAny (model prog w) A (pyNext it) (λ r s₁=>match r with
   | none=>R (.ok .next) s₁
   | some v=>wpAny (model prog w) A (letOwnedTupleGo target it v) (λ _ s₀=>wpAny (model prog w) A (assign target env v) (λ _ s₂ =>
     wpAny (model prog w) A (forIn ifs true λ c r=>if r=true then do let ok <- isTrue c env (eval c env); pure (gS ok) else pure (gS r)) (λ ok s₃ =>
      if ok=true then wpAny (model prog w) A (eval elt env) (λ x s₄ =>
       wpAny (model prog w) A (call (.builtin "list.append") [acc,x]) (λ _ s₅=>∃ m,m<n/\I m s₅) (λ _ _=>False) s₄) (λ _ _=>False) s₃
      else ∃ m,m<n/\I m s₃) (λ _ _=>False) s₂) (λ _ _=>False) s₀) (λ _ _=>False) s₁) (λ _ _=>False) s)
  (n:Nat) (h:I n s) :
  codeAny (model prog w) A (.compLoop (.ListComp elt [⟨target,iter,ifs,0⟩] scope pos) 0 it acc env) R s:=by
 refine codeAny_loop rfl I (λ n s hI=>?_) n h
 show wpAny _ A ((compTurn (.ListComp elt [⟨target,iter,ifs,0⟩] scope pos) 0 it acc env).onRaise (λ x=>do noteFrame x env; theTreesLotGoes x)) _ _ s
 refine wpAny_noted ?_;rw [compTurn_list];refine wpAny_bind (wpAny_standAt (wpAny_bind (wpAny_mono (turn n s hI) (λ r s₁ h₁=>?_) λ _ _ h'=>h'.elim)))
 cases r with
 | none=>exact wpAny_pure h₁
 | some v =>
  refine wpAny_bind (wpAny_mono h₁ (λ _ s₀ h₀=>?_) λ _ _ h'=>h'.elim);refine wpAny_bind (wpAny_mono h₀ (λ _ s₂ h₂=>wpAny_bind (wpAny_mono h₂ (λ ok s₃ h₃=>?_) λ _ _ h'=>h'.elim)) λ _ _ h'=>h'.elim)
  cases ok with
  | false=>exact wpAny_pure ⟨rfl,h₃⟩
  | true =>
   exact wpAny_bind (wpAny_bind (wpAny_mono h₃ (λ x s₄ h₄=>wpAny_bind (wpAny_mono h₄ (λ _ s₅ h₅=>wpAny_pure (wpAny_pure ⟨rfl,h₅⟩)) λ _ _ h'=>h'.elim)) λ _ _ h'=>h'.elim))
def lcW (n:Nat) (fr:List Nat) (g:TG) (te:TE) (σ:St) (J:It) (H1:Hp) (p:Addr) (D:Hp->Prop):Prop :=
 ∃ W:Nat->Nat->List V->Hp->Prop,(∃ m,W 0 m [] (upd H1 p (.lst [])))/\∀ i m ys H,W i m ys H →
  (J.stop i H/\D H)\/(J.go i H/\∀ x H',J.yld i H x H'->g x (blkσ n fr σ) H' λ σ2 H2=>Wk (blkσ n fr σ) σ2/\te σ2 H2 λ v H3=>H3 p=some (.lst ys)/\ys.length<sizeLine/\∃ m',m'<m/\W (i+1) m' (ys++[v]) (upd H3 p (.lst (ys++[v]))))
def tLC (n:Nat) (fr:List Nat) (wi:TI) (g:TG) (te:TE):TE:=λ σ H Q=>wi σ H λ J H1=>∀ p,H1 p=none->lcW n fr g te σ J H1 p (Q (.ref p))
def lcI (n:Nat) (fr:List Nat) (g:TG) (tc:TT) (te:TE) (σ:St) (J:It) (H1:Hp) (p:Addr) (D:Hp->Prop):Prop :=
 ∃ W:Nat->Nat->List V->Hp->Prop,(∃ m,W 0 m [] (upd H1 p (.lst [])))/\∀ i m ys H,W i m ys H →
  (J.stop i H/\D H)\/(J.go i H/\∀ x H',J.yld i H x H'->g x (blkσ n fr σ) H' λ σ2 H2=>Wk (blkσ n fr σ) σ2/\tc σ2 H2 λ ok H2' =>
   if ok=true then te σ2 H2' λ v H3=>H3 p=some (.lst ys)/\ys.length<sizeLine/\∃ m',m'<m/\W (i+1) m' (ys++[v]) (upd H3 p (.lst (ys++[v]))) else ∃ m',m'<m/\W (i+1) m' ys H2')
def b4X (n:Nat) (fr:List Nat) (wi:TI) (g:TG) (tc:TT) (te:TE):TE:=λ σ H Q=>wi σ H λ J H1=>∀ p,H1 p=none->lcI n fr g tc te σ J H1 p (Q (.ref p))
theorem a4I {n:Nat} {fr:List Nat} {g:TG} {te:TE} {σ:St} {J:It} {H1:Hp} {p:Addr} {D:Hp->Prop}:lcI n fr g a8B te σ J H1 p D=lcW n fr g te σ J H1 p D:=by
 unfold lcI lcW a8B;simp only [if_true]
section
variable {X:Cx} {os:List Str} {fr:List Nat} {scope:Scope} {elt tg iter:Expr} {pos:Pos} {wi:TI} {g:TG} {te:TE}
theorem a0b {ifs:List Expr} {tc:TT} {pins:List (Addr×Obj)} {σ:St} {s2:Shared} {D:Addr->Hp->Prop} {itv:Value} {RR:Value->Addr->Result->Shared->Prop}
  (hc:X.calm=true) (hg:∀ C fp s₀ H₀,PG (R7 X os fr scope C fp s₀ H₀) tg g) (ht:∀ C fp s₀ H₀,b3e (R7 X os fr scope C fp s₀ H₀) ifs tc) (he:∀ C fp s₀ H₀,PE (R7 X os fr scope C fp s₀ H₀) elt te)
  (hk:scope.kind=.function) (hok:X5 X.env.scope scope X.N fr=true)
  (h2:PIE X pins σ tg (λ J H1=>∀ p,H1 p=none->lcI os.length fr g tc te σ J H1 p (D p)) itv s2)
  (hRR:∀ p C s3 H3 s' H',Inv X pins σ H3 s3->s3.heap.objs.size=C->H' C=none->Inv X pins σ H' s'->(∃ m,s'.heap.Ns C m)->D p H'->RR (.ref p) C (.ok .next) s') :
  wpAny (model X.prog X.w) X.A (newList []) (λ acc s₃=>wpAny (model X.prog X.w) X.A (newFunctionEnv scope X.env.globals (clo X.env scope.names []) [] X.env.qual none .none (some X.env)) (λ cenv s₄ =>
   codeAny (model X.prog X.w) X.A (.compStart (.ListComp elt [⟨tg,iter,ifs,0⟩] scope pos) 0 itv acc { cenv with scope:=relabel scope X.env }) (RR acc cenv.locals) s₄) X.xe s₃) X.xe s2:=by
 obtain ⟨it,fp,tn,J,H2,e,I2,T,st2,f2,hR⟩:=h2;subst e;refine wpAny_newObj_type ?_;have fresh:H2 s2.heap.objs.size=none:=I2.fresh;obtain ⟨W,⟨m0,w0⟩,turn⟩:=hR s2.heap.objs.size fresh;have I3:Inv X pins σ (upd H2 s2.heap.objs.size (.lst [])) { s2 with heap:=s2.heap.push { cls:=.type "list",dict:=none,data:=.seq ([]:List Value).toArray } }:=I2.lnew (ys:=[]) (its:=[]) (t':=s2.toks) .nil (bW _);have obj2:=T.obj _ _ st2;have ne2:∀ b∈fp,b≠s2.heap.objs.size:=λ b hb=>by
  obtain ⟨o,e,_⟩:=obj2 b hb;exact bD (Heap.lt_size e)
 have st3:tn 0 (s2.heap.push { cls:=.type "list",dict:=none,data:=.seq ([]:List Value).toArray }):=T.keep _ _ _ st2 λ b hb o e=>Heap.get?_push_of_some _ e;have f3:∀ b∈fp,Q7 X pins (upd H2 s2.heap.objs.size (.lst [])) b:=λ b hb=>⟨by rw [d0 (ne2 b hb)]; exact (f2 b hb).1,(f2 b hb).2⟩;generalize hs3:({ s2 with heap:=s2.heap.push { cls:=.type "list",dict:=none,data:=.seq ([]:List Value).toArray } }:Shared)=s3 at I3 ⊢;have st3':tn 0 s3.heap:=by rw [<- hs3]; exact st3
 generalize s2.heap.objs.size=p at *;refine a0r ?_;have hns:(pushCells (s3.heap.push { cls:=.type "dict",data:=.dict #[] }) scope.names).Ns s3.heap.objs.size λ _=>none:=(Heap.Ns.new s3.heap (.type "dict")).keeps (pushCells_keeps _ _);have hkeep:∀ b o,s3.heap.get? b=some o->(pushCells (s3.heap.push { cls:=.type "dict",data:=.dict #[] }) scope.names).get? b=some o:=λ b o e=>pushCells_keeps _ _ b o (Heap.get?_push_of_some _ e);have hcl:=cellsFrom_ok scope.names (s3.heap.push { cls:=.type "dict",data:=.dict #[] }) (s3.heap.objs.size+1) [] ⟨λ _ _ hm=>(nomatch hm),kP⟩ (by rw [Heap.size_push]; exact aF _);rw [Heap.size_push] at hcl;generalize pushCells (s3.heap.push { cls:=.type "dict",data:=.dict #[] }) scope.names=h₁ at hns hkeep hcl ⊢;have obj3:∀ b∈fp,∃ o,s3.heap.get? b=some o:=λ b hb=>by
  obtain ⟨o,e,_⟩:=T.obj _ _ st3' b hb;exact ⟨o,e⟩
 have J0:=I3.block (os:=os) (t':=s3.toks) hk hok f3 obj3 (h₁:=h₁) hns hkeep hcl;have ok0:=J0.ok;have fpY:∀ {H':Hp},(∀ b∈fp,H' b=none)->∀ b∈fp,Q7 (R7 X os fr scope s3.heap.objs.size fp s3 (upd H2 p (.lst []))) [] H' b:=λ hn b hb =>
  ⟨hn b hb,(ok0.exf b hb).1,ok0.exfs b hb,.inl hb,(ok0.exf b hb).2,λ q hq=>nomatch hq⟩
 have st4:tn 0 h₁:=T.keep _ _ _ st3' λ b hb o e=>hkeep b o e;have fr0:∀ b∈fp,upd H2 p (.lst []) b=none:=λ b hb=>(f3 b hb).1;have loop:∀ s4:Shared,s4={ s3 with heap:=h₁,toks:=s3.toks } →
   codeAny (model X.prog X.w) X.A (.compLoop (.ListComp elt [⟨tg,iter,ifs,0⟩] scope pos) 0 (.ref it) (.ref p) (compEnvC scope (M7 X.env scope s3.heap.objs.size) s3.heap.objs.size X.env)) (RR (.ref p) s3.heap.objs.size) s4:=by
  rintro s4 rfl;refine a3s (λ n s'=>∃ i ys H',Inv (R7 X os fr scope s3.heap.objs.size fp s3 (upd H2 p (.lst []))) [] (blkσ os.length fr σ) H' s'/\tn i s'.heap/\(∀ b∈fp,H' b=none)/\W i n ys H') ?_ m0 ⟨0,[],_,J0,st4,fr0,w0⟩;rintro n s5 ⟨i,ys,H5,I5,st5,fr5,w5⟩;rcases turn i n ys H5 w5 with ⟨stop,qd⟩ | ⟨go,step⟩
  ·refine B6 (T.done (R7 X os fr scope s3.heap.objs.size fp s3 (upd H2 p (.lst []))) rfl rfl rfl hc i [] s5 _ H5 (λ _ _=>False) I5 (fpY fr5) st5 stop) λ r s6 ⟨hr,I6⟩=>?_
   subst hr;exact hRR p _ s3 _ s6 H5 I3 rfl I6.free (I3.unblock f3 I6) (let ⟨m,hm,_⟩:=I6.loc; ⟨m,hm⟩) qd
  ·refine B6 (T.item (R7 X os fr scope s3.heap.objs.size fp s3 (upd H2 p (.lst []))) rfl rfl rfl hc i [] s5 _ H5 (λ _ _=>False) I5 (fpY fr5) st5 go) λ r s6 ⟨u,hr,h6⟩=>?_
   subst hr;refine B6 h6 λ _ s7 ⟨x,H7,I7,r7,y7,st7,fr7⟩=>?_;have I7':=I7.pinned (fpY fr7) (T.obj _ _ st7);refine B6 (hg _ _ _ _ _ s7 _ H7 x u _ I7' r7 (step x H7 y7)) λ _ s8 ⟨σ8,H8,I8,wk8,q8⟩=>?_;have again:∀ {H':Hp} {s':Shared} {zs:List V} {m':Nat},Inv (R7 X os fr scope s3.heap.objs.size fp s3 (upd H2 p (.lst []))) ([]++a0H fp s7.heap) σ8 H' s'->m'<n->W (i+1) m' zs H' →
     ∃ m,m<n/\∃ i ys H',Inv (R7 X os fr scope s3.heap.objs.size fp s3 (upd H2 p (.lst []))) [] (blkσ os.length fr σ) H' s'/\tn i s'.heap/\(∀ b∈fp,H' b=none)/\W i m ys H':=λ {H' s' zs m'} J' hm' w'=>by
    refine ⟨m',hm',i+1,zs,H',(J'.weak wk8.1.symm λ i v e=>wk8.2 i v e).unpinned,T.keep _ _ _ st7 λ b hb o e=>(J'.pin (b,o) (cF _ (cF _ (K7 hb e)))).1,λ b hb=>?_,w'⟩;obtain ⟨o,e,d⟩:=T.obj _ _ st7 b hb;exact (J'.pin (b,o) (cF _ (cF _ (K7 hb e)))).2.1
   refine B6 (ht _ _ _ _ _ s8 σ8 H8 _ I8 q8) λ ok s9 ⟨H9,I9,q9⟩=>?_
   cases ok with
   | false =>
    obtain ⟨m',hm',w9⟩:=q9;exact again I9 hm' w9
   | true =>
    refine B6 (he _ _ _ _ _ s9 σ8 H9 _ I9 q9) λ y s10 ⟨v,H10,I10,r10,hp10,hz10,m',hm',w10⟩=>?_;refine B6 (N4 (X:=R7 X os fr scope s3.heap.objs.size fp s3 (upd H2 p (.lst []))) _ s10 σ8 H10 (.ref p) [v] (.ref p) [y] (λ _ H'=>H'=upd H10 p (.lst (ys++[v]))) I10 rfl (.cons r10 .nil) ⟨p,ys,v,rfl,rfl,hp10,hz10,rfl⟩) λ _ s11 ⟨_,H11,I11,_,e11⟩=>?_;subst e11;exact again I11 hm' w10
 exact codeAny_compStart_list (loop _ rfl) (T.self _ 0 _ _ _ st4 (loop _ rfl))
theorem M8 (os:List Str) (fr:List Nat) (hc:X.calm=true) (hi:PI X tg iter wi) (hg:∀ C fp s₀ H₀,PG (R7 X os fr scope C fp s₀ H₀) tg g) (he:∀ C fp s₀ H₀,PE (R7 X os fr scope C fp s₀ H₀) elt te)
  (hk:scope.kind=.function:=by rfl) (hok:X5 X.env.scope scope X.N fr=true:=by rfl) (hs:∀ x,foldedSetIterable iter X.env x=pure x:=by intro _; rfl) :
  PE X (.ListComp elt [⟨tg,iter,[],0⟩] scope pos) (tLC os.length fr wi g te):=by
 intro pins s σ H Q I h;unfold tLC at h;simp only [<- a4I] at h;rw [eval_ListComp];refine wpAny_comprehension_free (use:=none) rfl hs (C7 (O7 I hok)) hk (λ x hx hl=>by have:=(M5 hok x hx).1; rw [hl] at this; exact this) (B6 (hi pins s σ H _ I h) λ v s1 h1=>B6 h1 λ itv s2 h2=>?_);refine a0b (os:=os) (D:=λ p H'=>Q (.ref p) H') (RR:=λ acc C=>compPost (model X.prog X.w) X.A X.xe none (EP X pins σ Q) acc C) hc hg (λ _ _ _ _=>a4D) he hk hok h2 ?_;intro p C s3 H3 s' H' I3 eC hn I' ⟨m,hm⟩ q;refine ⟨m,hm,λ h' hs'=>⟨.ref p,H',I3.letgo I' hn (by omega) hs',rfl,q⟩⟩
theorem a3R {c:Expr} {tc:TT} (os:List Str) (fr:List Nat) (hc:X.calm=true) (hi:PI X tg iter wi) (hg:∀ C fp s₀ H₀,PG (R7 X os fr scope C fp s₀ H₀) tg g) (ht:∀ C fp s₀ H₀,PT (R7 X os fr scope C fp s₀ H₀) c tc) (he:∀ C fp s₀ H₀,PE (R7 X os fr scope C fp s₀ H₀) elt te)
  (hk:scope.kind=.function:=by rfl) (hok:X5 X.env.scope scope X.N fr=true:=by rfl) (hs:∀ x,foldedSetIterable iter X.env x=pure x:=by intro _; rfl) :
  PE X (.ListComp elt [⟨tg,iter,[c],0⟩] scope pos) (b4X os.length fr wi g tc te):=by
 intro pins s σ H Q I h;rw [eval_ListComp];refine wpAny_comprehension_free (use:=none) rfl hs (C7 (O7 I hok)) hk (λ x hx hl=>by have:=(M5 hok x hx).1; rw [hl] at this; exact this) (B6 (hi pins s σ H _ I h) λ v s1 h1=>B6 h1 λ itv s2 h2=>?_);refine a0b (os:=os) (D:=λ p H'=>Q (.ref p) H') (RR:=λ acc C=>compPost (model X.prog X.w) X.A X.xe none (EP X pins σ Q) acc C) hc hg (λ _ _ _ _=>a4J (ht _ _ _ _)) he hk hok h2 ?_;intro p C s3 H3 s' H' I3 eC hn I' ⟨m,hm⟩ q;refine ⟨m,hm,λ h' hs'=>⟨.ref p,H',I3.letgo I' hn (by omega) hs',rfl,q⟩⟩
theorem P5 {i:Nat} {x:Str} {pos' spos:Pos} (os:List Str) (fr:List Nat) (hN:X.N.Nodup) (hi':X.N[i]?=some x) (hx:X.env.scope.names.lookup x=some .local)
  (hc:X.calm=true) (hi:PI X tg iter wi) (hg:∀ C fp s₀ H₀,PG (R7 X os fr scope C fp s₀ H₀) tg g) (he:∀ C fp s₀ H₀,PE (R7 X os fr scope C fp s₀ H₀) elt te)
  (hsw:swapsWith (.ListComp elt [⟨tg,iter,[],0⟩] scope pos) (some (.Name x pos')) spos.line X.env=pure true:=by rfl)
  (hk:scope.kind=.function:=by rfl) (hok:X5 X.env.scope scope X.N fr=true:=by rfl) (hs:∀ x,foldedSetIterable iter X.env x=pure x:=by intro _; rfl) :
  PS X (.Assign [.Name x pos'] (.ListComp elt [⟨tg,iter,[],0⟩] scope pos) spos) (a4K (tLC os.length fr wi g te) (K5 i)):=by
 intro pins s σ H D I h;unfold a4K tLC at h;simp only [<- a4I] at h;rw [exec_Assign_Name_used _ _ _ _ hsw];refine wpAny_bind (wpAny_standAt (wpAny_bind ?_))
 show wpAny _ X.A (do let _ <- comprehension (.ListComp elt [⟨tg,iter,[],0⟩] scope pos) scope X.env _ (newList []) false (eval iter X.env) (some (assign (.Name x pos') X.env))) _ _ s
 refine wpAny_bind (wpAny_mono (wpAny_comprehension_free (use:=some (assign (.Name x pos') X.env)) (Q:=λ _ s'=>SP X pins D .next s') rfl hs (C7 (O7 I hok)) hk (λ x hx hl=>by have:=(M5 hok x hx).1; rw [hl] at this; exact this)
  (B6 (hi pins s σ H _ I h) λ v s1 h1=>B6 h1 λ itv s2 h2=>?_)) (λ _ s' hq=>wpAny_pure (wpAny_pure hq)) λ _ _ e=>e)
 refine a0b (os:=os) (D:=λ p H'=>D.nx (σ.set i (some (.ref p))) H') (RR:=λ acc C=>compPost (model X.prog X.w) X.A X.xe (some (assign (.Name x pos') X.env)) (λ _ s'=>SP X pins D .next s') acc C) hc hg (λ _ _ _ _=>a4D) he hk hok h2 ?_;intro p C s3 H3 s' H' I3 eC hn I' ⟨m,hm⟩ q
 show wpAny _ X.A (assign (.Name x pos') X.env (.ref p)) _ _ _
 refine wpAny_assign_Name (X1 (v:=.ref p) I' hN hi' (.inl hx) rfl (λ s'' I'' ⟨a,hsa,ha⟩=>?_) (.inr hx));have hCa:C≠a:=by
  rcases ha with e | e
  ·rw [e]; exact cU (by rw [<- eC]; exact I3.lt)
  ·obtain ⟨v,z⟩:=I3.cell x a e
   exact cU (by rw [<- eC]; exact z.lt)
 exact ⟨m,hm.sameBut hsa hCa,λ h' hs'=>⟨_,H',I3.letgo I'' hn (by omega) hs',q⟩⟩
end
section
variable {X:Cx} {pins:List (Addr×Obj)} {σ:St} {H:Hp} {s:Shared} {a:Addr} {xs:List V}
abbrev SqA (K:W.Frag) (H:Hp) (a:Addr) (xs:List V):Prop:=SqL K H a xs\/SqT K H a xs
theorem a3S {h':Heap} {o:Obj} {h:Heap} (hk:∀ b x,b ∉ [h.objs.size]->(h.push o).get? b=some x->h'.get? b=some x):∀ b x,h.get? b=some x->h'.get? b=some x :=
 λ b x e=>hk b x (λ hm=>by rw [bH.mp hm] at e; exact bR _ (Heap.lt_size e)) (Heap.get?_push_of_some _ e)
theorem a1X (hc:X.calm=true) (I:Inv X pins σ H s) (h:SqA X.K H a xs):∃ its:List Value,Vals xs its/\∀ (Q:Value->Shared->Prop) (E:Value->Shared->Prop),
  (∀ (o:Obj) (St:Nat->Heap->Prop),Walks X.prog X.w X.A.in1 s.heap.objs.size [s.heap.objs.size,a] [s.heap.objs.size] its.toArray.size (λ i v=>its.toArray[i]?=some v) St->St 0 (s.heap.push o) →
   (∀ b∈[s.heap.objs.size,a],b<(s.heap.push o).objs.size)->Q (.ref s.heap.objs.size) { s with heap:=s.heap.push o })->wpAny (model X.prog X.w) X.A.in1 (pyIter (.ref a)) Q E s:=by
 have hh:=I.ok.hd hc;have lt2:∀ (o:Obj),a<s.heap.objs.size->∀ b∈[s.heap.objs.size,a],b<(s.heap.push o).objs.size:=λ o hlt b hb=>by
  rw [Heap.size_push];rcases aL.mp hb with rfl | hb
  ·exact eH _
  ·rw [bH.mp hb]; exact dQ hlt
 rcases h with h | h
 ·obtain ⟨its,r,p,hz⟩:=I.list h
  have hl:=p.isList;have hlt:a<s.heap.objs.size:=by obtain ⟨_,e,_⟩:=hl; exact Heap.lt_size e
  refine ⟨its,r,λ Q E hQ=>wpAny_pyIter_list hl ?_⟩;exact hQ _ _ (Walks.list (A:=X.A.in1) hh _ a (bD hlt) its.toArray) ⟨⟨_,Heap.get?_push_size _ rfl,rfl,rfl⟩,hl.push _⟩ (lt2 _ hlt)
 ·obtain ⟨its,r,p,hz⟩:=I.tuple h
  have hl:s.heap.IsTuple a its.toArray:=p;have hlt:a<s.heap.objs.size:=by obtain ⟨_,e,_⟩:=hl; exact Heap.lt_size e
  refine ⟨its,r,λ Q E hQ=>wpAny_pyIter_tuple hl ?_⟩;exact hQ _ _ (Walks.tuple (A:=X.A.in1) hh _ a (bD hlt) its.toArray) ⟨⟨_,Heap.get?_push_size _ rfl,rfl,rfl⟩,hl.push _⟩ (lt2 _ hlt)
theorem b1s {ys:List V} {its:List Value} (r:Vals ys its) {i:Nat} {v:Value} (e:its.toArray[i]?=some v):∃ y,ys[i]?=some y/\RelV y v:=by
 have e':its[i]?=some v:=by simpa using e
 cases q:ys[i]? with
 | none=>rw [r.none_of q] at e'; cases e'
 | some y =>
  obtain ⟨u,h1,h2⟩:=r.get q;rw [e'] at h1; cases h1;exact ⟨y,rfl,h2⟩
end
section
variable {X:Cx}
theorem a0t {ns:List Int} {its:List Value} (rv:Vals (ns.map V.int) its):∀ (i:Nat) (v:Value),its.toArray[i]?=some v->∃ t,v=Value.int (ns.getD i 0) t:=λ i v hP=>by
 obtain ⟨y,e,ry⟩:=b1s rv hP;rw [aE] at e
 cases en:ns[i]? with
 | none=>rw [en] at e; cases e
 | some n =>
  rw [en] at e; cases e;obtain ⟨t,rfl⟩:=ry;exact ⟨t,by rw [aG,en]; rfl⟩
theorem a1e (ns:List Int):∀ j,preSum (λ i=>ns.getD i 0) j=(ns.take j).sum
 | 0=>by simp [preSum]
 | j+1=>by
  rw [preSum,a1e ns j]
  by_cases hj:j<ns.length
  ·rw [kQ hj,List.sum_append,aG,aD hj]; simp
  ·rw [fF (by omega),fF (by omega),aG,aW (by omega)]; simp
theorem a4E (hc:X.calm=true):M2 X (.builtin "sum") (λ vs H Q=>∃ (a:Addr) (ns:List Int),vs=[.ref a]/\SqA X.K H a (ns.map V.int)/\Q (.int ns.sum) H):=by
 intro pins s σ H vs us Q I r h;obtain ⟨a,ns,rfl,hs,q⟩:=h;obtain ⟨u,rfl,ru⟩:=N9 r
 cases ru;obtain ⟨its,rv,walk⟩:=a1X hc I hs;have hlen:its.toArray.size=ns.length:=by rw [bM,<- rv.length,aA]
 refine call_sum_walkG (walk _ _ λ o St W st fp=>?_);refine ⟨_,_,_,_,_,_,λ i=>ns.getD i 0,rfl,W,st,fp,a0t rv,λ h' tk t' hk=>?_⟩;rw [hlen,a1e,fF (aF _)];exact ⟨.int _,H,I.kept (a3S hk),⟨_,rfl⟩,q⟩
theorem a3d {l:List Int} {j:Nat} (h:j<l.length):l.getD j 0∈l:=by
 rw [aG,aD h]; exact cS h
theorem a3c {l:List Int} {a:Int} (h:a∈l):∃ j,j<l.length/\l.getD j 0=a:=by
 obtain ⟨j,hj,e⟩:=gU h;exact ⟨j,hj,by rw [aG,aD hj]; exact e⟩
theorem a0M (hc:X.calm=true):M2 X (.builtin "max") (λ vs H Q=>∃ (a:Addr) (ns:List Int),vs=[.ref a]/\SqA X.K H a (ns.map V.int)/\ns≠[]/\∀ M,M∈ns->(∀ n∈ns,n<=M)->Q (.int M) H):=by
 intro pins s σ H vs us Q I r h;obtain ⟨a,ns,rfl,hs,hne,q⟩:=h;obtain ⟨u,rfl,ru⟩:=N9 r
 cases ru;obtain ⟨its,rv,walk⟩:=a1X hc I hs;have hlen:its.toArray.size=ns.length:=by rw [bM,<- rv.length,aA]
 have hpos:0<ns.length:=iZ.mpr hne;refine call_max_walk (walk _ _ λ o St W st fp=>?_);refine ⟨_,_,_,_,_,_,_,rfl,W,st,fp,by rw [hlen]; exact hpos,CmpOf.ints_gt (λ i=>ns.getD i 0) (a0t rv),λ v h' tk hP hk=>?_⟩;obtain ⟨h1,h2⟩:=argBest_gt (λ i=>ns.getD i 0) (its.toArray.size - 1);obtain ⟨t,rfl⟩:=a0t rv _ v hP;refine ⟨.int _,H,I.kept (a3S hk),⟨_,rfl⟩,q _ (a3d (by omega)) λ n hn=>?_⟩;obtain ⟨j,hj,rfl⟩:=a3c hn;exact h2 j (by omega)
theorem a7B (hc:X.calm=true):M2 X (.builtin "min") (λ vs H Q=>∃ (a:Addr) (ns:List Int),vs=[.ref a]/\SqA X.K H a (ns.map V.int)/\ns≠[]/\∀ M,M∈ns->(∀ n∈ns,M<=n)->Q (.int M) H):=by
 intro pins s σ H vs us Q I r h;obtain ⟨a,ns,rfl,hs,hne,q⟩:=h;obtain ⟨u,rfl,ru⟩:=N9 r
 cases ru;obtain ⟨its,rv,walk⟩:=a1X hc I hs;have hlen:its.toArray.size=ns.length:=by rw [bM,<- rv.length,aA]
 have hpos:0<ns.length:=iZ.mpr hne;refine call_min_walk (walk _ _ λ o St W st fp=>?_);refine ⟨_,_,_,_,_,_,_,rfl,W,st,fp,by rw [hlen]; exact hpos,CmpOf.ints_lt (λ i=>ns.getD i 0) (a0t rv),λ v h' tk hP hk=>?_⟩;obtain ⟨h1,h2⟩:=argBest_lt (λ i=>ns.getD i 0) (its.toArray.size - 1);obtain ⟨t,rfl⟩:=a0t rv _ v hP;refine ⟨.int _,H,I.kept (a3S hk),⟨_,rfl⟩,q _ (a3d (by omega)) λ n hn=>?_⟩;obtain ⟨j,hj,rfl⟩:=a3c hn;exact h2 j (by omega)
end
mutual
inductive Dp (K:W.Frag) (H:Hp):V->PyData->Prop
 | non:Dp K H .non .none
 | bl (b:Bool):Dp K H (.bl b) (.bool b)
 | int (i:Int):Dp K H (.int i) (.int i)
 | str (x:Str):Dp K H (.str x) (.str x)
 | lst {a:Addr} {xs:List V} {ds:List PyData}:SqL K H a xs->Dps K H xs ds->Dp K H (.ref a) (.list ds)
 | tup {a:Addr} {xs:List V} {ds:List PyData}:SqT K H a xs->Dps K H xs ds->Dp K H (.ref a) (.tuple ds)
inductive Dps (K:W.Frag) (H:Hp):List V->List PyData->Prop
 | nil:Dps K H [] []
 | cons {x:V} {xs:List V} {d:PyData} {ds:List PyData}:Dp K H x d->Dps K H xs ds->Dps K H (x::xs) (d::ds)
end
theorem Same.tseq {K:W.Frag} {H H':Hp} {a:Addr} {xs:List V} (e:Same H H') (h:SqT K H a xs):SqT K H' a xs:=by
 rcases h with (h | ⟨o,h⟩) | h
 ·exact .inl (.inl (e _ _ h))
 ·exact .inl (.inr ⟨o,e _ _ h⟩)
 ·exact .inr h
mutual
theorem Dp.same {K:W.Frag} {H H':Hp} (e:Same H H'):∀ {x:V} {d:PyData},Dp K H x d->Dp K H' x d
 | _,_,.non=>.non
 | _,_,.bl b=>.bl b
 | _,_,.int i=>.int i
 | _,_,.str x=>.str x
 | _,_,.lst h r=>.lst (e.seq h) (Dps.same e r)
 | _,_,.tup h r=>.tup (e.tseq h) (Dps.same e r)
theorem Dps.same {K:W.Frag} {H H':Hp} (e:Same H H'):∀ {xs:List V} {ds:List PyData},Dps K H xs ds->Dps K H' xs ds
 | _,_,.nil=>.nil
 | _,_,.cons a r=>.cons (Dp.same e a) (Dps.same e r)
end
section
variable {X:Cx} {pins:List (Addr×Obj)} {σ:St} {H:Hp} {s:Shared}
mutual
theorem Dp.reads (I:Inv X pins σ H s):∀ {x:V} {d:PyData},Dp X.K H x d->∀ {u:Value},RelV x u->∃ as,Reads s.heap u d as
 | _,_,.non,u,r=>by cases r; exact ⟨_,.none⟩
 | _,_,.bl b,u,r=>by cases r; exact ⟨_,.bool b⟩
 | _,_,.int i,u,r=>by obtain ⟨t,rfl⟩:=r; exact ⟨_,.int i t⟩
 | _,_,.str x,u,r=>by obtain ⟨t,rfl⟩:=r; exact ⟨_,.str x t⟩
 | _,_,.lst h q,u,r=>by
  cases r;obtain ⟨its,rv,p,hz⟩:=I.list h;obtain ⟨o,e1,e2,n,e3⟩:=p.isList;obtain ⟨as,ra⟩:=Dps.reads I q rv;exact ⟨_,.list e1 e2 e3 (by simpa using ra)⟩
 | _,_,.tup h q,u,r=>by
  cases r;obtain ⟨its,rv,p,hz⟩:=I.tuple h;obtain ⟨o,e1,e2,n,e3⟩:=(show s.heap.IsTuple _ its.toArray from p);obtain ⟨as,ra⟩:=Dps.reads I q rv;exact ⟨_,.tuple e1 e2 e3 (by simpa using ra)⟩
theorem Dps.reads (I:Inv X pins σ H s):∀ {xs:List V} {ds:List PyData},Dps X.K H xs ds->∀ {us:List Value},Vals xs us->∃ as,ReadsAll s.heap us ds as
 | _,_,.nil,us,r=>by cases r; exact ⟨_,.nil⟩
 | _,_,.cons a q,us,r=>by
  cases r with
  | cons r1 r2 =>
   obtain ⟨as,h1⟩:=Dp.reads I a r1;obtain ⟨bs,h2⟩:=Dps.reads I q r2;exact ⟨_,.cons h1 h2⟩
end
end
section
variable {X:Cx}
def b5B (K:W.Frag):R2:=λ x y H Q=>∃ d e,Dp K H x d/\Dp K H y e/\d.canLay0=true/\e.canLay0=true/\min d.depth e.depth<=60/\Q (.bl (PyData.eqv d e)) H
def b5l (K:W.Frag):R2:=λ x y H Q=>∃ d e,Dp K H x d/\Dp K H y e/\d.canLay0=true/\e.canLay0=true/\min d.depth e.depth<=60/\Q (.bl (!PyData.eqv d e)) H
theorem b2Y {k:Nat} (hr:Room k X.A):X7 X (compareOp .Eq) (b5B X.K):=by
 intro pins s σ H x y v u Q I rx ry h;obtain ⟨d,e,h1,h2,c1,c2,hd,q⟩:=h;obtain ⟨as,r1⟩:=h1.reads I rx;obtain ⟨bs,r2⟩:=h2.reads I ry;exact SeqAt.compareEq_reads r1 r2 c1 c2 (by have:=hr.units; omega) ⟨.bl _,H,I,rfl,q⟩
theorem Y8 {k:Nat} (hr:Room k X.A):X7 X (compareOp .NotEq) (b5l X.K):=by
 intro pins s σ H x y v u Q I rx ry h;obtain ⟨d,e,h1,h2,c1,c2,hd,q⟩:=h;obtain ⟨as,r1⟩:=h1.reads I rx;obtain ⟨bs,r2⟩:=h2.reads I ry;exact SeqAt.compareNe_reads r1 r2 c1 c2 (by have:=hr.units; omega) ⟨.bl _,H,I,rfl,q⟩
end
theorem Same.new {H:Hp} {p:Addr} (h:H p=none) (o:HO):Same H (upd H p o):=λ b u q=>by rw [d0 (i8 q h)]; exact q
theorem Wk.set {n:Nat} {fr:List Nat} {σ:St} {i:Nat} {v:V} (hi:i<n):Wk (blkσ n fr σ) ((blkσ n fr σ).set i (some v)):=by
 refine ⟨by simp,λ j w e=>?_⟩
 by_cases hj:j=i
 ·subst hj
  unfold blkσ at e;rw [bF (by simpa using hi),dI] at e
  split at e <;> cases e
 ·rw [bS (aO hj)]; exact e
structure a5t (J:It) (H1:Hp) (xs:List V):Prop where
 go:∀ i H,Same H1 H->i<xs.length->J.go i H
 yld:∀ i H x H',Same H1 H->i<xs.length->J.yld i H x H'->H'=H/\xs[i]?=some x
 stop:∀ H,Same H1 H->J.stop xs.length H
theorem t8 {K:W.Frag} {a:Addr} {xs:List V} {H1:Hp} (h:SqL K H1 a xs):a5t (Itl K a) H1 xs :=
 ⟨λ i H e hi=>⟨xs,xs[i],e.seq h,aD hi⟩,λ i H x H' e hi y=>⟨y.1,y.2 xs (e.seq h)⟩,λ H e=>⟨xs,e.seq h,aF _⟩⟩
theorem a2u {K:W.Frag} {a:Addr} {xs:List V} {H1:Hp} (h:SqT K H1 a xs):a5t (Itt K a) H1 xs :=
 ⟨λ i H e hi=>⟨xs,xs[i],e.tseq h,aD hi⟩,λ i H x H' e hi y=>⟨y.1,y.2 xs (e.tseq h)⟩,λ H e=>⟨xs,e.tseq h,aF _⟩⟩
theorem a1Q {lo:Int} {n:Nat} {H1:Hp}:a5t (Itr lo n) H1 ((aH n).map λ (i:Nat)=>V.int (lo+(i:Int))) :=
 ⟨λ i H e hi=>(show i<n from by simpa using hi),λ i H x H' e hi y=>⟨y.1,by rw [y.2,aE,bI (by simpa using hi)]; rfl⟩,λ H e=>by simp [Itr]⟩
theorem Paired.app {α β:Type} {F:α->β->Prop}:∀ {a c:List α} {b d:List β},Paired F a b->Paired F c d->Paired F (a++c) (b++d)
 | _,_,_,_,.nil,s=>s
 | _,_,_,_,.cons r t,s=>.cons r (Paired.app t s)
section
variable {xs:List V} {J:It} {n:Nat} {fr:List Nat} {g:TG} {te:TE} {σ:St} {H1:Hp} {p:Addr} {D:Hp->Prop}
theorem U1 (hJ:a5t J H1 xs) (hp:H1 p=none) (hz:xs.length<sizeLine) (F:V->V)
  (step:∀ (i:Nat) x H (N:VK),xs[i]?=some x->Same H1 H->N (F x) H->g x (blkσ n fr σ) H λ σ2 H2=>Wk (blkσ n fr σ) σ2/\te σ2 H2 N)
  (hd:D (upd H1 p (.lst (xs.map F)))):lcW n fr g te σ J H1 p D:=by
 refine ⟨λ i m ys H=>m=xs.length - i/\i<=xs.length/\ys=(xs.take i).map F/\H=upd H1 p (.lst ys),⟨xs.length,by simp,bW _,by simp,rfl⟩,?_⟩;rintro i m ys H ⟨rfl,hi,rfl,rfl⟩;have e:=Same.new (o:=.lst ((xs.take i).map F)) hp
 by_cases hlt:i<xs.length
 ·refine .inr ⟨hJ.go i _ e hlt,λ x H' y=>?_⟩
  obtain ⟨rfl,hx⟩:=hJ.yld i _ x H' e hlt y;refine step i x _ _ hx e ⟨upd_same,by rw [aA,bX]; omega,xs.length - (i+1),by omega,rfl,hlt,?_,a1y⟩;rw [jA,hx,bN]; rfl
 ·have:i=xs.length:=by omega
  subst this;refine .inl ⟨hJ.stop _ e,?_⟩;rw [fF (aF _)]; exact hd
theorem D3 (hJ:a5t J H1 xs) (hp:H1 p=none) (hz:xs.length<sizeLine) (R:Nat->V->Hp->Prop) (hR:∀ i y H H',R i y H->(∀ b o,b≠p->H b=some o->H' b=some o)->R i y H')
  (step:∀ (i:Nat) x H ys (N:VK),xs[i]?=some x->Same H1 H->H p=some (.lst ys)->(∀ v H3,Same H H3->R i v H3->N v H3)->g x (blkσ n fr σ) H λ σ2 H2=>Wk (blkσ n fr σ) σ2/\te σ2 H2 N)
  (hd:∀ ys H,Same H1 H->H p=some (.lst ys)->ys.length=xs.length->(∀ i y,ys[i]?=some y->R i y H)->D H):lcW n fr g te σ J H1 p D:=by
 refine ⟨λ i m ys H=>m=xs.length - i/\i<=xs.length/\Same H1 H/\H p=some (.lst ys)/\ys.length=i/\∀ j y,ys[j]?=some y->R j y H,⟨xs.length,by simp,bW _,Same.new hp _,upd_same,rfl,λ j y e=>by simp at e⟩,?_⟩;rintro i m ys H ⟨rfl,hi,e,hH,len,pr⟩
 by_cases hlt:i<xs.length
 ·refine .inr ⟨hJ.go i _ e hlt,λ x H' y=>?_⟩
  obtain ⟨rfl,hx⟩:=hJ.yld i _ x H' e hlt y;refine step i x _ ys _ hx e hH λ v H3 s3 r3=>⟨s3 _ _ hH,by omega,xs.length - (i+1),by omega,rfl,hlt,λ b o q=>?_,upd_same,by rw [aJ,len]; rfl,λ j y ey=>?_⟩
  ·rw [d0 (i8 q hp)]; exact s3 _ _ (e _ _ q)
  ·have up:∀ b o,b≠p->H3 b=some o->upd H3 p (.lst (ys++[v])) b=some o:=λ b o hb q=>by rw [d0 hb]; exact q
   by_cases hj:j<ys.length
   ·rw [bF hj] at ey
    exact hR j y _ _ (pr j y ey) λ b o hb q=>up b o hb (s3 _ _ q)
   ·rw [bU (by omega)] at ey
    have hj':j - ys.length=0:=by
     cases q:j - ys.length with
     | zero=>rfl
     | succ k=>rw [q] at ey; simp at ey
    rw [hj'] at ey;have:j=i:=by omega
    subst this;simp at ey;subst ey;exact hR j v _ _ r3 up
 ·have:i=xs.length:=by omega
  subst this;exact .inl ⟨hJ.stop _ e,hd ys H e hH len pr⟩
end
theorem Inv.turnedLaid {X:Cx} {pins:List (Addr×Obj)} {σ:St} {H:Hp} {s:Shared} {h':Heap} {fp:List Addr} {T:Addr} {xs:List V} {its:List Value} (I:Inv X pins σ H s) (hf:∀ b∈fp,Q7 X pins H b)
  (k:∀ b o,b ∉ fp->s.heap.get? b=some o->h'.get? b=some o) (ho:∀ b∈fp,∃ o,h'.get? b=some o) (hT:s.heap.objs.size<=T) (hz:xs.length<=sizeLine) (hv:Vals xs its) (ht:IsTup h' T its.toArray) :
  Inv X pins σ (upd H T (.tup xs)) { s with heap:=h' }:=by
 have hTn:H T=none:=I.hok.fresh hT;have neT:∀ b o,s.heap.get? b=some o->b≠T:=λ b o e=>bD (aZ (Heap.lt_size e) hT);refine I.step (g':=s.gens) (t':=s.toks) (d':=s.drawn) (ch:=fp) (λ b hb=>⟨(hf b hb).2.2.2.1,(hf b hb).2.1,(hf b hb).2.2.2.2.1,(hf b hb).2.2.2.2.2⟩) (λ b o _ _ hc e _=>k b o hc e) (λ b o _ _ hc e _=>⟨o.slots,k b o hc e⟩)
  (λ b o hc e n=>by rw [d0 (neT b o e)]; exact n) (λ b o hc e=>⟨o,k b o hc e⟩) (λ b ys e=>by rw [d0 (i8 e hTn)]; exact e) (λ b o u e=>by rw [d0 (i8 e hTn)]; exact e) (λ b ps e=>⟨#[],by rw [d0 (i8 e hTn),e]; simp⟩)
  (λ m hm=>?_) (λ b u e=>?_) I.bare
 ·obtain ⟨o,es,ep,e1,r⟩:=hm
  exact ⟨o,es,ep,k _ o (λ z=>(hf _ z).2.1 rfl) e1,r⟩
 ·by_cases hb:b=T
  ·subst hb; rw [upd_same] at e; cases e
   exact ⟨hz,its,hv,ht⟩
  ·rw [d0 hb] at e
   have nit:∀ c u,H c=some u->c ∉ fp:=λ c u q z=>by rw [(hf c z).1] at q; cases q
   refine (I.hok b u e).stay (λ c v hc q=>k c v ?_ q) (λ c q=>by rw [d0 (i8 q hTn)]; exact q) λ c ys q=>by rw [d0 (i8 q hTn)]; exact q
   rcases hc with z | z
   ·rw [z]; exact nit b u e
   ·exact nit c _ z
theorem Inv.turnedAll {X:Cx} {pins:List (Addr×Obj)} {σ:St} {H:Hp} {s:Shared} {h':Heap} {fp:List Addr} (I:Inv X pins σ H s) (hf:∀ b∈fp,Q7 X pins H b)
  (k:∀ b o,b ∉ fp->s.heap.get? b=some o->h'.get? b=some o):Inv X pins σ H { s with heap:=h' }:=by
 refine I.step (g':=s.gens) (t':=s.toks) (d':=s.drawn) (ch:=fp) (λ b hb=>⟨(hf b hb).2.2.2.1,(hf b hb).2.1,(hf b hb).2.2.2.2.1,(hf b hb).2.2.2.2.2⟩) (λ b o _ _ hc e _=>k b o hc e) (λ b o _ _ hc e _=>⟨o.slots,k b o hc e⟩)
  (λ b o hc e n=>n) (λ b o hc e=>⟨o,k b o hc e⟩) (λ b ys e=>e) (λ b o u e=>e) (λ b ps e=>⟨#[],by rw [e]; simp⟩)
  (λ m hm=>?_) (λ b u e=>?_) I.bare
 ·obtain ⟨o,es,ep,e1,r⟩:=hm
  exact ⟨o,es,ep,k _ o (λ z=>(hf _ z).2.1 rfl) e1,r⟩
 ·have nit:∀ c u,H c=some u->c ∉ fp:=λ c u q z=>by rw [(hf c z).1] at q; cases q
  refine (I.hok b u e).stay (λ c v hc q=>k c v ?_ q) (λ c q=>q) λ c ys q=>q;rcases hc with z | z
  ·rw [z]; exact nit b u e
  ·exact nit c _ z
theorem b3p (n l1 l2:Nat) (h1:l1<n) (h2:l2<n):ZipApart (n+4) (n+2) (n+3) n (n+1) l1 l2 where
 TIz:=(by omega:(n+2:Nat)≠n+4)
 TOz:=(by omega:(n+3:Nat)≠n+4)
 i1z:=(by omega:(n:Nat)≠n+4)
 i2z:=(by omega:(n+1:Nat)≠n+4)
 TITO:=(by omega:(n+2:Nat)≠n+3)
 TIi1:=(by omega:(n+2:Nat)≠n)
 TIi2:=(by omega:(n+2:Nat)≠n+1)
 TOi1:=(by omega:(n+3:Nat)≠n)
 TOi2:=(by omega:(n+3:Nat)≠n+1)
 i12:=(by omega:(n:Nat)≠n+1)
 l1z:=(by omega:(l1:Nat)≠n+4)
 l1TO:=(by omega:(l1:Nat)≠n+3)
 l1i1:=(by omega:(l1:Nat)≠n)
 l1i2:=(by omega:(l1:Nat)≠n+1)
 l2z:=(by omega:(l2:Nat)≠n+4)
 l2TO:=(by omega:(l2:Nat)≠n+3)
 l2i1:=(by omega:(l2:Nat)≠n)
 l2i2:=(by omega:(l2:Nat)≠n+1)
section
variable {X:Cx}
def b4Y (i j:Int):Prop:=0<j/\j<2 ^ 8000
theorem log2_lt {y:Nat} (h:y<2 ^ 8000):y.log2<9000:=by
 by_cases h0:y=0
 ·subst h0; decide
 ·exact aZ ((jB h0).mpr h) (by decide)
theorem T5:X7 X (binaryOp .FloorDiv) (rI b4Y λ i j=>.int (i / j)):=opI λ i j _ _ _ _ _ hc q=>by
 have h0:j≠0:=by have:=hc.1; omega
 have e:i.fdiv j=i / j:=jX i (aN hc.1);refine floordiv_int h0 (by rw [e]; exact q) (.inl (PyProof.noPylong_of_log2 (log2_lt ?_)));have:=hc.1;have:=hc.2;omega
def Big (n:Nat) (i:Int):Prop:=i.natAbs<2 ^ n
def b4K (i j:Int):Prop:=Big 1000000 i/\Big 1000000 j
theorem a6R {i:Int} (h:Big 1000000 i):Builtin.Int.intBits i<=2 ^ 20:=by
 unfold Builtin.Int.intBits
 split
 ·exact bW _
 ·rename_i h0
  have h0':i.natAbs≠0:=by
   intro z;exact h0 (by rw [Int.natAbs_eq_zero.mp z]; rfl)
  have:=(jB h0').mpr h;omega
theorem N1:X7 X (binaryOp .Mult) (rI b4K λ i j=>.int (i*j)):=opI λ _ _ _ _ _ _ _ hc q=>mul_int q (IntMulOk.of_bits (a6R hc.1) (a6R hc.2))
end
theorem Same.write {H H':Hp} {p:Addr} {o:HO} (e:Same H H') (hp:H p=none):Same H (upd H' p o):=λ b u q=>by rw [d0 (i8 q hp)]; exact e b u q
section
variable {xs:List V} {J:It} {fr:List Nat} {tc:TT} {σ:St} {H1:Hp} {p:Addr} {D:Hp->Prop}
theorem a0O (hJ:a5t J H1 xs) (hp:H1 p=none) (hz:xs.length<sizeLine) (q:Nat->Bool)
  (step:∀ (i:Nat) x H ys (N:Bool->Hp->Prop),xs[i]?=some x->Same H1 H->H p=some (.lst ys)->(∀ H3,Same H H3->N (q i) H3)->tc ((blkσ 1 fr σ).set 0 (some x)) H N)
  (hd:∀ ys H,Same H1 H->H p=some (.lst ys)->((∀ i,i<xs.length->q i=false)->ys=[])->((∃ i,i<xs.length/\q i=true)->ys≠[])->(∀ y∈ys,y∈xs)->D H):lcI 1 fr (K5 0) tc (a8e 0) σ J H1 p D:=by
 refine ⟨λ i m ys H=>m=xs.length - i/\i<=xs.length/\Same H1 H/\H p=some (.lst ys)/\ys.length<=i/\((∀ j,j<i->q j=false)->ys=[])/\((∃ j,j<i/\q j=true)->ys≠[])/\∀ y∈ys,y∈xs,
  ⟨xs.length,by simp,bW _,Same.new hp _,upd_same,aF _,λ _=>rfl,λ ⟨j,hj,_⟩=>absurd hj (gW _),λ y hy=>by cases hy⟩,?_⟩
 rintro i m ys H ⟨rfl,hi,e,hH,hl,h0,h1,hm⟩
 by_cases hlt:i<xs.length
 ·refine .inr ⟨hJ.go i _ e hlt,λ x H' y=>?_⟩
  obtain ⟨rfl,hx⟩:=hJ.yld i _ x H' e hlt y;refine ⟨Wk.set (by decide),?_⟩;refine step i x _ ys _ hx e hH λ H3 s3=>?_
  cases hq:q i with
  | false =>
   rw [if_neg bK];refine ⟨xs.length - (i+1),by omega,rfl,hlt,e.trans s3,s3 _ _ hH,by omega,λ z=>h0 λ j hj=>z j (by omega),λ ⟨j,hj,z⟩=>h1 ⟨j,?_,z⟩,hm⟩
   by_cases hji:j=i
   ·subst hji; rw [hq] at z; cases z
   ·omega
  | true =>
   rw [if_pos rfl];refine ⟨x,?_,s3 _ _ hH,by omega,xs.length - (i+1),by omega,rfl,hlt,(e.trans s3).write hp,upd_same,by rw [aJ,cY]; omega,λ z=>?_,λ _ z=>?_,λ y hy=>?_⟩
   ·show ((blkσ 1 fr σ).set 0 (some x))[0]?=some (some x)
    rw [cO (by simp [blkσ])]
   ·have:=z i (by omega); rw [hq] at this; cases this
   ·simp at z
   ·rcases aT.mp hy with z | z
    ·exact hm y z
    ·rw [bH.mp z]; exact aU hx
 ·have:i=xs.length:=by omega
  subst this;exact .inl ⟨hJ.stop _ e,hd ys H e hH h0 h1 hm⟩
end
end L2
namespace L2
open PySem PySem.W
section
variable {prog:Program} {w:World} {A:Around} {E:Value->Shared->Prop} {s:Shared} {K:Frag} {x C D:Addr} {ox:Obj}
end
structure a4t (K:Frag) (D:Addr):Prop where
 ob:∃ nm q N bs bm hdct sn sub ab col dd k0 k1 k2 k3 k5,K.lookup D=some (excClassObj nm q D N bs bm hdct sn sub ab col dd k0 k1 k2 k3 k5 "ValueError.__new__")/\nsOkIn K N=true/\nsIn K N "__init__"=some none ∧
  tailIn K [.type "ValueError",.type "Exception",.type "BaseException",.type "object"] bm=true
 ga:findIn K (.ref D) "__getattribute__"=some (some (.builtin "BaseException.__getattribute__"))
 gn:findIn K (.ref D) "__getattr__"=some none
 ca:findIn K (.ref D) "__class__"=some (some (.builtin "object.__class__"))
 mo:mroIn K D (.type "object")=some true
 mb:mroIn K D (.type "BaseException")=some true
end L2
namespace L2
open PySem PySem.Spec PyProof.Rows
theorem ObjOk.got {P:Program} {w:World} {H:Hp} {h:Heap} {a:Addr} {o:HO} (x:ObjOk P w H h a o):∃ ob,h.get? a=some ob:=by
 cases o with
 | lst xs=>obtain ⟨_,_,_,_,e⟩:=x; exact ⟨_,e⟩
 | tup xs=>obtain ⟨_,_,_,ob,e,_⟩:=x; exact ⟨ob,e⟩
 | dK kvs=>obtain ⟨_,_,_,_,ob,_,_,e,_⟩:=x; exact ⟨ob,e⟩
 | dT kvs=>obtain ⟨_,_,_,_,ob,_,_,e,_⟩:=x; exact ⟨ob,e⟩
 | set S n=>obtain ⟨ob,_,_,_,e,_⟩:=x; exact ⟨ob,e⟩
 | ins C dx fs=>obtain ⟨_,_,_,e,_⟩:=x; exact ⟨_,e⟩
 | own y=>exact x
 | xd fs=>obtain ⟨_,⟨ob,_,_,e,_⟩,_⟩:=x; exact ⟨ob,e⟩
 | rng lo hi=>obtain ⟨_,_,_,e⟩:=x; exact ⟨_,e⟩
 | frz ob u=>obtain ⟨e,_⟩:=x; exact ⟨_,e⟩
 | tbl ps=>exact ⟨_,(show h.get? a=some _ from x)⟩
 | met f y=>exact ⟨_,(show h.get? a=some _ from x)⟩
 | ext φ=>obtain ⟨_,e,_⟩:=x; exact e
theorem Un.slots {fs ex:List Addr} {H0 H':Hp} {h0 h1 h2:Heap} (u:Un fs ex H0 H' h0 h1) (hb:∀ b o,h1.get? b=some o->(∃ o0,h0.get? b=some o0)->b ∉ fs->h2.get? b=some o)
  (hf:∀ b∈fs,∀ o,h1.get? b=some o->∃ sl,h2.get? b=some { o with slots:=sl }):Un fs ex H0 H' h0 h2 where
 keep:=λ b o q n hfs hx=>hb b o (u.keep b o q n hfs hx) ⟨o,q⟩ hfs
 slot:=λ b o q n hfs hx=>by
  obtain ⟨sl,e⟩:=u.slot b o q n hfs hx;obtain ⟨sl',e'⟩:=hf b hfs _ e;exact ⟨sl',e'⟩
 free:=u.free
 there:=λ b o q hx=>by
  obtain ⟨o',e⟩:=u.there b o q hx
  by_cases hm:b∈fs
  ·obtain ⟨sl,e'⟩:=hf b hm _ e; exact ⟨_,e'⟩
  ·exact ⟨_,hb b o' e ⟨o,q⟩ hm⟩
 tups:=u.tups
 frzs:=u.frzs
 tbls:=u.tbls
theorem HOk.slots {P:Program} {w:World} {H:Hp} {h h':Heap} (x:HOk P w H h) (k:∀ b u o,H b=some u->h.get? b=some o->h'.get? b=some o):HOk P w H h':=λ a o e =>
 (x a o e).stay (λ b u hb q=>by
  rcases hb with rfl | hb
  ·exact k b o u e q
  ·exact k b _ u hb q) (λ _ q=>q) λ _ _ q=>q
structure Fly (P:Program) (w:World) (l:List Env) (H:Hp) (s:Shared) (ea t D:Addr) (B:Heap) (H':Hp) (s':Shared):Prop where
 os:s'.os=s.os
 bare:AllBare s'.gens
 un:Un (frs l) [] H H' s.heap s'.heap
 hok:HOk P w H' s'.heap
 fly:Heap.FlyingW B l ea (.ref D) (.ref t) s'.heap
 inb:∀ b o,s'.heap.get? b=some o->((∃ o0,s.heap.get? b=some o0)/\b ∉ frs l)\/H' b≠none->B.get? b=some o
def CX1 (P:Program) (w:World):CXT:=λ l H s E e s'=>∃ (ea t D:Addr) (B:Heap) (H':Hp),e=.ref ea/\Fly P w l H s ea t D B H' s'/\E (.ref D) none H'
section
variable {P:Program} {w:World} {l:List Env} {H:Hp} {s s':Shared} {ea t D:Addr} {B h':Heap} {H':Hp}
theorem Fly.inv {X:Cx} {pins:List (Addr×Obj)} {σ:St} (I:Inv X pins σ H s) (F:Fly X.prog X.w X.stack H s ea t D B H' s'):Inv X pins σ H' s' :=
 I.call' F.os F.un F.hok F.bare (λ b z=>absurd z (by simp))
end
section
variable {P:Program} {w:World} {K:W.Frag} {mg:Str->Option Value} {base:Heap} {N:List Str} {qual:Str} {scope:Scope} {f:Addr} {cd:Value} {A:Around} {outer:List Env} {s₀:Shared} {H₀:Hp} {E:XK}
theorem V1 {b:Addr} {o:Obj} {X:Cx} {pins:List (Addr×Obj)} {σ:St} {H:Hp} {s:Shared} (I:Inv X pins σ H s) (e:X.s₀.heap.get? b=some o) (hb:b ∉ frs X.outer):b ∉ frs X.stack:=λ z=>by
 rcases aL.mp (I.stkSub b z) with q | q
 ·have:=aZ (Heap.lt_size e) I.ok.above
  rw [q] at this;exact bR _ this
 ·exact hb q
theorem b1X:M6 (CX1 P w) (J6 (CX1 P w) P w K mg base N qual scope f cd A outer s₀ H₀ E) E:=by
 intro pins σ H s e s' I h;obtain ⟨ea,t,D,B,H',rfl,F,hE⟩:=h;have I':=F.inv I;refine wpAny_leaves_onW I.ok.frames rfl F.fly λ h' fl up=>?_;have st:∀ b o,B.get? b=some o->h'.get? b=some o:=fl.1;have bin:∀ b o,s'.heap.get? b=some o->(∃ o0,s₀.heap.get? b=some o0)->b ∉ frs outer->B.get? b=some o:=λ b o q ⟨o0,z⟩ hn=>by
  obtain ⟨o1,q1⟩:=I.base.there b o0 z (by show b ∉ ([]:List Addr); simp);exact F.inb b o q (.inl ⟨⟨o1,q1⟩,V1 I z hn⟩)
 refine ⟨ea,t,D,B,H',rfl,⟨I'.os,F.bare,I'.base.slots (λ b o q z hn=>st b o (bin b o q z hn)) (λ b hb o q=>?_),F.hok.slots (λ b u o e q=>st b o (F.inb b o q (.inr (by rw [e]; simp)))),fl,λ b o q z=>?_⟩,hE⟩
 ·obtain ⟨_,o',ho',hd⟩:=F.fly.2.2.1.2.2.mem hb
  rw [q] at ho'; cases ho';exact up b o q hd
 ·have:∃ o1,s'.heap.get? b=some o1/\B.get? b=some o1:=by
   rcases z with ⟨⟨o0,z⟩,hn⟩ | z
   ·obtain ⟨o1,q1⟩:=I'.base.there b o0 z (by show b ∉ ([]:List Addr); simp)
    exact ⟨o1,q1,bin b o1 q1 ⟨o0,z⟩ hn⟩
   ·cases e:H' b with
    | none=>exact absurd e z
    | some u =>
     obtain ⟨o1,q1⟩:=(F.hok b u e).got;exact ⟨o1,q1,F.inb b o1 q1 (.inr z)⟩
  obtain ⟨o1,_,b1⟩:=this;have:=st b o1 b1;rw [show h'.get? b=some o from q] at this
  cases this;exact b1
theorem b4b {pins:List (Addr×Obj)} {σ:St} {H:Hp} {s:Shared} {h1:Heap} {ea D:Addr} {vs:List Value} (I:Inv (J6 (CX1 P w) P w K mg base N qual scope f cd A outer s₀ H₀ E) pins σ H s) (hx:Heap.MadeExcOf s.heap h1 ea (.ref D) vs)
  (hE:E (.ref D) none H):(J6 (CX1 P w) P w K mg base N qual scope f cd A outer s₀ H₀ E).xe (.ref ea) { s with heap:=h1 }:=by
 have hin:∀ env∈(envOfC qual scope s₀.heap.objs.size f cd::outer),∀ b,env.frame=some b->b∈frs (envOfC qual scope s₀.heap.objs.size f cd::outer):=λ env he b hb=>eP.mpr ⟨env,he,hb⟩;refine wpAny_leaves_madeW (base:=W.hideAll s.heap (frs (envOfC qual scope s₀.heap.objs.size f cd::outer))) (h:=s.heap) I.ok.frames rfl (λ b o q=>W.of_hideAll _ q) (W.funFrames_hide I.stack hin) hx λ h' t fl _ _ up=>?_;have st:∀ b o,s.heap.get? b=some o->b ∉ frs (envOfC qual scope s₀.heap.objs.size f cd::outer)->h'.get? b=some o:=λ b o q hn=>fl.1 b o (W.hideAll_get _ q hn);have trn:∀ b u,H b=some u->b ∉ frs (envOfC qual scope s₀.heap.objs.size f cd::outer):=λ b u e z=>by
  have:=I.stkFree b z;rw [e] at this; cases this
 refine ⟨ea,t,D,_,H,rfl,⟨I.os,I.bare,I.base.slots (λ b o q ⟨o0,z⟩ hn=>st b o q (V1 I z hn)) (λ b hb o q=>?_),I.hok.slots (λ b u o e q=>st b o q (trn b u e)),fl,λ b o q z=>?_⟩,hE⟩
 ·obtain ⟨_,o',ho',hd⟩:=I.funs.mem hb
  rw [q] at ho'; cases ho';exact up b o (hx.keeps b o q) hd
 ·have:∃ o1,s.heap.get? b=some o1/\b ∉ frs (envOfC qual scope s₀.heap.objs.size f cd::outer):=by
   rcases z with ⟨⟨o0,z⟩,hn⟩ | z
   ·obtain ⟨o1,q1⟩:=I.base.there b o0 z (by show b ∉ ([]:List Addr); simp)
    exact ⟨o1,q1,V1 I z hn⟩
   ·cases e:H b with
    | none=>exact absurd e z
    | some u =>
     obtain ⟨o1,q1⟩:=(I.hok b u e).got;exact ⟨o1,q1,trn b u e⟩
  obtain ⟨o1,q1,hn⟩:=this;have:=st b o1 q1 hn;rw [show h'.get? b=some o from q] at this
  cases this;exact W.hideAll_get _ q1 hn
end
section
variable {X:Cx} {e:Expr} {te:TE} {a:Str} {j:Nat} {p1 p2 p3:Pos}
def tFs (te:TE):TE:=λ σ H Q=>te σ H λ v H1=>∃ i:Int,v=.int i/\i.natAbs.log2<1920/\∀ x,Q (.str x) H1
theorem b1d (he:PE X e te) (ha:a.length<=1000):PE X (.JoinedStr [.Constant (.str a) j p1,.FormattedValue e (-1) none p2] p3) (tFs te):=by
 intro pins s σ H Q I h;refine JoinedStr_many (joinParts_cons ?_);refine B6 (R9 pins s σ H (λ v H'=>v=.str a/\H'=H) I ⟨rfl,rfl⟩) λ u s1 ⟨v,H1,I1,r,hv,hH⟩=>?_;subst hv; subst hH;obtain ⟨tk,rfl⟩:=r;have e0:(Str.empty++a).length=a.length:=by rw [strLen_append]; show 0+a.length=a.length; omega
 refine ⟨by rw [e0]; exact bA ha (by decide),joinParts_cons (FormattedValue_plain ?_)⟩;refine B6 (he pins s1 σ H1 _ I1 h) λ u s2 ⟨v,H2,I2,r,i,hv,hi,q⟩=>?_;subst hv;obtain ⟨tk2,rfl⟩:=r;refine formatField_int_small hi ?_;have hl:(Str.empty++a++Str.ofString (toString i)).length<=sizeLine:=by
  rw [strLen_append,e0];have h1:=int_text_length_le (a:=i) (k:=1920) (by decide) hi;rw [PySem.ofString_length,sizeLine_eq];omega
 refine ⟨hl,joinParts_nil ?_ hl⟩;exact ⟨.str _,H2,(I2.tok _).tok _,⟨_,rfl⟩,q _⟩
end
section
variable {P:Program} {w:World} {K:W.Frag} {mg:Str->Option Value} {base:Heap} {N:List Str} {qual:Str} {scope:Scope} {f:Addr} {cd:Value} {A:Around} {outer:List Env} {s₀:Shared} {H₀:Hp} {E:XK}
 {x:Str} {D:Addr} {e:Expr} {t:TA} {np cpos pos:Pos}
def a9T (t:TA) (D:Addr) (E:XK):TS:=λ _ σ H=>t σ H λ vs H1=>vs.length<=1000/\E (.ref D) none H1
theorem a4q (k:a4t K D) (hg:Gl (J6 (CX1 P w) P w K mg base N qual scope f cd A outer s₀ H₀ E) x) (hm:mg x=some (.ref D)) (hh:A.handled=none)
  (ha:PA (J6 (CX1 P w) P w K mg base N qual scope f cd A outer s₀ H₀ E) [e] t)
  (he:starEach [e] (envOfC qual scope s₀.heap.objs.size f cd)=[(false,eval e (envOfC qual scope s₀.heap.objs.size f cd))]:=by rfl) (hdb:(x==("__debug__":Str))=false:=by decide) :
  PS (J6 (CX1 P w) P w K mg base N qual scope f cd A outer s₀ H₀ E) (.Raise (some (.Call (.Name x np) [e] [] cpos)) none pos) (a9T t D E):=by
 intro pins s σ H Dn I h;obtain ⟨nm,q,Na,bs,bm,hdct,sn,sub,ab,col,dd,k0,k1,k2,k3,k5,lk,ok,ni,tl⟩:=k.ob;have tb:∀ h:Heap,K.In h->OwnTail h [.type "ValueError",.type "Exception",.type "BaseException",.type "object"] bm:=λ h X=>W.tail_of_in X tl;have nsf:∀ h:Heap,K.In h->h.Ns Na (h.nsMap Na)/\h.nsMap Na "__init__"=none:=λ h X=>⟨.of_isNs (W.isNs_of_in X ok),W.nsMap_none_of_in X ok ni⟩;have hN0:=(nsf s.heap I.kIn).1;refine wpAny_Raise_call_subT (C:=D) (nm:=nm) (q:=q) (N:=Na) (bs:=bs) (bm:=bm) (hdct:=hdct) (sn:=sn) (sub:=sub) (ab:=ab) (col:=col) (dd:=dd) (k0:=k0) (k1:=k1) (k2:=k2) (k3:=k3) (k5:=k5) (newId:="ValueError.__new__")
  F.excBase_ValueError (mN:=base.nsMap Na) ((tb base I.mod.kin).hasType (by decide +kernel)) (by show (A.deeper _).handled=none; exact hh) (by rw [show starEach [e] (J6 (CX1 P w) P w K mg base N qual scope f cd A outer s₀ H₀ E).env=_ from he]; rfl)
  (nsf base I.mod.kin).2 (a1D I hg hm ⟨rfl,?_⟩ hdb)
 have h2:=ha cpos pins s σ H _ I h;rw [show starEach [e] (J6 (CX1 P w) P w K mg base N qual scope f cd A outer s₀ H₀ E).env=_ from he] at h2 ⊢;refine Calls.evalArgs_plain (wpAny_mono h2 (λ us s2 ⟨vs,H2,I2,r,hl,hE⟩=>⟨rfl,by rw [<- r.length]; exact cP (j4 hl),I2.kIn _ _ lk,(nsf base I.mod.kin).1.keeps I2.bk,tb _ I2.kIn,λ h' ea hx=>b4b I2 hx hE⟩) λ _ _ z=>z)
end
section
variable {X:Cx} {CX:CXT} {k:Nat} {f:Addr} {fd:FuncData} {ps:List Str} {sp:Sp} {EX:St->XK} {x:Str} {p pos:Pos} {e:Expr} {es:List Expr} {t:TA}
end
section
variable {X:Cx} {pins:List (Addr×Obj)} {σ:St} {H:Hp} {s:Shared} {ea:Addr}
end
section
variable {X:Cx} {x n:Str} {R:Addr} {i:Nat} {tb:(St->XK)->TS} {ts:TS} {body suite:List Stmt} {b₀:Stmt} {np hpos pos:Pos}
end
structure b4i (k:Nat) (A:Around):Prop where
 dp:A.depth+3*k+5<recursionLimit
 un:A.units+16*k+200<cLine
structure FnU (P:Program) (w:World) (K:W.Frag) (mg:Str->Option Value) (base:Heap) (k:Nat) (f:Addr) (fd:FuncData) (ps:List Str) (sp:Sp):Prop where
 len:∀ vs H Q E,sp vs H Q E->vs.length=ps.length
 run:∀ (A:Around) (outer:List Env) (s:Shared) (H:Hp) (args:Args) (us:List Value) (vs:List V) (Q:VK) (E:XK),b4i k A->Env0 P w K mg base A outer s H->BindsTo s fd args (ps.zip us)->Vals vs us->sp vs H Q E →
  codeAny (model P w) A (.call (.ref f) args) (CR J7 outer P w H s Q E) s
section
variable {P:Program} {w:World} {K:W.Frag} {mg:Str->Option Value} {base:Heap}
theorem Fun.ok1 {x qual:Str} {st:Stmt} {f:Addr} {fd:FuncData} {N ps:List Str} {k:Nat} {sp:Sp} (F:Fun K x qual st f fd) (S:r8 N ps (i9 st)) (len:∀ vs H Q E,sp vs H Q E->vs.length=ps.length)
  (hbody:∀ (cdv:Value) (A:Around) (outer:List Env) (s:Shared) (H:Hp) (vs:List V) (Q:VK) (E:XK),Room k (A.deeper (envOfC qual (i9 st) s.heap.objs.size f cdv))->sp vs H Q E →
   ∃ t,PSs (J6 (CX1 P w) P w K mg base N qual (i9 st) f cdv A outer s H E) (v4 st) t/\t { nx:=λ _ H'=>Q .non H',rt:=Q } (T0 N vs) H):FnOk P w K mg base (CX1 P w) (k+1) f fd ps sp:=by
 obtain ⟨oc,od,kV,doc,pm,an,cdv,ct,osl,rfl,lk,hcd⟩:=F.ex;exact a8E lk hcd S len λ A outer s H vs Q E hr hsp=>hbody cdv A outer s H vs Q E hr hsp
end
section
variable {X:Cx} {k:Nat} {f:Addr} {fd:FuncData} {ps:List Str} {sp:Sp} {x:Str} {p pos:Pos} {e:Expr} {es:List Expr} {t:TA}
end
section
variable {prog:Program} {w:World} {A:Around} {E:Value->Shared->Prop} {s:Shared}
theorem b1f {j tp:Addr} {i:Nat} {vs:Array Value} {x:Value} {Q:Value->Shared->Prop} (q1:IsTupIter s.heap j tp i) (q2:IsTup s.heap tp vs) (q3:vs[i]?=some x)
  (q:∀ h',IsTupIter h' j tp (i+1)->Heap.SameBut j s.heap h'->Q x { s with heap:=h' }):wpAny (model prog w) A (Builtin.SmallTypes.nextOf (.ref j)) Q E s:=by
 obtain ⟨oj,g1,g2,g3⟩:=id q1;obtain ⟨ot,g4,_,nt,g5⟩:=q2;unfold Builtin.SmallTypes.nextOf;refine wpAny_bind (wpAny_callSpecial?_slot (name:=Str.ofString "__next__") q1.typeIs slot_tupleiter_next (wpAny_call_entry slot_tupleiter_next q1.typeIs entry_tupleiter_next ?_ (args_tupleiter_next _)))
 show wpAny _ _ (field (.ref j) 0 >>= _) _ _ s
 refine wpAny_bind (wpAny_field g1 g3 (x:=.ref tp) rfl ?_)
 show wpAny _ _ (if (Value.ref tp==Value.none)=true then _ else _) _ _ s
 rw [if_neg (λ z=>by cases z)]
 show wpAny _ _ (field (.ref j) 1 >>= _) _ _ s
 refine wpAny_bind (wpAny_field g1 g3 (x:=.int i 0) rfl ?_)
 show wpAny _ _ (seqItems? (.ref tp) >>= _) _ _ s
 refine wpAny_bind (wpAny_seqItems g4 g5 ?_);simp only [aV,q3];refine wpAny_bind (wpAny_setField g1 g3 (by simp) (wpAny_pure ⟨x,rfl,wpAny_pure (q _ ?_ (Heap.SameBut.update ..))⟩));refine ⟨_,Heap.get?_update_self _ g1 (Obj.isFreed_of_fields (Obj.data_mapFields g3 _)),(Obj.cls_mapFields ..).trans g2,?_⟩;rw [Obj.data_mapFields g3];simp [rawInt]
theorem b2L {j tp:Addr} {i:Nat} {vs:Array Value} {Q:Value->Shared->Prop} (hh:A.handled=none) (q1:IsTupIter s.heap j tp i) (q2:IsTup s.heap tp vs) (q3:vs[i]?=none)
  (q:∀ h' e,Heap.ExtBut j s.heap h'->(∃ o,h'.get? e=some o/\o.cls=.type "StopIteration")->E (.ref e) { s with heap:=h' }):wpAny (model prog w) A (Builtin.SmallTypes.nextOf (.ref j)) Q E s:=by
 obtain ⟨oj,g1,g2,g3⟩:=id q1;obtain ⟨ot,g4,_,nt,g5⟩:=q2;unfold Builtin.SmallTypes.nextOf;refine wpAny_bind (wpAny_callSpecial?_slot (name:=Str.ofString "__next__") q1.typeIs slot_tupleiter_next (wpAny_call_entry slot_tupleiter_next q1.typeIs entry_tupleiter_next ?_ (args_tupleiter_next _)))
 show wpAny _ _ (field (.ref j) 0 >>= _) _ _ s
 refine wpAny_bind (wpAny_field g1 g3 (x:=.ref tp) rfl ?_)
 show wpAny _ _ (if (Value.ref tp==Value.none)=true then _ else _) _ _ s
 rw [if_neg (λ z=>by cases z)]
 show wpAny _ _ (field (.ref j) 1 >>= _) _ _ s
 refine wpAny_bind (wpAny_field g1 g3 (x:=.int i 0) rfl ?_)
 show wpAny _ _ (seqItems? (.ref tp) >>= _) _ _ s
 refine wpAny_bind (wpAny_seqItems g4 g5 ?_);simp only [aV,q3];refine wpAny_bind (wpAny_rule (wpAny_bind (wpAny_setField g1 g3 (by simp) ?_)))
 show wpAny _ _ (do let e <- newExc (.type "StopIteration") []; _) _ _ _
 simp only [newExc,newTuple];refine wpAny_bind (wpAny_bind (wpAny_newObj_type (wpAny_bind (m:=firstArgMember _ _) (wpAny_of_eq (a:=Value.none) (by first | rfl | (simp only [firstArgMember]; rfl)) (wpAny_newObj_type ?_ (by size_fits)))) (by size_fits)));simp only [raiseNew];refine wpAny_bind (wpAny_handled ?_);rw [show A.in1.handled=none from hh];exact wpAny_bind (wpAny_pure (wpAny_throw (q _ _ (((Heap.SameBut.update ..).extBut.push _).push _) ⟨_,Heap.get?_push_size _ rfl,rfl⟩)))
theorem IsTupIter.at' {h h':Heap} {a t:Addr} {i:Nat} (x:IsTupIter h a t i) (e:∀ o,h.get? a=some o->h'.get? a=some o):IsTupIter h' a t i:=let ⟨o,ho,r⟩:=x; ⟨o,e _ ho,r⟩
end
def IsB:Bool->Heap->Addr->Array Value->Prop
 | true,h,t,xs=>h.IsList t xs
 | false,h,t,xs=>IsTup h t xs
def ItB:Bool->Heap->Addr->Addr->Nat->Prop
 | true,h,j,t,k=>h.IsListIter j t k
 | false,h,j,t,k=>IsTupIter h j t k
def SqB:Bool->W.Frag->Hp->Addr->List V->Prop
 | true,K,H,a,xs=>SqL K H a xs
 | false,K,H,a,xs=>SqT K H a xs
def itN:Bool->String
 | true=>"list_iterator"
 | false=>"tuple_iterator"
section
variable {b:Bool} {h h':Heap} {j t c:Addr} {k:Nat} {xs:Array Value}
theorem ItB.at' (x:ItB b h j t k) (e:∀ o,h.get? j=some o->h'.get? j=some o):ItB b h' j t k:=by
 cases b
 ·exact IsTupIter.at' x e
 ·exact Heap.IsListIter.at x e
theorem ItB.extBut (x:ItB b h j t k) (hs:Heap.ExtBut c h h') (n:j≠c):ItB b h' j t k:=x.at' λ o e=>hs j o n e
theorem IsB.at' (x:IsB b h t xs) (e:∀ o,h.get? t=some o->h'.get? t=some o):IsB b h' t xs:=by
 cases b
 ·obtain ⟨o,ho,r⟩:=x; exact ⟨o,e o ho,r⟩
 ·obtain ⟨o,ho,r⟩:=x; exact ⟨o,e o ho,r⟩
theorem IsB.extBut (x:IsB b h t xs) (hs:Heap.ExtBut c h h') (n:t≠c):IsB b h' t xs:=x.at' λ o e=>hs t o n e
theorem IsB.push (x:IsB b h t xs) (o:Obj):IsB b (h.push o) t xs:=x.at' λ _ e=>Heap.get?_push_of_some _ e
theorem IsB.lt (x:IsB b h t xs):t<h.objs.size:=by
 cases b
 ·obtain ⟨o,ho,_⟩:=x; exact Heap.lt_size ho
 ·obtain ⟨o,ho,_⟩:=x; exact Heap.lt_size ho
theorem ItB.mk (e:h.get? j=some { cls:=.type (itN b),data:=.fields #[.ref t,.int 0 0] }):ItB b h j t 0:=by
 cases b
 ·exact ⟨_,e,rfl,rfl⟩
 ·exact ⟨_,e,rfl,rfl⟩
theorem ItB.obj (x:ItB b h j t k):∃ o,h.get? j=some o/\∃ vs,o.data=.fields vs:=by
 cases b
 ·obtain ⟨o,ho,_,d⟩:=x; exact ⟨o,ho,_,d⟩
 ·obtain ⟨o,ho,_,d⟩:=x; exact ⟨o,ho,_,d⟩
theorem Same.sqB {K:W.Frag} {H H':Hp} {a:Addr} {ys:List V} (e:Same H H') (x:SqB b K H a ys):SqB b K H' a ys:=by
 cases b
 ·exact e.tseq x
 ·exact e.seq x
theorem Inv.sqB {X:Cx} {pins:List (Addr×Obj)} {σ:St} {H:Hp} {s:Shared} {a:Addr} {ys:List V} (I:Inv X pins σ H s) (x:SqB b X.K H a ys):∃ its:List Value,Vals ys its/\IsB b s.heap a its.toArray/\ys.length<=sizeLine:=by
 cases b
 ·exact I.tuple x
 ·obtain ⟨i,r,p,z⟩:=I.list x
  exact ⟨i,r,p.isList,z⟩
theorem Inv.sqB_inj {X:Cx} {pins:List (Addr×Obj)} {σ:St} {H:Hp} {s:Shared} {a:Addr} {ys zs:List V} (I:Inv X pins σ H s) (x:SqB b X.K H a ys) (y:SqB b X.K H a zs):ys=zs:=by
 cases b
 ·exact I.tuple_inj x y
 ·exact I.list_inj x y
end
section
variable {prog:Program} {w:World} {A:Around} {E:Value->Shared->Prop} {s:Shared}
theorem Z7 {b:Bool} {j tp:Addr} {i:Nat} {vs:Array Value} {x:Value} {Q:Value->Shared->Prop} (q1:ItB b s.heap j tp i) (q2:IsB b s.heap tp vs) (q3:vs[i]?=some x)
  (q:∀ h',ItB b h' j tp (i+1)->Heap.SameBut j s.heap h'->Q x { s with heap:=h' }):wpAny (model prog w) A (Builtin.SmallTypes.nextOf (.ref j)) Q E s:=by
 cases b
 ·exact b1f q1 q2 q3 q
 ·exact wpAny_nextOf_list_item q1 q2 q3 q
theorem a1C {b:Bool} {j tp:Addr} {i:Nat} {vs:Array Value} {Q:Value->Shared->Prop} (hh:A.handled=none) (q1:ItB b s.heap j tp i) (q2:IsB b s.heap tp vs) (q3:vs[i]?=none)
  (q:∀ h' e,Heap.ExtBut j s.heap h'->(∃ o,h'.get? e=some o/\o.cls=.type "StopIteration")->E (.ref e) { s with heap:=h' }):wpAny (model prog w) A (Builtin.SmallTypes.nextOf (.ref j)) Q E s:=by
 cases b
 ·exact b2L hh q1 q2 q3 q
 ·exact wpAny_nextOf_list_end hh q1 q2 q3 q
theorem a4p {b:Bool} {t:Addr} {xs:Array Value} {Q:Value->Shared->Prop} (m:IsB b s.heap t xs) (h:Q (.ref s.heap.objs.size) { s with heap:=s.heap.push { cls:=.type (itN b),data:=.fields #[.ref t,.int 0 0] } }):wpAny (model prog w) A (pyIter (.ref t)) Q E s:=by
 cases b
 ·exact iter_tuple m h
 ·exact wpAny_pyIter_list m h
theorem b0F {b1 b2:Bool} {z ti to j1 j2 t1 t2:Addr} {k1 k2:Nat} {xs ys:Array Value} {x y a b:Value} {Q:Value->Shared->Prop} (D:ZipApart z ti to j1 j2 t1 t2)
  (q0:IsZip s.heap z ti to .none) (p1:IsPair s.heap ti (.ref j1) (.ref j2)) (p2:IsPair s.heap to a b)
  (i1:ItB b1 s.heap j1 t1 k1) (i2:ItB b2 s.heap j2 t2 k2) (l1:IsB b1 s.heap t1 xs) (l2:IsB b2 s.heap t2 ys) (ex:xs[k1]?=some x) (ey:ys[k2]?=some y)
  (q:∀ h',IsZip h' z ti to (rawInt s.heap.objs.size)->IsPair h' to x y->ItB b1 h' j1 t1 (k1+1)->ItB b2 h' j2 t2 (k2+1)->IsPair h' s.heap.objs.size x y →
   (∀ c o,c≠z->c≠to->c≠j1->c≠j2->s.heap.get? c=some o->h'.get? c=some o)->Q (.ref s.heap.objs.size) { s with heap:=h' }) :
  wpAny (model prog w) A (Builtin.«zip.__next__» ⟨[.ref z],[]⟩) (λ fin s'=>∃ v,fin=.done (.ret v)/\Q v s') E s:=by
 show wpAny _ _ (field (.ref z) 2 >>= _) _ _ _
 refine wpAny_bind (wpAny_field q0 rfl (x:=.bool false) rfl (show wpAny _ _ (field (.ref z) 3 >>= _) _ _ _ from wpAny_bind (wpAny_field q0 rfl (x:=.ref ti) rfl (wpAny_bind (wpAny_seqItems p1 rfl ?_)))))
 show wpAny _ _ (do let free <- Builtin.SmallTypes.ownedTupleIsFree (.ref z); _) _ _ _
 unfold Builtin.SmallTypes.ownedTupleIsFree;refine wpAny_bind (wpAny_bind (wpAny_field q0 rfl (x:=.none) rfl (wpAny_pure ?_)));simp only [if_true];refine wpAny_bind (wpAny_rule (wpAny_bind (wpAny_field q0 rfl (x:=.ref to) rfl (wpAny_bind (wpAny_setField_rec q0 (by simp) λ u1 z1 s1=>?_)))));have z1':IsZip u1 z ti to .ellipsis:=z1;refine wpAny_bind ?_;simp only [kR,kS,gR,iY];refine wpAny_bind (wpAny_bind (wpAny_onRaise (show wpAny _ _ (Builtin.SmallTypes.nextOf (.ref j1) >>= _) _ _ _ from wpAny_bind (Z7 (i1.extBut s1.extBut D.i1z) (l1.extBut s1.extBut D.l1z) ex λ u2 j1' s2=>wpAny_pure ?_))));have to2:IsPair u2 to a b:=s2.extBut _ _ D.TOi1 (s1.extBut _ _ D.TOz p2);refine wpAny_bind (wpAny_seqItems to2 rfl (wpAny_bind (wpAny_updateSeq_pair to2 λ u3 to3 s3=>wpAny_bind (wpAny_letGo (wpAny_pure ?_)))));have to3':IsPair u3 to x b:=to3;refine wpAny_bind (wpAny_bind (wpAny_onRaise (show wpAny _ _ (Builtin.SmallTypes.nextOf (.ref j2) >>= _) _ _ _ from wpAny_bind (Z7 (((i2.extBut s1.extBut D.i2z).extBut s2.extBut D.i12.symm).extBut s3.extBut D.TOi2.symm)
  (((l2.extBut s1.extBut D.l2z).extBut s2.extBut D.l2i1).extBut s3.extBut D.l2TO) ey λ u4 j2' s4=>wpAny_pure ?_))))
 have to4:IsPair u4 to x b:=s4.extBut _ _ D.TOi2 to3';refine wpAny_bind (wpAny_seqItems to4 rfl (wpAny_bind (wpAny_updateSeq_pair to4 λ u5 to5 s5=>wpAny_bind (wpAny_letGo (wpAny_pure (wpAny_pure ?_))))));have to5':IsPair u5 to x y:=to5;refine wpAny_bind (wpAny_seqItems to5' rfl (wpAny_bind (wpAny_newTuple ?_)));have sz:u5.objs.size=s.heap.objs.size:=by rw [s5.1,s4.1,s3.1,s2.1,s1.1]
 have z5:IsZip u5 z ti to .ellipsis:=s5.extBut _ _ D.TOz.symm (s4.extBut _ _ D.i2z.symm (s3.extBut _ _ D.TOz.symm (s2.extBut _ _ D.i1z.symm z1')));have kp:∀ c o,c≠z->c≠to->c≠j1->c≠j2->s.heap.get? c=some o->u5.get? c=some o:=λ c o n1 n2 n3 n4 e=>s5.extBut _ _ n2 (s4.extBut _ _ n4 (s3.extBut _ _ n2 (s2.extBut _ _ n3 (s1.extBut _ _ n1 e))));have a1:ItB b1 u5 j1 t1 (k1+1):=((j1'.extBut s3.extBut D.TOi1.symm).extBut s4.extBut D.i12).extBut s5.extBut D.TOi1.symm;have a2:ItB b2 u5 j2 t2 (k2+1):=j2'.extBut s5.extBut D.TOi2.symm;have zl:z<u5.objs.size:=Heap.lt_size z5
 show wpAny _ _ (do let r <- Builtin.SmallTypes.ownedTupleHandOut (.ref z) (.ref u5.objs.size); _) _ _ _
 unfold Builtin.SmallTypes.ownedTupleHandOut;have z6:IsZip (u5.push { cls:=.type "tuple",data:=.seq #[x,y] }) z ti to .ellipsis:=Heap.get?_push_of_some _ z5;refine wpAny_bind (wpAny_bind (wpAny_setField_rec z6 (by simp) λ u7 z7 s7=>?_));have z7':IsZip u7 z ti to (rawInt u5.objs.size):=z7;refine wpAny_setField_rec z7' (by simp) λ u8 z8 s8=>?_;have z8':IsZip u8 z ti to (rawInt u5.objs.size):=z8;have up:∀ c o,c≠z->u5.get? c=some o->u8.get? c=some o:=λ c o n1 e=>s8.extBut _ _ n1 (s7.extBut _ _ n1 (Heap.get?_push_of_some _ e));have nt8:IsPair u8 u5.objs.size x y:=s8.extBut _ _ (cU zl) (s7.extBut _ _ (cU zl) (Heap.get?_push_size _ rfl));rw [sz] at z8' nt8;refine wpAny_pure ⟨_,rfl,?_⟩
 show Q (.ref u5.objs.size) _
 rw [sz];exact q u8 z8' (up _ _ D.TOz to5') (ItB.at' a1 λ o e=>up _ o D.i1z e) (ItB.at' a2 λ o e=>up _ o D.i2z e) nt8 λ c o n1 n2 n3 n4 e=>up c o n1 (kp c o n1 n2 n3 n4 e)
theorem b2N {b1 b2:Bool} {z ti to j1 j2 t1 t2:Addr} {k1 k2:Nat} {xs ys:Array Value} {a b:Value} {Q:jC->Shared->Prop} (hh:A.handled=none) (D:ZipApart z ti to j1 j2 t1 t2)
  (q0:IsZip s.heap z ti to .none) (p1:IsPair s.heap ti (.ref j1) (.ref j2)) (p2:IsPair s.heap to a b)
  (i1:ItB b1 s.heap j1 t1 k1) (i2:ItB b2 s.heap j2 t2 k2) (l1:IsB b1 s.heap t1 xs) (l2:IsB b2 s.heap t2 ys) (en:xs[k1]?=none\/ys[k2]?=none)
  (q:∀ h' e,(∀ c o,c≠z->c≠to->c≠j1->c≠j2->s.heap.get? c=some o->h'.get? c=some o)->(∃ o,h'.get? e=some o/\o.cls=.type "StopIteration")->E (.ref e) { s with heap:=h' }) :
  wpAny (model prog w) A (Builtin.«zip.__next__» ⟨[.ref z],[]⟩) Q E s:=by
 show wpAny _ _ (field (.ref z) 2 >>= _) _ _ _
 refine wpAny_bind (wpAny_field q0 rfl (x:=.bool false) rfl (show wpAny _ _ (field (.ref z) 3 >>= _) _ _ _ from wpAny_bind (wpAny_field q0 rfl (x:=.ref ti) rfl (wpAny_bind (wpAny_seqItems p1 rfl ?_)))))
 show wpAny _ _ (do let free <- Builtin.SmallTypes.ownedTupleIsFree (.ref z); _) _ _ _
 unfold Builtin.SmallTypes.ownedTupleIsFree;refine wpAny_bind (wpAny_bind (wpAny_field q0 rfl (x:=.none) rfl (wpAny_pure ?_)));simp only [if_true];refine wpAny_bind (wpAny_rule (wpAny_bind (wpAny_field q0 rfl (x:=.ref to) rfl (wpAny_bind (wpAny_setField_rec q0 (by simp) λ u1 z1 s1=>?_)))));have z1':IsZip u1 z ti to .ellipsis:=z1;refine wpAny_bind ?_;simp only [kR,kS,gR,iY]
 cases ex:xs[k1]? with
 | none =>
  refine wpAny_bind (wpAny_bind (wpAny_onRaise (show wpAny _ _ (Builtin.SmallTypes.nextOf (.ref j1) >>= _) _ _ _ from wpAny_bind (a1C hh (i1.extBut s1.extBut D.i1z) (l1.extBut s1.extBut D.l1z) ex λ u2 e s2 ⟨oe,e1,e2⟩=>?_))));have z2:IsZip u2 z ti to .ellipsis:=s2 _ _ D.i1z.symm z1';have ne:e≠z:=λ c=>by subst c; rw [z2] at e1; cases e1; simp at e2
  exact wpAny_setField_rec z2 (by simp) λ u3 _ s3=>q u3 e (λ c o n1 _ n3 _ m=>s3.extBut _ _ n1 (s2 _ _ n3 (s1.extBut _ _ n1 m))) ⟨oe,s3.extBut _ _ ne e1,e2⟩
 | some x =>
  have ey:ys[k2]?=none:=by
   rcases en with m | m
   ·rw [ex] at m; cases m
   ·exact m
  refine wpAny_bind (wpAny_bind (wpAny_onRaise (show wpAny _ _ (Builtin.SmallTypes.nextOf (.ref j1) >>= _) _ _ _ from wpAny_bind (Z7 (i1.extBut s1.extBut D.i1z) (l1.extBut s1.extBut D.l1z) ex λ u2 j1' s2=>wpAny_pure ?_))));have to2:IsPair u2 to a b:=s2.extBut _ _ D.TOi1 (s1.extBut _ _ D.TOz p2);refine wpAny_bind (wpAny_seqItems to2 rfl (wpAny_bind (wpAny_updateSeq_pair to2 λ u3 to3 s3=>wpAny_bind (wpAny_letGo (wpAny_pure ?_)))));refine wpAny_bind (wpAny_bind (wpAny_onRaise (show wpAny _ _ (Builtin.SmallTypes.nextOf (.ref j2) >>= _) _ _ _ from wpAny_bind (a1C hh (((i2.extBut s1.extBut D.i2z).extBut s2.extBut D.i12.symm).extBut s3.extBut D.TOi2.symm)
   (((l2.extBut s1.extBut D.l2z).extBut s2.extBut D.l2i1).extBut s3.extBut D.l2TO) ey λ u4 e s4 ⟨oe,e1,e2⟩=>?_))))
  have z4:IsZip u4 z ti to .ellipsis:=s4 _ _ D.i2z.symm (s3.extBut _ _ D.TOz.symm (s2.extBut _ _ D.i1z.symm z1'));have ne:e≠z:=λ c=>by subst c; rw [z4] at e1; cases e1; simp at e2
  exact wpAny_setField_rec z4 (by simp) λ u5 _ s5=>q u5 e (λ c o n1 n2 n3 n4 m=>s5.extBut _ _ n1 (s4 _ _ n4 (s3.extBut _ _ n2 (s2.extBut _ _ n3 (s1.extBut _ _ n1 m))))) ⟨oe,s5.extBut _ _ ne e1,e2⟩
theorem b1G {b1 b2:Bool} {z ti to j1 j2 t1 t2:Addr} {k1 k2:Nat} {xs ys:Array Value} {x y a b:Value} {Q:Option Value->Shared->Prop} (D:ZipApart z ti to j1 j2 t1 t2)
  (q0:IsZip s.heap z ti to .none) (p1:IsPair s.heap ti (.ref j1) (.ref j2)) (p2:IsPair s.heap to a b)
  (i1:ItB b1 s.heap j1 t1 k1) (i2:ItB b2 s.heap j2 t2 k2) (l1:IsB b1 s.heap t1 xs) (l2:IsB b2 s.heap t2 ys) (ex:xs[k1]?=some x) (ey:ys[k2]?=some y)
  (q:∀ h',IsZip h' z ti to (rawInt s.heap.objs.size)->IsPair h' to x y->ItB b1 h' j1 t1 (k1+1)->ItB b2 h' j2 t2 (k2+1)->IsPair h' s.heap.objs.size x y →
   (∀ c o,c≠z->c≠to->c≠j1->c≠j2->s.heap.get? c=some o->h'.get? c=some o)->Q (some (.ref s.heap.objs.size)) { s with heap:=h' }) :
  wpAny (model prog w) A (pyNext (.ref z)) Q E s:=by
 have ty:s.TypeIs (.ref z) "zip":=⟨_,q0,rfl⟩;unfold pyNext;exact wpAny_bind (wpAny_attempt (wpAny_callSpecial?_slot (name:=Str.ofString "__next__") ty F.slot_zip_next (wpAny_call_entry F.slot_zip_next ty F.entry_zip_next
  (b0F D q0 p1 p2 i1 i2 l1 l2 ex ey λ h' b1 b2 b3 b4 b5 b6=>wpAny_pure (q h' b1 b2 b3 b4 b5 b6)) (F.args_zip_next_1 _))))
theorem b0S {b1 b2:Bool} {z ti to j1 j2 t1 t2:Addr} {k1 k2:Nat} {xs ys:Array Value} {a b:Value} {Q:Option Value->Shared->Prop} (hh:A.handled=none) (D:ZipApart z ti to j1 j2 t1 t2)
  (q0:IsZip s.heap z ti to .none) (p1:IsPair s.heap ti (.ref j1) (.ref j2)) (p2:IsPair s.heap to a b)
  (i1:ItB b1 s.heap j1 t1 k1) (i2:ItB b2 s.heap j2 t2 k2) (l1:IsB b1 s.heap t1 xs) (l2:IsB b2 s.heap t2 ys) (en:xs[k1]?=none\/ys[k2]?=none)
  (q:∀ h',(∀ c o,c≠z->c≠to->c≠j1->c≠j2->s.heap.get? c=some o->h'.get? c=some o)->Q none { s with heap:=h' }):wpAny (model prog w) A (pyNext (.ref z)) Q E s:=by
 have ty:s.TypeIs (.ref z) "zip":=⟨_,q0,rfl⟩;unfold pyNext;refine wpAny_bind (wpAny_attempt (wpAny_callSpecial?_slot (name:=Str.ofString "__next__") ty F.slot_zip_next (wpAny_call_entry F.slot_zip_next ty F.entry_zip_next
  (b2N hh D q0 p1 p2 i1 i2 l1 l2 en λ h' e kp ⟨o,e1,e2⟩=>wpAny_bind (wpAny_isInstance (T:="StopIteration") (b:=true) ⟨o,e1,e2⟩ isSubtype_stop (wpAny_pure (q _ kp)))) (F.args_zip_next_1 _))))
end
abbrev zg1 (b1:Bool) (h:Heap) (t1:Addr):Heap:=h.push { cls:=.type (itN b1),data:=.fields #[.ref t1,.int 0 0] }
abbrev zg2 (b1 b2:Bool) (h:Heap) (t1 t2:Addr):Heap:=(zg1 b1 h t1).push { cls:=.type (itN b2),data:=.fields #[.ref t2,.int 0 0] }
abbrev zg3 (b1 b2:Bool) (h:Heap) (t1 t2:Addr):Heap:=(zg2 b1 b2 h t1 t2).push { cls:=.type "tuple",data:=.seq #[.ref h.objs.size,.ref (zg1 b1 h t1).objs.size] }
abbrev zg4 (b1 b2:Bool) (h:Heap) (t1 t2:Addr):Heap:=(zg3 b1 b2 h t1 t2).push { cls:=.type "tuple",data:=.seq #[.none,.none] }
abbrev zg5 (b1 b2:Bool) (h:Heap) (t1 t2:Addr):Heap:=(zg4 b1 b2 h t1 t2).push { cls:=.type "zip",data:=.fields #[.none,.bool false,.bool false,.ref (zg2 b1 b2 h t1 t2).objs.size,.ref (zg3 b1 b2 h t1 t2).objs.size] }
theorem b2V (b1 b2:Bool) (t1 t2:Addr) (xs ys:Array Value) :
  Meets (Builtin.«zip.__new__» ⟨[.type "zip",.ref t1,.ref t2],[]⟩) (λ _ R s=>IsB b1 s.heap t1 xs/\IsB b2 s.heap t2 ys/\R (.ok (.ret (.ref (zg4 b1 b2 s.heap t1 t2).objs.size))) { s with heap:=zg5 b1 b2 s.heap t1 t2 }) :=
 .of_wp λ prog w A R s h=>by
  obtain ⟨hp,g,d,tk,os⟩:=s;obtain ⟨e1,e2,h⟩:=h;have hsub:=sub_zip;have m1:IsB b1 (Shared.heap ⟨hp,g,d,tk,os⟩) t1 xs:=e1;have m2:IsB b2 (Shared.heap ⟨hp.push { cls:=.type (itN b1),data:=.fields #[.ref t1,.int 0 0] },g,d,tk,os⟩) t2 ys:=IsB.push e2 _
  wp_walk using a4p m1,a4p m2
  exact ⟨_,rfl,h⟩
section
variable {prog:Program} {w:World} {A:Around} {E:Value->Shared->Prop} {s:Shared}
theorem b1o {b1 b2:Bool} {t1 t2:Addr} {xs ys:Array Value} {Q:Value->Shared->Prop} (l1:IsB b1 s.heap t1 xs) (l2:IsB b2 s.heap t2 ys)
  (q:∀ h',IsZip h' (s.heap.objs.size+4) (s.heap.objs.size+2) (s.heap.objs.size+3) .none->IsPair h' (s.heap.objs.size+2) (.ref s.heap.objs.size) (.ref (s.heap.objs.size+1))->IsPair h' (s.heap.objs.size+3) .none .none →
   ItB b1 h' s.heap.objs.size t1 0->ItB b2 h' (s.heap.objs.size+1) t2 0->(∀ c o,s.heap.get? c=some o->h'.get? c=some o)->Q (.ref (s.heap.objs.size+4)) { s with heap:=h' }) :
  wpAny (model prog w) A (call (.type "zip") [.ref t1,.ref t2]) Q E s:=by
 refine callType_new F.called_zip (by decide) (F.typeCall_zip_2 _ _) (F.newCall_zip_2 _ _) (λ ob=>F.args_object_init_3 ob _ _) F.entry_zip_new (b2V b1 b2 t1 t2 xs ys) ⟨l1,l2,?_⟩;have n1:(zg1 b1 s.heap t1).objs.size=s.heap.objs.size+1:=Heap.size_push ..;have n2:(zg2 b1 b2 s.heap t1 t2).objs.size=s.heap.objs.size+2:=by rw [Heap.size_push,n1]
 have n3:(zg3 b1 b2 s.heap t1 t2).objs.size=s.heap.objs.size+3:=by rw [Heap.size_push,n2]
 have n4:(zg4 b1 b2 s.heap t1 t2).objs.size=s.heap.objs.size+4:=by rw [Heap.size_push,n3]
 have p5:(zg5 b1 b2 s.heap t1 t2).get? (zg4 b1 b2 s.heap t1 t2).objs.size=some _:=Heap.get?_push_size _ rfl;have p4:(zg5 b1 b2 s.heap t1 t2).get? (zg3 b1 b2 s.heap t1 t2).objs.size=some _:=Heap.get?_push_of_some _ (Heap.get?_push_size _ rfl);have p3:(zg5 b1 b2 s.heap t1 t2).get? (zg2 b1 b2 s.heap t1 t2).objs.size=some _:=Heap.get?_push_of_some _ (Heap.get?_push_of_some _ (Heap.get?_push_size _ rfl));have p2:(zg5 b1 b2 s.heap t1 t2).get? (zg1 b1 s.heap t1).objs.size=some _:=Heap.get?_push_of_some _ (Heap.get?_push_of_some _ (Heap.get?_push_of_some _ (Heap.get?_push_size _ rfl)));have p1:(zg5 b1 b2 s.heap t1 t2).get? s.heap.objs.size=some _:=Heap.get?_push_of_some _ (Heap.get?_push_of_some _ (Heap.get?_push_of_some _ (Heap.get?_push_of_some _ (Heap.get?_push_size _ rfl))));rw [n2,n3,n4] at p5;rw [n1,n2] at p3;rw [n3] at p4;rw [n1] at p2
 show _/\_
 rw [n4];refine ⟨⟨_,p5,rfl⟩,q _ p5 p3 p4 (ItB.mk p1) (ItB.mk p2) λ c o m=>?_⟩;exact Heap.get?_push_of_some _ (Heap.get?_push_of_some _ (Heap.get?_push_of_some _ (Heap.get?_push_of_some _ (Heap.get?_push_of_some _ m))))
end
def Itg (b1 b2:Bool) (K:W.Frag) (l1 l2:Addr):It :=
  ⟨λ i H=>∃ xs ys x y,SqB b1 K H l1 xs/\SqB b2 K H l2 ys/\xs[i]?=some x/\ys[i]?=some y,
   λ i H x H'=>∃ p a b,H p=none/\x=.ref p/\H'=upd H p (.tup [a,b])/\∀ xs ys,SqB b1 K H l1 xs->SqB b2 K H l2 ys->xs[i]?=some a/\ys[i]?=some b,
   λ i H=>∃ xs ys,SqB b1 K H l1 xs/\SqB b2 K H l2 ys/\(xs.length<=i\/ys.length<=i)⟩
theorem b0D {b1 b2:Bool} {P:Program} {w:World} {K:W.Frag} {elts:List Expr} {x1:Nat} {pos:Pos} {z ti to j1 j2 l1 l2:Addr} (D:ZipApart z ti to j1 j2 l1 l2) :
  a5F P w K (.Tuple elts x1 pos) (Itg b1 b2 K l1 l2) [z,ti,to,j1,j2] z (λ i h=>IsZip h z ti to .none/\IsPair h ti (.ref j1) (.ref j2)/\(∃ a b,IsPair h to a b)/\ItB b1 h j1 l1 i/\ItB b2 h j2 l2 i) where
 mem:=by simp
 obj:=λ i h st b hb=>by
  obtain ⟨hz,hti,⟨a,c,hto⟩,h1,h2⟩:=st;obtain ⟨o1,e1,v1,d1⟩:=h1.obj;obtain ⟨o2,e2,v2,d2⟩:=h2.obj;simp only [aL,bV,or_false] at hb;rcases hb with rfl | rfl | rfl | rfl | rfl
  ·exact ⟨_,hz,λ v q=>by cases q⟩
  ·exact ⟨_,hti,λ v q=>by cases q⟩
  ·exact ⟨_,hto,λ v q=>by cases q⟩
  ·exact ⟨o1,e1,λ v q=>by rw [d1] at q; cases q⟩
  ·exact ⟨o2,e2,λ v q=>by rw [d2] at q; cases q⟩
 keep:=λ i h h' st k=>by
  obtain ⟨hz,hti,⟨a,c,hto⟩,h1,h2⟩:=st;exact ⟨k z (by simp) _ hz,k ti (by simp) _ hti,⟨a,c,k to (by simp) _ hto⟩,ItB.at' h1 λ o e=>k j1 (by simp) o e,ItB.at' h2 λ o e=>k j2 (by simp) o e⟩
 item:=by
  intro X hP hw hK hc i pins s σ H E I hf st hg;subst hP hw hK;obtain ⟨xs,ys,x,y,hq1,hq2,hx,hy⟩:=hg;obtain ⟨hz,hti,⟨a,c,hto⟩,h1,h2⟩:=st;obtain ⟨its1,rv1,p1,_⟩:=I.sqB hq1;obtain ⟨its2,rv2,p2,_⟩:=I.sqB hq2;obtain ⟨u1,hu1,ru1⟩:=rv1.get hx;obtain ⟨u2,hu2,ru2⟩:=rv2.get hy;refine b1G D hz hti hto h1 h2 p1 p2 (x:=u1) (y:=u2) (by simpa using hu1) (by simpa using hu2) λ h' a1 a2 a3 a4 a5 a7=>?_;refine ⟨_,rfl,wpAny_letOwnedTupleGo_zip (s:={ s with heap:=h' }) a1 λ h'' hz'' hs''=>?_⟩;have neT:∀ b∈[z,ti,to,j1,j2],b≠s.heap.objs.size:=λ b hb e=>by
   have:∃ o,s.heap.get? b=some o:=by
    obtain ⟨o1,e1,_⟩:=h1.obj;obtain ⟨o2,e2,_⟩:=h2.obj;simp only [aL,bV,or_false] at hb;rcases hb with rfl | rfl | rfl | rfl | rfl
    ·exact ⟨_,hz⟩
    ·exact ⟨_,hti⟩
    ·exact ⟨_,hto⟩
    ·exact ⟨_,e1⟩
    ·exact ⟨_,e2⟩
   obtain ⟨o,ho⟩:=this;exact absurd (Heap.lt_size ho) (by rw [e]; exact bR _)
  have kk:∀ b o,b ∉ [z,ti,to,j1,j2]->s.heap.get? b=some o->h''.get? b=some o:=λ b o hb e=>by
   simp only [aL,bV,or_false,not_or] at hb;exact hs''.extBut b o hb.1 (a7 b o hb.1 hb.2.2.1 hb.2.2.2.1 hb.2.2.2.2 e)
  have tti:h'.get? ti=_:=a7 ti _ D.TIz D.TITO D.TIi1 D.TIi2 hti;have st':IsZip h'' z ti to .none/\IsPair h'' ti (.ref j1) (.ref j2)/\(∃ a b,IsPair h'' to a b)/\ItB b1 h'' j1 l1 (i+1)/\ItB b2 h'' j2 l2 (i+1) :=
   ⟨hz'',hs''.extBut _ _ D.TIz tti,⟨_,_,hs''.extBut _ _ D.TOz a2⟩,a3.extBut hs''.extBut D.i1z,a4.extBut hs''.extBut D.i2z⟩
  have hoF:∀ b∈[z,ti,to,j1,j2],∃ o,h''.get? b=some o:=λ b hb=>by
   obtain ⟨q1,q2,⟨_,_,q3⟩,q4,q5⟩:=st';obtain ⟨o1,e1,_⟩:=q4.obj;obtain ⟨o2,e2,_⟩:=q5.obj;simp only [aL,bV,or_false] at hb;rcases hb with rfl | rfl | rfl | rfl | rfl
   ·exact ⟨_,q1⟩
   ·exact ⟨_,q2⟩
   ·exact ⟨_,q3⟩
   ·exact ⟨_,e1⟩
   ·exact ⟨_,e2⟩
  have zs:z≠s.heap.objs.size:=neT z (by simp);have tup:IsTup h'' s.heap.objs.size [u1,u2].toArray:=⟨_,hs''.extBut _ _ (aO zs) a5,rfl,0,rfl⟩;refine ⟨.ref s.heap.objs.size,upd H s.heap.objs.size (.tup [x,y]),I.turnedLaid (h':=h'') hf kk hoF (aF _) (by show 2<=sizeLine; decide) (.cons ru1 (.cons ru2 .nil)) tup,rfl,⟨_,x,y,I.fresh,rfl,rfl,λ xs' ys' q1 q2=>?_⟩,st',λ b hb=>?_⟩
  ·rw [I.sqB_inj q1 hq1,I.sqB_inj q2 hq2]; exact ⟨hx,hy⟩
  ·rw [d0 (neT b hb)]; exact (hf b hb).1
 done:=by
  intro X hP hw hK hc i pins s σ H E I hf st hg;subst hP hw hK;obtain ⟨xs,ys,hq1,hq2,hend⟩:=hg;obtain ⟨hz,hti,⟨a,c,hto⟩,h1,h2⟩:=st;obtain ⟨its1,rv1,p1,_⟩:=I.sqB hq1;obtain ⟨its2,rv2,p2,_⟩:=I.sqB hq2;have hl1:=rv1.length;have hl2:=rv2.length;refine b0S (I.ok.hd hc) D hz hti hto h1 h2 p1 p2 (by
   rcases hend with q | q
   ·exact .inl (by simp; omega)
   ·exact .inr (by simp; omega)) λ h' k=>⟨rfl,I.turnedAll hf λ b o hb e=>?_⟩
  simp only [aL,bV,or_false,not_or] at hb;exact k b o hb.1 hb.2.2.1 hb.2.2.2.1 hb.2.2.2.2 e
 self:=λ _ _ _ _ _ st h=>wpAny_pyIter_zip st.1 h
def iZg (b1 b2:Bool) (K:W.Frag) (ta:TA):TI:=λ σ H R=>ta σ H λ vs H1=>∃ l1 l2,vs=[.ref l1,.ref l2]/\(∃ xs,SqB b1 K H1 l1 xs)/\(∃ ys,SqB b2 K H1 l2 ys)/\R (Itg b1 b2 K l1 l2) H1
theorem a4Y (b1 b2:Bool) (K:W.Frag) {X:Cx} {a b:Expr} {ta:TA} {p pos pos':Pos} {elts:List Expr} {x1:Nat} (hK:X.K=K) (hg:Gl X "zip") (hm:X.mg "zip"=none) (ha:PA X [a,b] ta) (hs:starEach [a,b] X.env=[(false,eval a X.env),(false,eval b X.env)]:=by rfl) (hs2:starEach [b] X.env=[(false,eval b X.env)]:=by rfl) :
  PI X (.Tuple elts x1 pos') (.Call (.Name "zip" p) [a,b] [] pos) (iZg b1 b2 K ta):=by
 subst hK;intro pins s σ H R I h;refine Call_ (S5 I hg hm boot_zip (fP (B6 (ha pos pins s σ H _ I h) λ us s1 ⟨vs,H1,I1,r1,q1⟩=>?_) (by rw [hs,hs2]) (by rw [hs2]; rfl)));obtain ⟨l1,l2,e,⟨xs,q1⟩,⟨ys,q2⟩,q⟩:=q1;subst e;obtain ⟨u1,u2,rfl,ru1,ru2⟩:=a9t r1
 cases ru1
 cases ru2;obtain ⟨its1,rv1,p1,_⟩:=I1.sqB q1;obtain ⟨its2,rv2,p2,_⟩:=I1.sqB q2;refine b1o p1 p2 λ h' z1 z2 z3 z4 z5 k=>?_;have I2:Inv X pins σ H1 { s1 with heap:=h' }:=I1.kept (t':=s1.toks) k;refine wpAny_pyIter_zip z1 ?_;have D:ZipApart (s1.heap.objs.size+4) (s1.heap.objs.size+2) (s1.heap.objs.size+3) s1.heap.objs.size (s1.heap.objs.size+1) l1 l2:=b3p _ _ _ p1.lt p2.lt;refine ⟨s1.heap.objs.size+4,[s1.heap.objs.size+4,s1.heap.objs.size+2,s1.heap.objs.size+3,s1.heap.objs.size,s1.heap.objs.size+1],_,_,H1,rfl,I2,b0D D,⟨z1,z2,⟨_,_,z3⟩,z4,z5⟩,λ b hb=>?_,q⟩;have hb':s1.heap.objs.size<=b:=by
  simp only [aL,bV,or_false] at hb;rcases hb with rfl | rfl | rfl | rfl | rfl
  ·exact fQ _ _
  ·exact fQ _ _
  ·exact fQ _ _
  ·exact aF _
  ·exact fQ _ _
 exact I1.fpOk hb' (I1.hok.fresh hb')
section
variable {b1 b2:Bool} {xs ys:List V} {K:W.Frag} {l1 l2:Addr} {fr:List Nat} {te:TE} {σ:St} {H1:Hp} {p:Addr} {D:Hp->Prop}
theorem a3t (h1:SqB b1 K H1 l1 xs) (h2:SqB b2 K H1 l2 ys) (hp:H1 p=none) (hz:xs.length<sizeLine) (R:Nat->V->Hp->Prop) (hR:∀ i y H H',R i y H->(∀ b o,b≠p->H b=some o->H' b=some o)->R i y H')
  (step:∀ (i:Nat) x y H zs (N:VK),xs[i]?=some x->ys[i]?=some y->Same H1 H->H p=some (.lst zs)->(∀ v H3,Same H H3->R i v H3->N v H3)->te (((blkσ 2 fr σ).set 0 (some x)).set 1 (some y)) H N)
  (hd:∀ zs H,Same H1 H->H p=some (.lst zs)->zs.length=min xs.length ys.length->(∀ i z,zs[i]?=some z->R i z H)->D H):lcW 2 fr (a8d K 2 (a0i (K5 0) (a0i (K5 1) a9X))) te σ (Itg b1 b2 K l1 l2) H1 p D:=by
 refine ⟨λ i m zs H=>m=min xs.length ys.length - i/\i<=min xs.length ys.length/\Same H1 H/\H p=some (.lst zs)/\zs.length=i/\∀ j y,zs[j]?=some y->R j y H,⟨_,rfl,bW _,Same.new hp _,upd_same,rfl,λ j y e=>by simp at e⟩,?_⟩;rintro i m zs H ⟨rfl,hi,e,hH,len,pr⟩
 by_cases hlt:i<min xs.length ys.length
 ·have hx:i<xs.length:=by omega
  have hy:i<ys.length:=by omega
  refine .inr ⟨⟨xs,ys,xs[i],ys[i],e.sqB h1,e.sqB h2,aD hx,aD hy⟩,λ u H' y=>?_⟩;obtain ⟨q,a,b,hq,rfl,rfl,hab⟩:=y;obtain ⟨ha,hb⟩:=hab xs ys (e.sqB h1) (e.sqB h2);have s1:=Same.new hq (.tup [a,b]);refine ⟨q,_,rfl,SqT.of upd_same,rfl,_,_,rfl,_,_,rfl,rfl,?_,?_⟩
  ·refine ⟨by simp,λ k w ek=>?_⟩
   have:¬ k<2:=λ hk=>by
    unfold blkσ at ek;rw [bF (by simpa using hk),dI] at ek
    split at ek <;> cases ek
   rw [bS (by omega),bS (by omega)]; exact ek
  ·refine step i a b _ zs _ ha hb (e.trans s1) (s1 _ _ hH) λ v H3 s3 r3=>⟨s3 _ _ (s1 _ _ hH),by omega,min xs.length ys.length - (i+1),by omega,rfl,hlt,λ b' o q'=>?_,upd_same,by rw [aJ,len]; rfl,λ j y ey=>?_⟩
   ·rw [d0 (i8 q' hp)]; exact s3 _ _ (s1 _ _ (e _ _ q'))
   ·have up:∀ b o,b≠p->H3 b=some o->upd H3 p (.lst (zs++[v])) b=some o:=λ b o hb q=>by rw [d0 hb]; exact q
    by_cases hj:j<zs.length
    ·rw [bF hj] at ey
     exact hR j y _ _ (pr j y ey) λ b o hb q=>up b o hb (s3 _ _ (s1 _ _ q))
    ·rw [bU (by omega)] at ey
     have hj':j - zs.length=0:=by
      cases q:j - zs.length with
      | zero=>rfl
      | succ k=>rw [q] at ey; simp at ey
     rw [hj'] at ey;have:j=i:=by omega
     subst this;simp at ey;subst ey;exact hR j v _ _ r3 up
 ·have:i=min xs.length ys.length:=by omega
  subst this;exact .inl ⟨⟨xs,ys,e.sqB h1,e.sqB h2,by omega⟩,hd zs H e hH len pr⟩
theorem b2q (h1:SqB b1 K H1 l1 xs) (h2:SqB b2 K H1 l2 ys) (hp:H1 p=none) (hz:xs.length<sizeLine) (F:V->V->V)
  (step:∀ (i:Nat) x y H (N:VK),xs[i]?=some x->ys[i]?=some y->Same H1 H->N (F x y) H->te (((blkσ 2 fr σ).set 0 (some x)).set 1 (some y)) H N)
  (hd:∀ H,Same H1 H->H p=some (.lst (bB F xs ys))->D H):lcW 2 fr (a8d K 2 (a0i (K5 0) (a0i (K5 1) a9X))) te σ (Itg b1 b2 K l1 l2) H1 p D:=by
 refine a3t h1 h2 hp hz (λ i v _=>∀ x y,xs[i]?=some x->ys[i]?=some y->v=F x y) (λ _ _ _ _ r _=>r) (λ i x y H zs N hx hy e _ hN=>step i x y H N hx hy e (hN _ _ (Same.refl _) λ x' y' ex ey=>?_)) λ zs H e hH hl hr=>hd H e ?_
 ·rw [hx] at ex; rw [hy] at ey; cases ex; cases ey; rfl
 ·rw [hH]
  congr 2
  refine cC λ i=>?_
  by_cases hi:i<min xs.length ys.length
  ·have a1:i<zs.length:=by omega
   have a2:i<xs.length:=by omega
   have a3:i<ys.length:=by omega
   rw [aD a1,aD (by rw [eK]; exact hi),List.getElem_zipWith,hr i _ (aD a1) _ _ (aD a2) (aD a3)]
  ·rw [aW (by omega),aW (by rw [eK]; omega)]
end
def Ite (K:W.Frag) (l:Addr):It :=
  ⟨λ i H=>∃ xs x,SqL K H l xs/\xs[i]?=some x,
   λ i H x H'=>∃ p a,H p=none/\x=.ref p/\H'=upd H p (.tup [.int (i:Int),a])/\∀ xs,SqL K H l xs->xs[i]?=some a,
   λ i H=>∃ xs,SqL K H l xs/\xs.length<=i⟩
theorem a7Q {P:Program} {w:World} {K:W.Frag} {elts:List Expr} {x1:Nat} {pos:Pos} {e it l:Addr} (hne:e≠it) (hle:l≠e) (hli:l≠it) :
  a5F P w K (.Tuple elts x1 pos) (Ite K l) [e,it] e (λ i h=>(∃ old,IsEnum h e it (i:Int) old)/\h.IsListIter it l i) where
 mem:=by simp
 obj:=λ i h st b hb=>by
  obtain ⟨⟨old,he⟩,⟨o1,e1,c1,d1⟩⟩:=st;simp only [aL,bV,or_false] at hb;rcases hb with rfl | rfl
  ·exact ⟨_,he,λ v q=>by cases q⟩
  ·exact ⟨o1,e1,λ v q=>by rw [d1] at q; cases q⟩
 keep:=λ i h h' st k=>by
  obtain ⟨⟨old,he⟩,h1⟩:=st;exact ⟨⟨old,k e (by simp) _ he⟩,h1.at λ o q=>k it (by simp) o q⟩
 item:=by
  intro X hP hw hK hc i pins s σ H E I hf st hg;subst hP hw hK;obtain ⟨xs,x,hq,hx⟩:=hg;obtain ⟨⟨old,he⟩,h1⟩:=st;obtain ⟨its,rv,p,_⟩:=I.list hq;obtain ⟨u,hu,ru⟩:=rv.get hx;refine wpAny_pyNext_enum_item he h1 p.isList (x:=u) (by simpa using hu) hne λ h' a1 a2 a3 a4 a5=>?_;refine ⟨_,rfl,wpAny_letOwnedTupleGo_enum (s:={ s with heap:=h',toks:=s.toks+1 }) a1 λ h'' he'' hs''=>?_⟩;have ie:s.heap.get? e=_:=he;obtain ⟨o1,ei,_⟩:=id h1;have neT:∀ b∈[e,it],b≠s.heap.objs.size:=λ b hb q=>by
   have:∃ o,s.heap.get? b=some o:=by
    simp only [aL,bV,or_false] at hb;rcases hb with rfl | rfl
    ·exact ⟨_,ie⟩
    ·exact ⟨_,ei⟩
   obtain ⟨o,ho⟩:=this;exact absurd (Heap.lt_size ho) (by rw [q]; exact bR _)
  have kk:∀ b o,b ∉ [e,it]->s.heap.get? b=some o->h''.get? b=some o:=λ b o hb q=>by
   simp only [aL,bV,or_false,not_or] at hb;exact hs''.extBut b o hb.1 (a5 b o hb.1 hb.2 q)
  have it'':h''.IsListIter it l (i+1):=a2.extBut hs''.extBut (aO hne);have hoF:∀ b∈[e,it],∃ o,h''.get? b=some o:=λ b hb=>by
   obtain ⟨o2,e2,_⟩:=it'';simp only [aL,bV,or_false] at hb;rcases hb with rfl | rfl
   ·exact ⟨_,he''⟩
   ·exact ⟨_,e2⟩
  have es:e≠s.heap.objs.size:=neT e (by simp);have tup:IsTup h'' s.heap.objs.size [Value.int (i:Int) s.toks,u].toArray:=⟨_,hs''.extBut _ _ (aO es) a3,rfl,0,rfl⟩;refine ⟨.ref s.heap.objs.size,upd H s.heap.objs.size (.tup [.int (i:Int),x]),(I.turnedLaid (h':=h'') hf kk hoF (aF _) (by show 2<=sizeLine; decide) (show Vals [.int (i:Int),x] [Value.int (i:Int) s.toks,u] from .cons ⟨_,rfl⟩ (.cons ru .nil)) tup).tok _,rfl,⟨_,x,I.fresh,rfl,rfl,λ xs' q1=>?_⟩,⟨⟨_,he''⟩,it''⟩,λ b hb=>?_⟩
  ·rw [I.list_inj q1 hq]; exact hx
  ·rw [d0 (neT b hb)]; exact (hf b hb).1
 done:=by
  intro X hP hw hK hc i pins s σ H E I hf st hg;subst hP hw hK;obtain ⟨xs,hq,hend⟩:=hg;obtain ⟨⟨old,he⟩,h1⟩:=st;obtain ⟨its,rv,p,_⟩:=I.list hq;have hl:=rv.length;refine wpAny_pyNext_enum_end (I.ok.hd hc) he h1 p.isList (by simp; omega) λ h' k=>⟨rfl,I.turnedAll hf λ b o hb q=>?_⟩;simp only [aL,bV,or_false,not_or] at hb;exact k b o hb.2 q
 self:=λ _ _ _ _ _ st h=>by
  obtain ⟨⟨old,he⟩,_⟩:=st;exact wpAny_pyIter_enum he h
def b4C (K:W.Frag) (ta:TA):TI:=λ σ H R=>ta σ H λ vs H1=>∃ l,vs=[.ref l]/\(∃ xs,SqL K H1 l xs)/\R (Ite K l) H1
theorem a6v (K:W.Frag) {X:Cx} {a:Expr} {ta:TA} {p pos pos':Pos} {elts:List Expr} {x1:Nat} (hK:X.K=K) (hg:Gl X "enumerate") (hm:X.mg "enumerate"=none) (ha:PA X [a] ta) (hs:starEach [a] X.env=[(false,eval a X.env)]:=by rfl) (hs2:starEach ([]:List Expr) X.env=[]:=by rfl) :
  PI X (.Tuple elts x1 pos') (.Call (.Name "enumerate" p) [a] [] pos) (b4C K ta):=by
 subst hK;intro pins s σ H R I h;refine Call_ (S5 I hg hm boot_enumerate (fP (B6 (ha pos pins s σ H _ I h) λ us s1 ⟨vs,H1,I1,r1,q1⟩=>?_) (by rw [hs,hs2]) (by rw [hs2]; rfl)));obtain ⟨l,e,⟨xs,q1⟩,q⟩:=q1;subst e;obtain ⟨u,rfl,ru⟩:=N9 r1
 cases ru;obtain ⟨its,rv,p,_⟩:=I1.list q1;have lt1:l<s1.heap.objs.size:=by obtain ⟨_,e,_⟩:=p.isList; exact Heap.lt_size e
 refine call_enumerate_list p.isList λ h' z1 z2 z3 k=>?_;have I2:Inv X pins σ H1 { s1 with heap:=h' }:=I1.kept (t':=s1.toks) k;refine wpAny_pyIter_enum z1 ?_;refine ⟨s1.heap.objs.size+1,[s1.heap.objs.size+1,s1.heap.objs.size],_,_,H1,rfl,I2,a7Q (l:=l) (e:=s1.heap.objs.size+1) (it:=s1.heap.objs.size) (jD _) (bD (dQ lt1)) (bD lt1),⟨⟨_,z1⟩,z2⟩,λ b hb=>?_,q⟩;have hb':s1.heap.objs.size<=b:=by
  simp only [aL,bV,or_false] at hb;rcases hb with rfl | rfl
  ·exact fB _
  ·exact aF _
 exact I1.fpOk hb' (I1.hok.fresh hb')
section
variable {xs ys:List V} {K:W.Frag} {l1 l2:Addr} {fr:List Nat} {te:TE} {σ:St} {H1:Hp} {p:Addr} {D:Hp->Prop}
theorem a4A {i1 i2:Nat} {tb:TS} {D:Ends} {H:Hp} (Pv:Nat->St->Hp->Prop) (h0:Pv 0 σ H) (hl:∀ i σ H,Pv i σ H->SqL K H l1 xs)
  (hs:∀ i x σ H q,xs[i]?=some x->Pv i σ H->H q=none->tb { D with nx:=Pv (i+1),ct:=Pv (i+1),bk:=D.nx } ((σ.set i1 (some (.int (i:Int)))).set i2 (some x)) (upd H q (.tup [.int (i:Int),x]))) (hd:∀ σ H,Pv xs.length σ H->D.nx σ H) :
  ∃ W:Nat->Nat->St->Hp->Prop,(∃ m,W 0 m σ H)/\∀ i m σ H,W i m σ H →
   ((Ite K l1).stop i H/\D.nx σ H)\/((Ite K l1).go i H/\∃ N:St->Hp->Prop,(∀ σ' H',N σ' H'->∃ m',m'<m/\W (i+1) m' σ' H')/\∀ x H',(Ite K l1).yld i H x H'->a8d K 2 (a0i (K5 i1) (a0i (K5 i2) a9X)) x σ H' λ σ2 H2=>tb { D with nx:=N,ct:=N,bk:=D.nx } σ2 H2):=by
 refine ⟨λ i m σ H=>m=xs.length - i/\i<=xs.length/\Pv i σ H,⟨_,rfl,bW _,h0⟩,?_⟩;rintro i m σ H ⟨rfl,hi,p⟩;have q1:=hl i σ H p
 by_cases hlt:i<xs.length
 ·refine .inr ⟨⟨xs,xs[i],q1,aD hlt⟩,Pv (i+1),λ σ' H' p'=>⟨xs.length - (i+1),by omega,rfl,hlt,p'⟩,λ u H' y=>?_⟩
  obtain ⟨q,a,hq,rfl,rfl,hab⟩:=y;have ha:=hab xs q1;exact ⟨q,_,rfl,SqT.of upd_same,rfl,_,_,rfl,_,_,rfl,rfl,hs i a σ H q ha p hq⟩
 ·have:i=xs.length:=by omega
  subst this;exact .inl ⟨⟨xs,q1,by omega⟩,hd σ H p⟩
end
theorem a8O {X:Cx} {tg iter:Expr} {w:Bool->TI} (h:∀ b,PI X tg iter (w b)):PI X tg iter (λ σ H R=>∃ b,w b σ H R):=λ pins s σ H R I ⟨b,q⟩=>h b pins s σ H R I q
end L2
namespace Fr
abbrev Q2:=Int×Int
def gI (a b:Int):Int:=(jE a b:Int)
def low (t b:Int):Q2:=(t / gI t b,b / gI t b)
def a9Y (f:Q2):Prop:=0<f.2/\jE f.1 f.2=1
theorem V2 (a b:Int):0<=gI a b:=Int.natCast_nonneg _
theorem J3 (a b:Int):gI a b∣a:=Int.gcd_dvd_left ..
theorem A6 (a b:Int):gI a b∣b:=Int.gcd_dvd_right ..
theorem S9 {a b:Int} (hb:0<b):0<gI a b:=by
 have h0:=V2 a b
 by_cases z:gI a b=0
 ·have:=A6 a b
  rw [z,Int.zero_dvd] at this;omega
 ·omega
theorem b2m {a b:Int} (hb:0<b):gI a b<=b:=fG hb (A6 a b)
theorem a5W {c a b:Int} (h1:c∣a) (h2:c∣b):c∣gI a b:=Int.dvd_coe_gcd h1 h2
theorem a0A {a b:Int} (ha:0<=a) (hb:0<=b) (h1:a∣b) (h2:b∣a):a=b:=Int.dvd_antisymm ha hb h1 h2
theorem b1y (a b:Int):gI b (a % b)=gI a b:=by
 refine a0A (V2 _ _) (V2 _ _) (a5W ?_ (J3 _ _)) (a5W (A6 _ _) ?_)
 ·have h1:=J3 b (a % b)
  have h2:=A6 b (a % b);have:=Int.dvd_add (jF (c:=a / b) h1) h2;rw [Int.mul_ediv_add_emod] at this;exact this
 ·have h1:=J3 a b
  have h2:=A6 a b;have:=Int.dvd_sub h1 (jF (c:=a / b) h2);rw [Int.emod_def];exact this
theorem b0K (a:Int):gI a 0=a.natAbs:=by unfold gI; rw [Int.gcd_zero_right]
theorem R1 {t b:Int} (hb:0<b):0<(low t b).2:=by
 have h:=S9 (a:=t) hb;obtain ⟨k,hk⟩:=A6 t b
 show 0<b / gI t b
 have e:b / gI t b=k:=by
  have:b / gI t b=(gI t b*k) / gI t b:=by rw [<- hk]
  rw [this,jG _ (by omega)]
 rw [e]
 by_cases z:0<k
 ·exact z
 ·have:=cK (aN h) (show 0 <= -k by omega)
  rw [dN] at this;omega
theorem G9 {t b:Int} (hb:0<b):t=gI t b*(low t b).1/\b=gI t b*(low t b).2 :=
 ⟨(jH (J3 t b)).symm,(jH (A6 t b)).symm⟩
theorem X2 {t b:Int} (hb:0<b):(low t b).1*b=t*(low t b).2:=by
 obtain ⟨h1,h2⟩:=G9 (t:=t) hb;generalize gI t b=g at h1 h2;generalize low t b=f at h1 h2;rw [h1,h2]
 ac_rfl
theorem a2T {t b:Int} (hb:0<b):a9Y (low t b):=by
 refine ⟨R1 hb,?_⟩;obtain ⟨h1,h2⟩:=G9 (t:=t) hb;have hg:=S9 (a:=t) hb;have q:gI t b*gI (low t b).1 (low t b).2∣gI t b*1:=by
  rw [dD];refine a5W ?_ ?_
  ·have:=kU (gI t b) (J3 (low t b).1 (low t b).2)
   rw [<- h1] at this;exact this
  ·have:=kU (gI t b) (A6 (low t b).1 (low t b).2)
   rw [<- h2] at this;exact this
 have q2:gI (low t b).1 (low t b).2∣1:=Int.dvd_of_mul_dvd_mul_left (by omega) q;have q3:gI (low t b).1 (low t b).2=1:=a0A (V2 _ _) (by decide) q2 (Int.one_dvd _);unfold gI at q3;omega
theorem a0X {a b c:Int} (h:jE a b=1) (d:b∣a*c):b∣c:=by
 have h':Nat.Coprime b.natAbs a.natAbs:=by
  rw [Nat.coprime_comm]; exact h
 have d':b.natAbs∣a.natAbs*c.natAbs:=by rw [<- fR]; exact kW.mpr d
 exact kW.mp (h'.dvd_of_dvd_mul_left d')
theorem a4a {f g:Q2} (hf:a9Y f) (hg:a9Y g) (h:f.1*g.2=g.1*f.2):f=g:=by
 have d1:f.2∣g.2:=a0X hf.2 ⟨g.1,by rw [h,aR]⟩;have d2:g.2∣f.2:=a0X hg.2 ⟨f.1,by rw [<- h,aR]⟩;have e2:f.2=g.2:=a0A (aN hf.1) (aN hg.1) d1 d2;have e1:f.1=g.1:=by
  rw [e2] at h;exact gX (by have:=hg.1; omega) h
 exact Prod.ext e1 e2
theorem a8M {t b t' b':Int} (hb:0<b) (hb':0<b') (h:t*b'=t'*b):low t b=low t' b':=by
 refine a4a (a2T hb) (a2T hb') ?_;have c1:=X2 (t:=t) hb;have c2:=X2 (t:=t') hb';generalize low t b=x at c1 ⊢;generalize low t' b'=y at c2 ⊢;refine gX (a:=b*b') (by have:=dR hb hb'; omega) ?_
 calc x.1*y.2*(b*b')=(x.1*b)*(y.2*b'):=by ac_rfl
  _=(t*b')*(x.2*y.2):=by rw [c1]; ac_rfl
  _=(t'*y.2)*(b*x.2):=by rw [h]; ac_rfl
  _=(y.1*b')*(b*x.2):=by rw [c2]
  _=y.1*x.2*(b*b'):=by ac_rfl
theorem O3 {a m:Int} (ha:0<a) (hm:0<m) (h:m∣a):0<a / m/\m*(a / m)=a:=by
 have e:=jH h;refine ⟨?_,e⟩
 by_cases z:0<a / m
 ·exact z
 ·have:=cK (aN hm) (show 0 <= -(a / m) by omega)
  rw [dN] at this;omega
end Fr
namespace L2
open PySem PySem.Spec PyProof.Rows
abbrev a5S (X:Cx) (qual:Str) (scope:Scope) (f:Addr) (cd:Value) (C:Addr):Env:=W.envX qual scope C f cd (clo X.env scope.names [])
def a6N (X:Cx) (col:Str) (fr:List Nat) (qual:Str) (scope:Scope) (f:Addr) (cd:Value) (A':Around) (s₀:Shared) (H₀:Hp):Cx :=
  { X with N:=col::fr.map (λ j=>X.N.getD j ""),s₀:=s₀,H₀:=H₀,A:=A'.deeper (a5S X qual scope f cd s₀.heap.objs.size),env:=a5S X qual scope f cd s₀.heap.objs.size,outer:=X.stack,
           stack:=a5S X qual scope f cd s₀.heap.objs.size::X.stack,ex:=[],fn:=λ _=>false,pn:=[],xe:=λ _ _=>False }
section
variable {X:Cx} {pins:List (Addr×Obj)} {σ:St} {H:Hp} {s:Shared} {fr:List Nat} {scope:Scope} {col:Str} {qual:Str} {f:Addr} {cd:Value} {A':Around}
theorem T9 {env:Env} {l:List (Str×NameKind)} {x:Str} {c:Addr} (e:(clo env l []).lookup x=some c):env.cells.lookup x=some c:=a0e (cs:=[]) (λ _ _ z=>by simp at z) e
theorem Inv.lam {h₁:Heap} {t':Nat} {v:V} {u:Value} (I:Inv X pins σ H s) (hA:A'.frames=some X.stack) (hh:A'.handled=X.A.handled) (hk:scope.kind=.function) (h:X5 X.env.scope scope X.N fr=true)
  (hcell:∀ x∈scope.names,x.2≠.cell) (hcol:scope.names.lookup col=some .local) (hns:h₁.Ns s.heap.objs.size λ x=>[(col,u)].reverse.lookup x) (hkeep:∀ b o,s.heap.get? b=some o->h₁.get? b=some o) (r:RelV v u) :
  Inv (a6N X col fr qual scope f cd A' s H) [] (some v::frv fr σ) H { s with heap:=h₁,toks:=t' } where
 ok:={
  mod:=I.ok.mod
  kind:=hk
  glob:=rfl
  blt:=rfl
  above:=aF _
  inj:=λ x y c e1 e2=>I.ok.inj x y c (T9 e1) (T9 e2)
  has:=λ x hx=>by
   have hx':scope.names.lookup x=some .cell\/scope.names.lookup x=some .free:=hx;rcases hx' with e | e
   ·exact absurd rfl (hcell _ (G7 e))
   ·exact W4 (O7 I h x (G7 e)) (G7 e)
  cab:=λ x c hx=>by cases (show false=true from hx)
  hd:=λ z=>by
   show A'.handled=none
   rw [hh];exact I.ok.hd z
  frames:=Around.frames_deeper hA
  stk:=.inr ⟨rfl,rfl⟩
  exf:=λ b hb=>by cases (show b∈([]:List Addr) from hb)
  bs:=I.bs
  bsz:=bA I.ok.bsz I.sz
  noex:=λ b o _ hb=>by cases (show b∈([]:List Addr) from hb)
  exfs:=λ b hb=>by cases (show b∈([]:List Addr) from hb)
  funs:=I.stack
  frf:=I.stkFree }
 os:=rfl
 bare:=I.bare
 base:=Un.kept hkeep
 loc:=by
  refine ⟨_,hns,λ i x w e1 e2 _=>?_⟩
  cases i with
  | zero =>
   have hx:col=x:=aM e1;have hv:v=w:=aM (aM e2);subst hx;subst hv;exact ⟨u,r,.inl ⟨hcol,by simp [eQ]⟩⟩
  | succ i =>
   have e1':(fr.map λ j=>X.N.getD j "")[i]?=some x:=e1;have e2':(fr.map λ j=>(σ[j]?).join)[i]?=some (some w):=e2;rw [aE] at e1' e2'
   cases q:fr[i]? with
   | none=>rw [q] at e1'; cases e1'
   | some j =>
    rw [q] at e1' e2';have hj:j∈fr:=aU q;obtain ⟨hjl,hjc,hjf⟩:=b2k h j hj;have ex:X.N.getD j ""=x:=aM e1';have ev:(σ[j]?).join=some w:=aM e2';have hN:X.N[j]?=some x:=by
     rw [<- ex,aG,aD hjl]; rfl
    have hσ:σ[j]?=some (some w):=by
     cases r:σ[j]? with
     | none=>rw [r] at ev; cases ev
     | some y=>rw [r] at ev; exact congrArg some ev
    rw [ex] at hjc hjf;obtain ⟨m,_,hl⟩:=I.loc;obtain ⟨u',r',lk⟩:=hl j x w hN hσ (.inr (.inl hjc));refine ⟨u',r',?_⟩;have kc:Env.kindOf X.env x=some .cell:=hjc;rcases lk with ⟨k1,_⟩ | ⟨_,c,ec,o,ho',hd⟩
    ·rw [kc] at k1; cases k1
    ·obtain ⟨c',hc'⟩:=W4 (env:=X.env) (cs:=[]) ⟨c,ec⟩ (G7 hjf)
     have e3:=T9 hc';rw [ec] at e3
     cases e3;exact .inr ⟨.inr hjf,c,hc',o,hkeep _ _ ho',hd⟩
 cell:=λ x c e=>by
  obtain ⟨v,o,ho',hd⟩:=I.cell x c (T9 e);exact ⟨v,o,hkeep _ _ ho',hd⟩
 free:=I.hok.fresh (aF _)
 freeC:=λ x c e=>I.freeC x c (T9 e)
 pin:=λ p hp=>by cases (show p∈([]:List (Addr×Obj)) from hp)
 hok:=I.hok.kept hkeep
 len:=by simp [frv,a6N]
def Quiet (X:Cx) (H:Hp) (s s':Shared):Prop:=∀ b o,s.heap.get? b=some o->H b=none->b≠X.env.locals->b ∉ X.fs->s'.heap.get? b=some o
theorem a8J {params:Arguments} {body:Expr} {pm ctv:Value} {c':Addr} {v k:V} {u:Value} {t:TE} {Q:Value->Shared->Prop} {E:Value->Shared->Prop} (I:Inv X pins σ H s) (hA:A'.frames=some X.stack) (hh:A'.handled=X.A.handled)
  (hroom:A'.depth<recursionLimit) (hk:scope.kind=.function) (h:X5 X.env.scope scope X.N fr=true)
  (hcell:∀ x∈scope.names,x.2≠.cell) (hcol:scope.names.lookup col=some .local) (hco:scope.isCoroutine=false) (hgen:scope.isGenerator=false)
  (hf:s.heap.get? f=some (W.kla_obj "<lambda>" qual params body scope (clo X.env scope.names []) pm c' ctv)) (hcd:s.heap.CodeRec (.ref c') qual)
  (hb:∀ u:Value,bindArgs (W.kla_fn "<lambda>" qual params body scope (clo X.env scope.names []) pm (.ref c') ctv) ⟨[u],[]⟩=pure [(col,u)])
  (hbody:PE (a6N X col fr qual scope f (.ref c') A' s H) body t) (r:RelV v u) (ht:t (some v::frv fr σ) H λ y H'=>y=k/\H'=H)
  (q:∀ y s',RelV k y->Inv X pins σ H s'->Quiet X H s s'->Q y s'):wpAny (model X.prog X.w) A' (call (.ref f) [u]) Q E s:=by
 refine wpAny_call (W.kla_callFunE hroom hf rfl hco hgen rfl hcd ?_);rw [hb u];refine wpAny_pure (wpAny_newFunctionEnv hcell (λ y hy=>?_) (λ h₁ hns hsb=>?_) hk)
 ·rw [bH.mp hy]; exact hcol
 ·have hk₁:∀ b o,s.heap.get? b=some o->h₁.get? b=some o:=λ b o e=>hsb.extBut b o (bD (Heap.lt_size e)) (Heap.get?_push_of_some _ e)
  refine ⟨I.nolimit.keeps hk₁,W.kla_codeExpr ?_⟩;have J:=I.lam (qual:=qual) (f:=f) (cd:=.ref c') (t':=s.toks+[(col,u)].length) hA hh hk h hcell hcol hns hk₁ r;refine wpAny_mono (hbody [] _ _ _ _ J ht) (λ y s' hy=>?_) λ e s' z=>dB z;obtain ⟨w,H',J',rw',rfl,rfl⟩:=hy;have J2:Inv X pins σ H' s':=I.call' (ch:=[]) J'.os J'.base J'.hok J'.bare λ b hb=>by cases hb
  refine q y s' rw' J2 λ b o e n n1 n2=>?_;refine J'.base.keep b o e n (λ z=>?_) (by intro z; cases z);rcases aL.mp (I.stkSub b z) with w | w
  ·exact n1 w
  ·exact n2 w
end
def S4 (mg:Str->Option Value) (base:Heap):Prop:=∃ bm ob,mg "__builtins__"=some (.ref bm)/\bm≠builtinsNs/\base.get? bm=some ob/\ob.cls=.type "module"/\ob.dict=some builtinsNs/\ob.data=.plain
abbrev a2N (c:Addr) (qual:Str):HO:=.ext λ h=>h.CodeRec (.ref c) qual
def LamTab (P:Addr) (pos:Pos) (qual:Str) (H:Hp):Prop :=
 H P=some (.tbl #[])\/∃ c',H P=some (.tbl #[rawInt pos.line,rawInt pos.col,.ref c'])/\H c'=some (a2N c' qual)
def Same1 (P:Addr) (H H':Hp):Prop:=∀ b o,b≠P->H b=some o->H' b=some o
theorem LamTab.same {P:Addr} {pos:Pos} {qual:Str} {H H':Hp} (T:LamTab P pos qual H) (h:∀ b o,H b=some o->H' b=some o):LamTab P pos qual H':=by
 rcases T with e | ⟨c,e1,e2⟩
 ·exact .inl (h _ _ e)
 ·exact .inr ⟨c,h _ _ e1,h _ _ e2⟩
section
variable {X:Cx} {pins:List (Addr×Obj)} {σ:St} {H:Hp} {s:Shared} {fr:List Nat} {scope:Scope} {qual:Str} {c P:Addr} {params:Arguments} {body:Expr} {pos:Pos}
theorem b0j {K:Program} {w:World} {H:Hp} {h:Heap} {c:Addr} {o:Obj} (e:h.get? c=some o) (r:h.CodeRec (.ref c) qual):ObjOk K w H h c (a2N c qual) :=
 ⟨r,⟨o,e⟩,λ h1 h2 ⟨c',o',vs,t,z,g,q⟩ k=>by
  have z':c=c':=Value.ref.inj z;subst z';exact ⟨c,o',vs,t,rfl,k _ g,q⟩⟩
theorem Inv.grown {h':Heap} {t':Nat} {ps more:Array Value} {c':Addr} (I:Inv X pins σ H s) (hP:H P=some (.tbl ps)) (hx:Heap.ExtBut P s.heap h') (hge:s.heap.objs.size<=c') (hcr:h'.CodeRec (.ref c') qual)
  (htb:h'.get? P=some { cls:=.none,data:=.fields (ps++more) }):Inv X pins σ (upd (upd H P (.tbl (ps++more))) c' (a2N c' qual)) { s with heap:=h',toks:=t' }:=by
 have hPl:P<s.heap.objs.size:=I.hok.lt hP;have hPc:P≠c':=bD (aZ hPl hge);have hcn:H c'=none:=I.hok.fresh hge;have atP:upd (upd H P (.tbl (ps++more))) c' (a2N c' qual) P=some (.tbl (ps++more)):=by rw [d0 hPc,upd_same]
 have nP:∀ b o,H b=some o->(∀ qs,o≠.tbl qs)->upd (upd H P (.tbl (ps++more))) c' (a2N c' qual) b=some o:=λ b o e n=>by
  rw [d0 (i8 e hcn),d0 (λ z=>by subst z; rw [e] at hP; exact n _ (aM hP))];exact e
 have neP:∀ b,H b=none->b≠P:=λ b n z=>by subst z; rw [hP] at n; cases n
 obtain ⟨cc,oc,vs,tt,z,gc,gr⟩:=id hcr;have z':c'=cc:=Value.ref.inj z;subst z';refine I.un ⟨λ b o e n _ _=>hx b o (neP b n) e,λ b o e n _ _=>⟨o.slots,hx b o (neP b n) e⟩,λ b o e n _=>?_,λ b o e _=>?_,λ b xs e=>nP b _ e (λ _=>nofun),λ b o u e=>nP b _ e (λ _=>nofun),λ b qs e=>?_⟩ λ b u e=>?_
 ·rw [d0 (bD (aZ (Heap.lt_size e) hge)),d0 (neP b n)]; exact n
 ·by_cases hb:b=P
  ·subst hb; exact ⟨_,htb⟩
  ·exact ⟨o,hx b o hb e⟩
 ·by_cases hb:b=P
  ·subst hb
   rw [e] at hP
   cases hP;exact ⟨more,atP⟩
  ·refine ⟨#[],?_⟩
   rw [d0 (i8 e hcn),d0 hb,e]; simp
 ·by_cases hb:b=c'
  ·subst hb
   rw [upd_same] at e
   cases e;exact b0j gc hcr
  ·rw [d0 hb] at e
   by_cases hb2:b=P
   ·subst hb2
    rw [upd_same] at e
    cases e;exact htb
   ·rw [d0 hb2] at e
    refine (I.hok b u e).stay (λ d v hd g=>hx d v (λ z=>?_) g) (λ d g=>nP d _ g λ _=>nofun) λ d xs g=>nP d _ g λ _=>nofun;subst z;rcases hd with w | w
    ·exact hb2 w.symm
    ·rw [hP] at w; cases w
theorem b0m {Q:Value->Shared->Prop} {E:Value->Shared->Prop} (I:Inv X pins σ H s) (hcode:X.env.code=.ref c) (C:W.CodeHd X.base c P) (B:S4 X.mg X.base) (T:LamTab P pos (X.env.qual++"<lambda>") H)
  (h:X5 X.env.scope scope X.N fr=true) (hdef:defaultsOf params X.env=([],[]))
  (q:∀ f c' ctv pm H' s',Inv X ((f,W.kla_obj "<lambda>" (X.env.qual++"<lambda>") params body scope (clo X.env scope.names []) pm c' ctv)::pins) σ H' s'->LamTab P pos (X.env.qual++"<lambda>") H'->Same1 P H H' →
   H' c'=some (a2N c' (X.env.qual++"<lambda>"))->(∀ b,b<s.heap.objs.size->H b=none->H' b=none)->Q (.ref f) s') :
  wpAny (model X.prog X.w) X.A (eval (.Lambda params body scope pos) X.env) Q E s:=by
 have hcl:=C7 (O7 I h);have hg:s.heap.Ns mainGlobals X.mg:=I.mod.glob.keeps I.bk;obtain ⟨bm,ob,b1,b2,b3,b4,b5,b6⟩:=B;have Pg:∀ ps,s.heap.get? P=some (W.tabObj ps)->mainGlobals≠P:=λ ps e z=>by
  obtain ⟨o,es,ep,e1,hd,_⟩:=hg;rw [z,e] at e1; cases e1; cases hd
 have Pb:∀ ps,s.heap.get? P=some (W.tabObj ps)->bm≠P:=λ ps e z=>by
  have e1:=I.bk _ _ b3;rw [z,e] at e1; cases e1; cases b4
 have bg:bm≠mainGlobals:=λ z=>by
  obtain ⟨o,es,ep,e1,hd,_⟩:=I.mod.glob;rw [z,e1] at b3; cases b3; rw [hd] at b6; cases b6
 refine W.kla_eval hdef ?_;rcases T with T | ⟨c',T,Tc⟩
 ·have hP:s.heap.get? P=some (W.tabObj #[]):=I.hok P _ T
  refine W.kla_makeFunction (mg:=X.mg) hcl I.ok.glob hg hcode (C.keeps I.bk) hP trivial rfl (Pg _ hP) ⟨bm,ob,b1,b2,bg,Pb _ hP,I.bk _ _ b3,b4,b5,b6⟩ λ c' ctv h' tk hx hge hlt hrec htb=>?_;have J:=I.grown (t':=tk) (more:=#[rawInt pos.line,rawInt pos.col,.ref c']) T hx hge hrec htb;have hsz:s.heap.objs.size<=h'.objs.size:=bA hge (cP hlt);have hPl:P<s.heap.objs.size:=I.hok.lt T;have J2:=J.kept (h':=h'.push (W.kla_obj "<lambda>" (X.env.qual++"<lambda>") params body scope (clo X.env scope.names []) ((X.mg "__name__").getD .none) c' ctv)) (t':=tk) λ b u e=>Heap.get?_push_of_some _ e;have hPc:P≠c':=bD (aZ hPl hge);refine q _ c' ctv ((X.mg "__name__").getD .none) _ _ (J2.pins_of λ p hp=>?_) (.inr ⟨c',?_,upd_same⟩) (λ b o hb e=>?_) upd_same λ b hb e=>?_
  ·rcases aL.mp hp with rfl | hp
   ·refine ⟨Heap.get?_push_size _ rfl,J.hok.fresh (aF _),cU (aZ I.lt hsz),I.nofs hsz,λ v=>nofun⟩
   ·exact J2.pin p (cF _ hp)
  ·rw [d0 hPc,upd_same]; rfl
  ·rw [d0 (i8 e (I.hok.fresh hge)),d0 hb]; exact e
  ·rw [d0 (bD (aZ hb hge)),d0 (λ z=>by rw [z,T] at e; cases e)]; exact e
 ·have hP:s.heap.get? P=some (W.tabObj #[rawInt pos.line,rawInt pos.col,.ref c']):=I.hok P _ T
  have hf:codeAmong pos (#[rawInt pos.line,rawInt pos.col,Value.ref c']).toList=some (.ref c'):=by
   show codeAmong pos ([]++[rawInt pos.line,rawInt pos.col,Value.ref c'])=_
   exact codeAmong_snoc [] trivial rfl
  refine W.kla_makeFunctionHit (mg:=X.mg) hcl I.ok.glob hg hcode (C.keeps I.bk) hP trivial hf ⟨bm,ob,b1,b2,bg,Pb _ hP,I.bk _ _ b3,b4,b5,b6⟩ λ ctv h' tk hk hsz=>?_;have J:=I.kept (h':=h') (t':=tk) hk;have J2:=J.kept (h':=h'.push (W.kla_obj "<lambda>" (X.env.qual++"<lambda>") params body scope (clo X.env scope.names []) ((X.mg "__name__").getD .none) c' ctv)) (t':=tk) λ b u e=>Heap.get?_push_of_some _ e;refine q _ c' ctv ((X.mg "__name__").getD .none) _ _ (J2.pins_of λ p hp=>?_) (.inr ⟨c',T,Tc⟩) (λ b o hb e=>e) Tc λ b hb e=>e;rcases aL.mp hp with rfl | hp
  ·exact ⟨Heap.get?_push_size _ rfl,J.hok.fresh (aF _),cU (aZ I.lt hsz),I.nofs hsz,λ v=>nofun⟩
  ·exact J2.pin p (cF _ hp)
end
section
variable {X:Cx} {pins:List (Addr×Obj)} {σ:St} {H:Hp} {l It S fq:Addr} {ns:List Int} {g:Int->Int} {R:Result->Shared->Prop}
theorem Quiet.fp {s s':Shared} {b:Addr} {o:Obj} (k:Quiet X H s s') (f:Q7 X pins H b) (e:s.heap.get? b=some o):s'.heap.get? b=some o:=k b o e f.1 f.2.1 f.2.2.1
theorem Inv.fpTurn {s:Shared} {h':Heap} {t':Nat} {b:Addr} (I:Inv X pins σ H s) (f:Q7 X pins H b) (k:∀ c o,c≠b->s.heap.get? c=some o->h'.get? c=some o):Inv X pins σ H { s with heap:=h',toks:=t' } :=
 I.turned k f.1 f.2.1 f.2.2.2.1 f.2.2.2.2.1 f.2.2.2.2.2
def b3s (ns:List Int) (g:Int->Int) (j:Nat) (cont:List Value):Prop :=
 (cont=[]/\j=0)\/∃ M vb kb,cont=[vb,kb]/\M∈ns/\RelV (.int M) vb/\RelV (.int (g M)) kb/\∀ a∈ns.take j,g M<=g a
abbrev a8T (X:Cx) (pins:List (Addr×Obj)) (σ:St) (H:Hp) (fq:Addr) (ns:List Int) (g:Int->Int):Prop :=
 ∀ n∈ns,∀ (u:Value) (s:Shared) (Q:Value->Shared->Prop) (E:Value->Shared->Prop),Inv X pins σ H s->RelV (.int n) u →
  (∀ y s',RelV (.int (g n)) y->Inv X pins σ H s'->Quiet X H s s'->Q y s')->wpAny (model X.prog X.w) X.A.in1 (call (.ref fq) [u]) Q E s
theorem b1D (hc:X.calm=true) (hl:SqL X.K H l (ns.map V.int)) (turn:a8T X pins σ H fq ns g) (fI:Q7 X pins H It) (fS:Q7 X pins H S) (hIS:It≠S) (hIl:l≠It)
  (hN:ns=[]->∀ s',Inv X pins σ H s'->R (.ok (.ret .none)) s') (hR:∀ M∈ns,(∀ a∈ns,g M<=g a)->∀ y s',RelV (.int M) y->Inv X pins σ H s'->R (.ok (.ret y)) s') :
  ∀ (r j:Nat) (s:Shared) (cont:List Value) (cn:Nat),ns.length - j=r->j<=ns.length->Inv X pins σ H s->s.heap.IsListIter It l j->s.heap.get? S=some (seqObj "list" cont.toArray cn)->b3s ns g j cont →
   codeAny (model X.prog X.w) X.A (.builtin "min.loop" ⟨[.ref It,.ref fq,.ref S],[("default",.none)]⟩) R s:=by
 have nm:(toString "min"++toString ".loop":String)="min.loop":=by decide
 have hh:∀ {s:Shared},Inv X pins σ H s->X.A.in1.handled=none:=λ I=>I.ok.hd hc;intro r
 induction r with
 | zero =>
  intro j s cont cn hr hj I hit hS hb;have hjn:j=ns.length:=by omega
  obtain ⟨its,rv,pl,hz⟩:=I.list hl;have W:=Walks.list (prog:=X.prog) (w:=X.w) (A:=X.A.in1) (hh I) It l hIl its.toArray;have hsz:its.toArray.size=ns.length:=by rw [bM,<- rv.length,aA]
  refine codeAny_builtin F.entry_min_loop ?_; rw [Around.under_plainId F.plain_min_loop _];refine wpAny_bind (wpAny_seqItems hS rfl ?_);rcases hb with ⟨rfl,rfl⟩ | ⟨M,vb,kb,rfl,hM,rM,rK,best⟩
  ·show wpAny _ X.A.in1 (tryCatch (pyNext (.ref It)) _ >>= _) _ _ _
   refine wpAny_bind (wpAny_tryCatch (W.done _ _ _ ⟨by rw [hsz,<- hjn]; exact hit,pl.isList⟩ λ h' tk' hk'=>?_));have J:=I.fpTurn (h':=h') (t':=tk') fI λ c o n e=>hk' c o (by simpa using n) e
   show wpAny _ X.A.in1 (rule _ >>= _) _ _ _
   exact wpAny_bind (wpAny_rule (wpAny_pure (hN (List.length_eq_zero_iff.mp hjn.symm) _ J)))
  ·show wpAny _ X.A.in1 (tryCatch (pyNext (.ref It)) _ >>= _) _ _ _
   refine wpAny_bind (wpAny_tryCatch (W.done _ _ _ ⟨by rw [hsz,<- hjn]; exact hit,pl.isList⟩ λ h' tk' hk'=>?_));have J:=I.fpTurn (h':=h') (t':=tk') fI λ c o n e=>hk' c o (by simpa using n) e;have hS':=hk' S _ (by simpa using hIS.symm) hS;have s1:=Heap.SameBut.update h' S (Obj.mapSeq λ _=>(#[]:Array Value))
   show wpAny _ X.A.in1 (updateSeq S (λ _=>#[]) >>= _) _ _ _
   refine wpAny_bind (wpAny_updateSeq hS' rfl (wpAny_bind (wpAny_letGo (wpAny_pure ?_))));exact hR M hM (λ a ha=>best a (by rw [hjn,List.take_length]; exact ha)) vb _ rM (J.fpTurn fS λ c o n e=>(s1.2 c n).trans e)
 | succ r ih =>
  intro j s cont cn hr hj I hit hS hb;have hlt:j<ns.length:=by omega
  obtain ⟨its,rv,pl,hz⟩:=I.list hl;have W:=Walks.list (prog:=X.prog) (w:=X.w) (A:=X.A.in1) (hh I) It l hIl its.toArray;have hsz:its.toArray.size=ns.length:=by rw [bM,<- rv.length,aA]
  refine codeAny_builtin F.entry_min_loop ?_; rw [Around.under_plainId F.plain_min_loop _];refine wpAny_bind (wpAny_seqItems hS rfl ?_);have go:∀ (old:List Value) (kx:Value->Sem (Option Value)) (B:Option Value->Sem jC) (Q:jC->Shared->Prop) (E:Value->Shared->Prop),
    (∀ v h' tk',RelV (.int ns[j]) v->Inv X pins σ H { s with heap:=h',toks:=tk' }->h'.IsListIter It l (j+1)->h'.get? S=some (seqObj "list" cont.toArray cn)->wpAny (model X.prog X.w) X.A.in1 (B (some v)) Q E { s with heap:=h',toks:=tk' }) →
    wpAny (model X.prog X.w) X.A.in1 (tryCatch (pyNext (.ref It)) kx >>= B) Q E s:=by
   intro old kx B Q E hB;refine wpAny_bind (wpAny_tryCatch (W.item j _ _ _ (by rw [hsz]; exact hlt) ⟨hit,pl.isList⟩ λ v h' tk' hP hst' hk'=>?_));have hv:(ns.map V.int)[j]?=some (V.int ns[j]):=by rw [aE,aD hlt]; rfl
   obtain ⟨u,hu,ru⟩:=rv.get hv;have hP':its[j]?=some v:=by simpa using hP
   rw [hu] at hP'
   cases hP';exact hB _ h' tk' ru (I.fpTurn fI λ c o n e=>hk' c o (by simpa using n) e) hst'.1 (hk' S _ (by simpa using hIS.symm) hS)
  have hn:ns[j]∈ns:=cS hlt;have tk1:∀ a∈ns.take (j+1),a∈ns.take j\/a=ns[j]:=λ a ha=>by
   rw [kQ hlt] at ha;rcases aT.mp ha with z | z
   ·exact .inl z
   ·exact .inr (bH.mp z)
  rcases hb with ⟨rfl,rfl⟩ | ⟨M,vb,kb,rfl,hM,rM,rK,best⟩
  ·show wpAny _ X.A.in1 (tryCatch (pyNext (.ref It)) _ >>= _) _ _ _
   refine go [] _ _ _ _ λ v h' tk' rv' J hit' hS'=>?_
   show wpAny _ X.A.in1 (tryCatch (holding [v] (call (.ref fq) [v])) _ >>= _) _ _ _
   refine wpAny_bind (wpAny_tryCatch (wpAny_holding (turn _ hn v _ _ _ J rv' λ y s2 ry J2 qu=>?_)));have hS2:=qu.fp fS hS';obtain ⟨oI,hoI,hoc,hod⟩:=hit';have hI2:=qu.fp fI hoI;have s1:=Heap.SameBut.update s2.heap S (Obj.mapSeq λ _=>#[v,y]);obtain ⟨c2,hc2⟩:∃ c2,(s2.heap.update S (Obj.mapSeq λ _=>#[v,y])).get? S=some (seqObj "list" #[v,y] c2):=⟨_,get?_update_seq hS2 λ _=>#[v,y]⟩
   show wpAny _ X.A.in1 (updateSeq S (λ _=>#[v,y]) >>= _) _ _ _
   refine wpAny_bind (wpAny_updateSeq hS2 rfl ?_);rw [nm];refine wpAny_pure ⟨plainId_quiet F.plain_min_loop _,ih (0+1) _ [v,y] c2 (by omega) hlt (J2.fpTurn fS λ c o n e=>(s1.2 c n).trans e) ⟨oI,(s1.2 It hIS).trans hI2,hoc,hod⟩ hc2 (.inr ⟨ns[0],v,y,rfl,hn,rv',ry,λ a ha=>?_⟩)⟩;rcases tk1 a ha with z | z
   ·simp at z
   ·rw [z]; exact bO _
  ·show wpAny _ X.A.in1 (tryCatch (pyNext (.ref It)) _ >>= _) _ _ _
   refine go [] _ _ _ _ λ v h' tk' rv' J hit' hS'=>?_
   show wpAny _ X.A.in1 (tryCatch (holding [v] (call (.ref fq) [v])) _ >>= _) _ _ _
   refine wpAny_bind (wpAny_tryCatch (wpAny_holding (turn _ hn v _ _ _ J rv' λ y s2 ry J2 qu=>?_)));have hS2:=qu.fp fS hS';obtain ⟨oI,hoI,hoc,hod⟩:=hit';have hI2:=qu.fp fI hoI;obtain ⟨t2,rfl⟩:=ry;obtain ⟨tb,rfl⟩:=rK
   show wpAny _ X.A.in1 (tryCatch (holding [v,.int (g ns[j]) t2] (richCompare .Lt (.int (g ns[j]) t2) (.int (g M) tb) >>= _)) _ >>= _) _ _ _
   refine wpAny_bind (wpAny_tryCatch (wpAny_holding (wpAny_bind (CmpOf.ints_lt (prog:=X.prog) (w:=X.w) (A:=X.A.in1) (P:=λ i v=>∃ t,v=.int ([g ns[j],g M].getD i 0) t) (λ i=>[g ns[j],g M].getD i 0) (λ i v h=>h) 0 1 _ _ _ _ _ ⟨t2,rfl⟩ ⟨tb,rfl⟩ ?_))));refine wpAny_bind (wpAny_holding (wpAny_truthy_bool (wpAny_bind (wpAny_letGo (wpAny_pure ?_)))));have e01:(λ i j_1=>decide ([g ns[j],g M].getD i 0<[g ns[j],g M].getD j_1 0)) 0 1=decide (g ns[j]<g M):=rfl;rw [e01]
   by_cases hb':g ns[j]<g M
   ·have s1:=Heap.SameBut.update s2.heap S (Obj.mapSeq λ _=>#[v,.int (g ns[j]) t2])
    obtain ⟨c2,hc2⟩:∃ c2,(s2.heap.update S (Obj.mapSeq λ _=>#[v,.int (g ns[j]) t2])).get? S=some (seqObj "list" #[v,.int (g ns[j]) t2] c2):=⟨_,get?_update_seq hS2 λ _=>#[v,.int (g ns[j]) t2]⟩;simp only [hb',decide_true,if_true];refine wpAny_bind (wpAny_updateSeq hS2 rfl (wpAny_bind (wpAny_letGo ?_)));rw [nm];refine wpAny_pure ⟨plainId_quiet F.plain_min_loop _,ih (j+1) _ [v,.int (g ns[j]) t2] c2 (by omega) hlt (J2.fpTurn fS λ c o n e=>(s1.2 c n).trans e) ⟨oI,(s1.2 It hIS).trans hI2,hoc,hod⟩ hc2 (.inr ⟨ns[j],v,_,rfl,hn,rv',⟨t2,rfl⟩,λ a ha=>?_⟩)⟩;rcases tk1 a ha with z | z
    ·have:=best a z; omega
    ·rw [z]; exact bO _
   ·simp only [hb',decide_false,kL,if_false]
    refine wpAny_bind (wpAny_letGo ?_);rw [nm];refine wpAny_pure ⟨plainId_quiet F.plain_min_loop _,ih (j+1) _ [vb,.int (g M) tb] cn (by omega) hlt J2 ⟨oI,hI2,hoc,hod⟩ hS2 (.inr ⟨M,vb,_,rfl,hM,rM,⟨tb,rfl⟩,λ a ha=>?_⟩)⟩;rcases tk1 a ha with z | z
    ·exact best a z
    ·rw [z]; omega
theorem b0P {s:Shared} {Q:Value->Shared->Prop} {E:Value->Shared->Prop} (hc:X.calm=true) (I:Inv X pins σ H s) (hl:SqL X.K H l (ns.map V.int)) (turn:a8T X pins σ H fq ns g)
  (hN:ns=[]->∀ s',Inv X pins σ H s'->Q .none s') (hR:∀ M∈ns,(∀ a∈ns,g M<=g a)->∀ y s',RelV (.int M) y->Inv X pins σ H s'->Q y s') :
  wpAny (model X.prog X.w) X.A (call (.builtin "min") [.ref l] [("key",.ref fq),("default",.none)]) Q E s:=by
 have nm:(toString "min"++toString ".loop":String)="min.loop":=by decide
 have ha:argsOk "min" ⟨[.ref l],[("key",.ref fq),("default",.none)]⟩:=by unfold argsOk; rfl
 obtain ⟨its,rv,pl,hz⟩:=I.list hl;have hlt:l<s.heap.objs.size:=by obtain ⟨_,e,_⟩:=pl.isList; exact Heap.lt_size e
 refine kmk_tree F.kind_min F.plain_min F.entry_min ha ?_
 show wpAny _ X.A.in1 (Builtin.Builtins.bindParams "min" ["key","default"] 0 ⟨[],[("key",.ref fq),("default",.none)]⟩ >>= _) _ _ s
 refine wpAny_bind (wpAny_of_eq (show Builtin.Builtins.bindParams "min" ["key","default"] 0 ⟨[],[("key",.ref fq),("default",.none)]⟩=pure [some (.ref fq),some .none] from rfl) (wpAny_bind (wpAny_pure ?_)));refine wpAny_bind (wpAny_pyIter_list pl.isList (wpAny_bind (wpAny_newList ?_ (bW _))));rw [nm];have I1:=I.kept (h':=s.heap.push { cls:=.type "list_iterator",data:=.fields #[.ref l,.int 0 0] }) (t':=s.toks) λ b u e=>Heap.get?_push_of_some _ e;have I2:=I1.kept (h':=(s.heap.push { cls:=.type "list_iterator",data:=.fields #[.ref l,.int 0 0] }).push (seqObj "list" #[] 0)) (t':=s.toks) λ b u e=>Heap.get?_push_of_some _ e;have hS:(s.heap.push { cls:=.type "list_iterator",data:=.fields #[.ref l,.int 0 0] }).objs.size=s.heap.objs.size+1:=size_push' ..;have fI:Q7 X pins H s.heap.objs.size:=I.fpOk (aF _) (I.hok.fresh (aF _));have fS:Q7 X pins H (s.heap.push { cls:=.type "list_iterator",data:=.fields #[.ref l,.int 0 0] }).objs.size:=I.fpOk (by rw [hS]; omega) (I.hok.fresh (by rw [hS]; omega));refine wpAny_pure ⟨plainId_quiet F.plain_min_loop _,b1D hc hl turn fI fS (bD (by rw [hS]; exact eH _)) (bD hlt) hN hR _ 0 _ [] 0 rfl (bW _) I2 ⟨_,Heap.get?_push_of_some _ (Heap.get?_push_size _ rfl),rfl,rfl⟩ (Heap.get?_push_size _ rfl) (.inl ⟨rfl,rfl⟩)⟩
end
theorem SqL.same1 {K:W.Frag} {P:Addr} {pos:Pos} {qual:Str} {H H':Hp} {a:Addr} {xs:List V} (T:LamTab P pos qual H) (e:Same1 P H H') (h:SqL K H a xs):SqL K H' a xs:=by
 have ne:∀ o,H a=some o->(∀ ps,o≠.tbl ps)->a≠P:=λ o q n z=>by
  subst z;rcases T with t | ⟨c,t,_⟩
  ·rw [q] at t; exact n _ (aM t)
  ·rw [q] at t; exact n _ (aM t)
 rcases h with (h | ⟨o,h⟩) | h
 ·exact .inl (.inl (e _ _ (ne _ h λ _=>nofun) h))
 ·exact .inl (.inr ⟨o,e _ _ (ne _ h λ _=>nofun) h⟩)
 ·exact .inr h
def b0T (K:W.Frag) (P:Addr) (lpos:Pos) (qual:Str) (fr:List Nat) (t:TA) (tb:TE):TE:=λ σ H Q=>t σ H λ vs H1=>∃ (l:Addr) (ns:List Int) (g:Int->Int),vs=[.ref l]/\SqL K H1 l (ns.map V.int)/\LamTab P lpos qual H1 ∧
 ∀ H2,Same1 P H1 H2->LamTab P lpos qual H2->(∀ n∈ns,tb (some (.int n)::frv fr σ) H2 λ y H'=>y=.int (g n)/\H'=H2)/\(ns=[]->Q .non H2)/\∀ M∈ns,(∀ a∈ns,g M<=g a)->Q (.int M) H2
section
variable {X:Cx} {e body:Expr} {es:List Expr} {t:TA} {tb:TE} {fr:List Nat} {scope:Scope} {col:Str} {c P:Addr} {params:Arguments} {p pos lpos kp1 kp2 cp:Pos} {cj:Nat}
theorem a8m (hc:X.calm=true) (hr:Room 2 X.A) (hg:Gl X "min") (hm:X.mg "min"=none) (hcode:X.env.code=.ref c) (C:W.CodeHd X.base c P) (B:S4 X.mg X.base) (hlc:X5 X.env.scope scope X.N fr=true) (hk:scope.kind=.function)
  (hcell:∀ x∈scope.names,x.2≠.cell) (hcol:scope.names.lookup col=some .local) (hco:scope.isCoroutine=false) (hgen:scope.isGenerator=false)
  (hb:∀ (pm ctv:Value) (c':Addr) (u:Value),bindArgs (W.kla_fn "<lambda>" (X.env.qual++"<lambda>") params body scope (clo X.env scope.names []) pm (.ref c') ctv) ⟨[u],[]⟩=pure [(col,u)])
  (ha:PA X [e] t) (hbody:∀ (f:Addr) (cd:Value) (s:Shared) (H:Hp),PE (a6N X col fr (X.env.qual++"<lambda>") scope f cd X.A.in1 s H) body tb) (hdef:defaultsOf params X.env=([],[]):=by rfl)
  (he:backTo pos (starEach [e] X.env)=(false,eval e X.env)::backTo pos (starEach [] X.env):=by rfl) (hpl:(backTo pos (starEach [e] X.env)).any (·.1)=false:=by rfl) :
  PE X (.Call (.Name "min" p) [e] [⟨some "key",.Lambda params body scope lpos,kp1⟩,⟨some "default",.Constant .none cj cp,kp2⟩] pos) (b0T X.K P lpos (X.env.qual++"<lambda>") fr t tb):=by
 intro pins s σ H Q I h;refine wpAny_Call_Name_kw (S5 I hg hm (u:=.builtin "min") rfl ?_);refine nX (B6 (ha pos pins s σ H _ I h) λ us s1 ⟨vs,H1,I1,r,l,ns,g,ev,hl,T,q⟩=>?_) he hpl;subst ev;obtain ⟨u,rfl,ru⟩:=N9 r
 cases ru
 show wpAny _ _ (evalAll [(do let v <- eval (.Lambda params body scope lpos) X.env; standAt pos; pure v),(do let v <- eval (.Constant .none cj cp) X.env; standAt pos; pure v)]) _ _ s1
 refine wpAny_evalAll_cons (wpAny_bind (b0m I1 hcode C B T hlc hdef λ f c' ctv pm H2 s2 I2 T2 e2 Hc' _=>wpAny_bind (wpAny_standAt (wpAny_pure ?_))));refine wpAny_evalAll_cons (wpAny_bind (Constant_none (wpAny_bind (wpAny_standAt (wpAny_pure (wpAny_evalAll_nil ?_))))));obtain ⟨q1,q2,q3⟩:=q H2 e2 T2;have hl2:=hl.same1 T e2;have drop:∀ {po:Addr×Obj} {s'},Inv X (po::pins) σ H2 s'->Inv X pins σ H2 s':=λ J=>J.pins_of λ p hp=>J.pin p (cF _ (bL _ hp));have hd':X.A.in1.depth<recursionLimit:=by
  have z:X.A.in1.depth+3*1+5<recursionLimit:=hr.in1.dp;omega
 refine b0P (g:=g) hc I2 hl2 (λ n hn u s3 Q3 E3 I3 ru k3=>?_) (λ en s3 I3=>⟨.non,H2,drop I3,rfl,q2 en⟩) λ M hM hmin y s3 ry I3=>⟨.int M,H2,drop I3,ry,q3 M hM hmin⟩;obtain ⟨cr,_,_⟩:=I3.hok c' _ Hc';exact a8J (k:=.int (g n)) I3 I3.ok.frames rfl hd' hk hlc hcell hcol hco hgen (I3.pin _ (cF _ cJ)).1 cr (hb pm ctv c') (hbody f (.ref c') s3 H2) ru (q1 n hn) k3
end
section
variable {X:Cx} {os:List Str} {fr:List Nat} {scope:Scope} {elt tg iter:Expr} {pos:Pos} {wi:TI} {g:TG} {te:TE}
theorem a6m {c:Expr} {tc:TT} {i:Nat} {x:Str} {pos' spos:Pos} (os:List Str) (fr:List Nat) (hN:X.N.Nodup) (hi':X.N[i]?=some x) (hx:X.env.scope.names.lookup x=some .local)
  (hc:X.calm=true) (hi:PI X tg iter wi) (hg:∀ C fp s₀ H₀,PG (R7 X os fr scope C fp s₀ H₀) tg g) (ht:∀ C fp s₀ H₀,PT (R7 X os fr scope C fp s₀ H₀) c tc) (he:∀ C fp s₀ H₀,PE (R7 X os fr scope C fp s₀ H₀) elt te)
  (hsw:swapsWith (.ListComp elt [⟨tg,iter,[c],0⟩] scope pos) (some (.Name x pos')) spos.line X.env=pure true:=by rfl)
  (hk:scope.kind=.function:=by rfl) (hok:X5 X.env.scope scope X.N fr=true:=by rfl) (hs:∀ x,foldedSetIterable iter X.env x=pure x:=by intro _; rfl) :
  PS X (.Assign [.Name x pos'] (.ListComp elt [⟨tg,iter,[c],0⟩] scope pos) spos) (a4K (b4X os.length fr wi g tc te) (K5 i)):=by
 intro pins s σ H D I h;unfold a4K at h;rw [exec_Assign_Name_used _ _ _ _ hsw];refine wpAny_bind (wpAny_standAt (wpAny_bind ?_))
 show wpAny _ X.A (do let _ <- comprehension (.ListComp elt [⟨tg,iter,[c],0⟩] scope pos) scope X.env _ (newList []) false (eval iter X.env) (some (assign (.Name x pos') X.env))) _ _ s
 refine wpAny_bind (wpAny_mono (wpAny_comprehension_free (use:=some (assign (.Name x pos') X.env)) (Q:=λ _ s'=>SP X pins D .next s') rfl hs (C7 (O7 I hok)) hk (λ x hx hl=>by have:=(M5 hok x hx).1; rw [hl] at this; exact this)
  (B6 (hi pins s σ H _ I h) λ v s1 h1=>B6 h1 λ itv s2 h2=>?_)) (λ _ s' hq=>wpAny_pure (wpAny_pure hq)) λ _ _ e=>e)
 refine a0b (os:=os) (D:=λ p H'=>D.nx (σ.set i (some (.ref p))) H') (RR:=λ acc C=>compPost (model X.prog X.w) X.A X.xe (some (assign (.Name x pos') X.env)) (λ _ s'=>SP X pins D .next s') acc C) hc hg (λ _ _ _ _=>a4J (ht _ _ _ _)) he hk hok h2 ?_;intro p C s3 H3 s' H' I3 eC hn I' ⟨m,hm⟩ q
 show wpAny _ X.A (assign (.Name x pos') X.env (.ref p)) _ _ _
 refine wpAny_assign_Name (X1 (v:=.ref p) I' hN hi' (.inl hx) rfl (λ s'' I'' ⟨a,hsa,ha⟩=>?_) (.inr hx));have hCa:C≠a:=by
  rcases ha with e | e
  ·rw [e]; exact cU (by rw [<- eC]; exact I3.lt)
  ·obtain ⟨v,z⟩:=I3.cell x a e
   exact cU (by rw [<- eC]; exact z.lt)
 exact ⟨m,hm.sameBut hsa hCa,λ h' hs'=>⟨_,H',I3.letgo I'' hn (by omega) hs',q⟩⟩
theorem a4c (K:W.Frag) {e:Expr} {f:Str} {ta:TE} (h:X.K=K) (he:PE X e ta) (hb:attributeBase e f X.env (eval e X.env)=eval e X.env):PE X (.Attribute e f pos) (b3P K ta f):=by subst h; exact v7 he hb
end
section
variable {fr:List Nat} {tc:TT} {σ:St} {J:It} {H1:Hp} {p:Addr} {D:Hp->Prop} {xs:List V}
theorem a6w (hJ:a5t J H1 xs) (hp:H1 p=none) (hz:xs.length<sizeLine) (F:V->Bool)
  (step:∀ (i:Nat) x H (N:Bool->Hp->Prop),xs[i]?=some x->Same H1 H->N (F x) H->tc ((blkσ 1 fr σ).set 0 (some x)) H N)
  (hd:D (upd H1 p (.lst (xs.filter F)))):lcI 1 fr (K5 0) tc (a8e 0) σ J H1 p D:=by
 refine ⟨λ i m ys H=>m=xs.length - i/\i<=xs.length/\ys=(xs.take i).filter F/\H=upd H1 p (.lst ys),⟨xs.length,by simp,bW _,by simp,rfl⟩,?_⟩;rintro i m ys H ⟨rfl,hi,rfl,rfl⟩;have e:=Same.new (o:=.lst ((xs.take i).filter F)) hp
 by_cases hlt:i<xs.length
 ·refine .inr ⟨hJ.go i _ e hlt,λ x H' y=>?_⟩
  obtain ⟨rfl,hx⟩:=hJ.yld i _ x H' e hlt y;have tk:(xs.take (i+1)).filter F=(xs.take i).filter F++[x].filter F:=by rw [jA,hx,fT]; rfl
  refine ⟨Wk.set (by decide),step i x _ _ hx e ?_⟩
  cases hq:F x with
  | false =>
   rw [if_neg bK];refine ⟨xs.length - (i+1),by omega,rfl,hlt,?_,rfl⟩;rw [tk]; simp [hq]
  | true =>
   rw [if_pos rfl];refine ⟨x,?_,upd_same,?_,xs.length - (i+1),by omega,rfl,hlt,?_,a1y⟩
   ·show ((blkσ 1 fr σ).set 0 (some x))[0]?=some (some x)
    rw [cO (by simp [blkσ])]
   ·have h1:=gY F (xs.take i)
    rw [bX] at h1;omega
   ·rw [tk]; simp [hq]
 ·have:i=xs.length:=by omega
  subst this;refine .inl ⟨hJ.stop _ e,?_⟩;rw [fF (aF _)]; exact hd
end
section
variable {P:Program} {w:World} {K:W.Frag} {mg:Str->Option Value} {base:Heap}
theorem Fun.okC {x qual:Str} {st:Stmt} {f c:Addr} {fd:FuncData} {N ps:List Str} {k:Nat} {sp:Sp} (F:Fun K x qual st f fd) (hc:fd.code=.ref c) (S:r8 N ps (i9 st)) (len:∀ vs H Q E,sp vs H Q E->vs.length=ps.length)
  (hbody:∀ (A:Around) (outer:List Env) (s:Shared) (H:Hp) (vs:List V) (Q:VK) (E:XK),Room k (A.deeper (envOfC qual (i9 st) s.heap.objs.size f (.ref c)))->sp vs H Q E →
   ∃ t,PSs (J6 J7 P w K mg base N qual (i9 st) f (.ref c) A outer s H E).nox (v4 st) t/\t { nx:=λ _ H'=>Q .non H',rt:=Q } (T0 N vs) H):FnOk P w K mg base J7 (k+1) f fd ps sp:=by
 obtain ⟨oc,od,kV,doc,pm,an,cdv,ct,osl,rfl,lk,hcd⟩:=F.ex;have e:cdv=.ref c:=hc;subst e;refine a8E lk hcd S len λ A outer s H vs Q E hr hsp=>?_;obtain ⟨t,h,q⟩:=hbody A outer s H vs Q E hr hsp;exact ⟨t,h.nox,q⟩
end
end L2
namespace L2
open PySem
section
variable {xs ys:List V} {K:W.Frag} {l1 l2:Addr} {fr:List Nat} {te:TE} {σ:St} {H1:Hp} {p:Addr} {D:Hp->Prop}
end
theorem C9 {G0:St->Hp->Prop} {σ:St} {H:Hp} (h:∀ G:St->Hp->Prop,G=G0->G σ H):G0 σ H:=h G0 rfl
section
variable {X:Cx} {st:Stmt} {rest:List Stmt} {t u:TS}
def b5S (t u:TS):TS:=λ D σ H=>∃ M:St->Hp->Prop,t { D with nx:=M } σ H/\∀ σ' H',M σ' H'->u D σ' H'
theorem r6 (h1:PS X st t) (h2:PSs X rest u):PSs X (st::rest) (b5S t u):=by
 intro pins s σ H D I ⟨M,h,hM⟩;refine wpAny_execs_cons (B6 (h1 pins s σ H { D with nx:=M } I h) λ f s1 q=>?_)
 cases f with
 | next =>
  obtain ⟨σ',H',I',q⟩:=q;exact h2 pins s1 σ' H' D I' (hM _ _ q)
 | ret v=>exact q
 | brk=>exact q
 | cont=>exact q
end
end L2
namespace Rim
open PySem L2
theorem a3j (xs:List V) (k:Nat) (h:k<=xs.length):A7 xs none (some (k:Int))=xs.take k:=by
 unfold A7;rw [HT.sIx_none,HT.sIx_nat,gZ]
 congr 1
 omega
theorem a4S (xs:List V) (k:Nat) (h:k<=xs.length):A7 xs (some (k:Int)) none=xs.drop k:=by
 unfold A7;rw [HT.sIx_none,HT.sIx_nat,fU h];exact fF (by rw [dL]; exact aF _)
end Rim
namespace L2
open PySem PySem.Spec PyProof.Rows
section
variable {X:Cx}
theorem a7Z:M2 X (.type "range") (λ vs H Q=>∃ j:Int,vs=[.int j]/\∀ p,H p=none->Q (.ref p) (upd H p (.rng 0 j))):=by
 intro pins s σ H vs us Q I r h;obtain ⟨j,rfl,q⟩:=h;obtain ⟨u,rfl,t,rfl⟩:=N9 r;refine call_range_1 ⟨.ref s.heap.objs.size,_,I.laid (o:=.rng 0 j) (λ b u e=>Heap.get?_push_of_some _ e) (aF _) ⟨_,_,_,Heap.get?_push_size _ rfl⟩,rfl,q _ (I.hok.fresh (aF _))⟩
theorem a8b:M2 X (.type "range") (λ vs H Q=>∃ i j:Int,vs=[.int i,.int j]/\∀ p,H p=none->Q (.ref p) (upd H p (.rng i j))):=by
 intro pins s σ H vs us Q I r h;obtain ⟨i,j,rfl,q⟩:=h;obtain ⟨u,v,rfl,⟨t,rfl⟩,t',rfl⟩:=a9t r;refine call_range_2 ⟨.ref s.heap.objs.size,_,I.laid (o:=.rng i j) (λ b u e=>Heap.get?_push_of_some _ e) (aF _) ⟨_,_,_,Heap.get?_push_size _ rfl⟩,rfl,q _ (I.hok.fresh (aF _))⟩
theorem a2B:∀ (n:Nat) (acc:List Value) (F:Nat->Int),acc.length=n->(∀ j v,acc[j]?=some v->∃ t,v=Value.int (F j) t)->Vals ((aH n).map λ i=>V.int (F i)) acc
 | 0,[],_,_,_=>.nil
 | n+1,a::acc,F,hl,h=>by
  rw [kX,aQ,aS];refine .cons (h 0 a rfl) ?_;exact a2B n acc (λ i=>F (i+1)) (by simpa using hl) λ j v e=>h (j+1) v (by simpa using e)
theorem Y0 (hc:X.calm=true):M2 X (.type "list") (λ vs H Q=>∃ (p:Addr) (lo:Int) (n:Nat),vs=[.ref p]/\H p=some (.rng lo (lo+n))/\-(2 ^ 60)<=lo/\lo<2 ^ 60/\n<=1000/\∀ l,H l=none->Q (.ref l) (upd H l (.lst ((aH n).map λ (i:Nat)=>V.int (lo+(i:Int)))))):=by
 intro pins s σ H vs us Q I r h;obtain ⟨p,lo,n,rfl,hp,h1,h2,hn,q⟩:=h;obtain ⟨u,rfl,ru⟩:=N9 r
 cases ru;obtain ⟨t,u,v,e⟩:=I.hok p _ hp;have hsz:Builtin.Range.rangeSize lo (lo+n) 1=n:=by rw [rangeSize_one]; split <;> omega
 refine call_list_range (I.ok.hd hc) e (small_one (by omega) (by omega) (by omega) (by omega)) hsz (by omega) λ h' tk acc' c' hk hS hacc=>?_;have hv:Vals ((aH n).map λ (i:Nat)=>V.int (lo+(i:Int))) acc'.toList:=a2B n acc'.toList (λ i=>lo+(i:Int)) (by simpa using hacc.1) λ j v e=>by
  obtain ⟨t,et⟩:=hacc.2 j v (by simpa using e);exact ⟨t,by rw [et,dD]⟩
 have h9:n<=sizeLine:=bA hn (by decide);refine ⟨.ref s.heap.objs.size,_,I.laid (o:=.lst ((aH n).map λ (i:Nat)=>V.int (lo+(i:Int)))) (t':=tk) hk (aF _) ⟨by simpa using h9,acc'.toList,c',hv,by simpa using hS⟩,rfl,q _ (I.hok.fresh (aF _))⟩
end
end L2
namespace Lp
abbrev C5:=Nat->Int
def tl (v:C5):C5:=λ i=>v (i+1)
def R3 (a:Int) (u:C5) (b:Int) (v:C5):C5:=λ i=>a*u i+b*v i
def M3 (D:List C5->Int):List C5->List C5->Int
 | _,[]=>0
 | pre,c::rest=>c 0*D ((pre++rest).map tl) - M3 D (pre++[c]) rest
def B7:Nat->List C5->Int
 | 0,_=>1
 | n+1,cols=>M3 (B7 n) [] cols
def Lin (n:Nat) (D:List C5->Int):Prop:=∀ (a:Int) (u:C5) (b:Int) (v:C5) (xs ys:List C5),xs.length+ys.length+1=n->D (xs++R3 a u b v::ys)=a*D (xs++u::ys)+b*D (xs++v::ys)
theorem a6o (a:Int) (u:C5) (b:Int) (v:C5):tl (R3 a u b v)=R3 a (tl u) b (tl v):=rfl
theorem b4k (a b x y p q:Int) (c:Int):c*(a*x+b*y) - (a*p+b*q)=a*(c*x - p)+b*(c*y - q):=by
 rw [eU,fV,fV];have e1:c*(a*x)=a*(c*x):=by rw [<- aX,aR c a,aX]
 have e2:c*(b*y)=b*(c*y):=by rw [<- aX,aR c b,aX]
 rw [e1,e2];lia
theorem a7j {n:Nat} {D:List C5->Int} (h:Lin n D) (a:Int) (u:C5) (b:Int) (v:C5):∀ (rest p1 p2:List C5),p1.length+p2.length+rest.length=n →
  M3 D (p1++R3 a u b v::p2) rest=a*M3 D (p1++u::p2) rest+b*M3 D (p1++v::p2) rest
 | [],p1,p2,_=>by simp [M3]
 | c::rest,p1,p2,hl=>by
  have hl':p1.length+p2.length+(rest.length+1)=n:=hl;have ih:=a7j h a u b v rest p1 (p2++[c]) (by rw [aJ,cY]; lia);have h0:=h a (tl u) b (tl v) (p1.map tl) ((p2++rest).map tl) (by rw [aA,aA,aJ]; lia);unfold M3;simp only [dE,dG,bN,aQ,a6o] at h0 ih ⊢;rw [h0,ih];exact b4k ..
theorem b5q (a b x y p q D:Int):(a*x+b*y)*D - (a*p+b*q)=a*(x*D - p)+b*(y*D - q):=by
 rw [cD,fV,fV,aX,aX];lia
theorem a4L {n:Nat} {D:List C5->Int} (h:Lin n D) (a:Int) (u:C5) (b:Int) (v:C5):∀ (r1 pre r2:List C5),pre.length+r1.length+r2.length=n →
  M3 D pre (r1++R3 a u b v::r2)=a*M3 D pre (r1++u::r2)+b*M3 D pre (r1++v::r2)
 | [],pre,r2,hl=>by
  have hp:=a7j h a u b v r2 pre [] (by simp only [dO] at hl ⊢; lia);simp only [fE];unfold M3;rw [hp];exact b5q ..
 | c::r1,pre,r2,hl=>by
  have hl':pre.length+(r1.length+1)+r2.length=n:=hl;have ih:=a4L h a u b v r1 (pre++[c]) r2 (by rw [aJ,cY]; lia);have h0:=h a (tl u) b (tl v) ((pre++r1).map tl) (r2.map tl) (by rw [aA,aA,aJ]; lia);simp only [dG];unfold M3;simp only [dE,dG,bN,aQ,a6o] at h0 ih ⊢;rw [h0,ih];exact b4k ..
theorem a4g:∀ n,Lin n (B7 n)
 | 0=>λ a u b v xs ys h=>by lia
 | n+1=>λ a u b v xs ys h=>a4L (a4g n) a u b v xs [] ys (by simp only [dO]; lia)
def Adj (n:Nat) (D:List C5->Int):Prop:=∀ (u:C5) (xs ys:List C5),xs.length+ys.length+2=n->D (xs++u::u::ys)=0
theorem a6H {n:Nat} {D:List C5->Int} (h:Adj n D) (u:C5):∀ (rest p1 p2:List C5),p1.length+p2.length+rest.length+1=n->M3 D (p1++u::u::p2) rest=0
 | [],_,_,_=>rfl
 | c::rest,p1,p2,hl=>by
  have hl':p1.length+p2.length+(rest.length+1)+1=n:=hl;have ih:=a6H h u rest p1 (p2++[c]) (by rw [aJ,cY]; lia);have h0:=h (tl u) (p1.map tl) ((p2++rest).map tl) (by rw [aA,aA,aJ]; lia);unfold M3;simp only [dE,dG,bN,aQ] at h0 ih ⊢;rw [h0,ih];lia
theorem a4z {n:Nat} {D:List C5->Int} (h:Adj n D) (u:C5):∀ (r1 pre r2:List C5),pre.length+r1.length+r2.length+1=n->M3 D pre (r1++u::u::r2)=0
 | [],pre,r2,hl=>by
  have hp:=a6H h u r2 pre [] (by simp only [dO] at hl ⊢; lia);simp only [fE];unfold M3;unfold M3;simp only [dE,dG,fE] at hp ⊢;rw [hp];lia
 | c::r1,pre,r2,hl=>by
  have hl':pre.length+(r1.length+1)+r2.length+1=n:=hl;have ih:=a4z h u r1 (pre++[c]) r2 (by rw [aJ,cY]; lia);have h0:=h (tl u) ((pre++r1).map tl) (r2.map tl) (by rw [aA,aA,aJ]; lia);simp only [dG];unfold M3;simp only [dE,dG,bN,aQ] at h0 ih ⊢;rw [h0,ih];lia
theorem a4d:∀ n,Adj n (B7 n)
 | 0=>λ u xs ys h=>by lia
 | n+1=>λ u xs ys h=>a4z (a4d n) u xs [] ys (by simp only [dO]; lia)
def P2 (k:Nat):C5:=λ i=>if i=k then 1 else 0
theorem a8D {D:List C5->Int}:∀ (rest pre:List C5),(∀ c∈rest,c 0=0)->M3 D pre rest=0
 | [],_,_=>rfl
 | c::rest,pre,h=>by
  unfold M3;rw [h c cJ,a8D rest (pre++[c]) λ x hx=>h x (bL _ hx)];lia
theorem Z9:∀ n,B7 n ((aH n).map P2)=1
 | 0=>rfl
 | n+1=>by
  show M3 (B7 n) [] ((aH (n+1)).map P2)=1
  rw [kX,aQ,aS];unfold M3;rw [a8D _ _ (λ c hc=>by
   obtain ⟨k,_,rfl⟩:=aK.mp hc;rfl)]
  have e:([]++(aH n).map (P2 ∘ Nat.succ)).map tl=(aH n).map P2:=by
   rw [fE,aS];refine cZ λ k _=>?_
   funext i
   show (if i+1=k+1 then (1:Int) else 0)=if i=k then 1 else 0
   by_cases c:i=k
   ·rw [if_pos (by lia),if_pos c]
   ·rw [if_neg (by lia),if_neg c]
  rw [e,Z9 n];rfl
def bnd (M:Nat):Nat->Nat
 | 0=>1
 | n+1=>(n+1)*(M*bnd M n)
def Fits (M n:Nat) (v:C5):Prop:=∀ i,i<n->(v i).natAbs<=M
theorem a7p {D:List C5->Int} {M n B:Nat} (hD:∀ cols,cols.length=n->(∀ c∈cols,Fits M n c)->(D cols).natAbs<=B):∀ (rest pre:List C5),pre.length+rest.length=n+1->(∀ c∈pre,Fits M (n+1) c)->(∀ c∈rest,Fits M (n+1) c)->(M3 D pre rest).natAbs<=rest.length*(M*B)
 | [],_,_,_,_=>by simp [M3]
 | c::rest,pre,hl,hp,hr=>by
  have hl':pre.length+(rest.length+1)=n+1:=hl;have h1:=a7p hD rest (pre++[c]) (by rw [aJ,cY]; lia) (λ x hx=>(aT.mp hx).elim (hp x) λ z=>by rw [bH.mp z]; exact hr c cJ) λ x hx=>hr x (bL _ hx);have h2:=hD ((pre++rest).map tl) (by rw [aA,aJ]; lia) λ x hx=>by
   obtain ⟨y,hy,rfl⟩:=aK.mp hx;intro i hi;rcases aT.mp hy with z | z
   ·exact hp y z (i+1) (by lia)
   ·exact hr y (bL _ z) (i+1) (by lia)
  have h3:=hr c cJ 0 (by lia);unfold M3;rw [cV,gO];have h4:(c 0*D ((pre++rest).map tl)).natAbs<=M*B:=by rw [fR]; exact Nat.mul_le_mul h3 h2
  have h5:=Int.natAbs_sub_le (c 0*D ((pre++rest).map tl)) (M3 D (pre++[c]) rest);lia
theorem a3l {M:Nat}:∀ (n:Nat) (cols:List C5),cols.length=n->(∀ c∈cols,Fits M n c)->(B7 n cols).natAbs<=bnd M n
 | 0,_,_,_=>aF 1
 | n+1,cols,hl,hf=>by
  have:=a7p (a3l (M:=M) n) cols [] (by simpa using hl) (λ c hc=>by cases hc) hf;rw [hl] at this;exact this
theorem a4R {α:Type} {C:List α} {i:Nat} {u:α} (h:C[i]?=some u):C=C.take i++u::C.drop (i+1):=by
 obtain ⟨hi,rfl⟩:=aY.mp h;rw [<- List.drop_eq_getElem_cons hi,kY]
theorem a8Y (n:Nat) (u v:C5) (xs ys:List C5) (hl:xs.length+ys.length+2=n):B7 n (xs++u::v::ys) = - B7 n (xs++v::u::ys):=by
 have L:=a4g n;have A:=a4d n;have h0:=A (R3 1 u 1 v) xs ys hl;have h1:=L 1 u 1 v xs (R3 1 u 1 v::ys) (by simp only [cV]; lia);have h2:=L 1 u 1 v (xs++[u]) ys (by simp only [aJ,cY]; lia);have h3:=L 1 u 1 v (xs++[v]) ys (by simp only [aJ,cY]; lia);have h4:=A u xs ys hl;have h5:=A v xs ys hl;simp only [dE,dG,fE] at h2 h3;lia
theorem a6z (n:Nat) (u:C5):∀ (zs xs ys:List C5),xs.length+zs.length+ys.length+2=n->B7 n (xs++u::(zs++u::ys))=0
 | [],xs,ys,hl=>a4d n u xs ys (by simp only [dO] at hl; lia)
 | z::zs,xs,ys,hl=>by
  have hl':xs.length+(zs.length+1)+ys.length+2=n:=hl;rw [dG,a8Y n u z xs (zs++u::ys) (by simp only [aJ,cV]; lia)];have:=a6z n u zs (xs++[z]) ys (by rw [aJ,cY]; lia);simp only [dE,dG,fE] at this;lia
theorem a6s {n:Nat} {C:List C5} {i k:Nat} {u:C5} (hl:C.length=n) (hik:i<k) (h1:C[i]?=some u) (h2:C[k]?=some u):B7 n C=0:=by
 have e1:=a4R h1;have hk:k<C.length:=(aY.mp h2).1;have h3:(C.drop (i+1))[k - (i+1)]?=some u:=by rw [kZ,show i+1+(k - (i+1))=k by lia]; exact h2
 have e2:=a4R h3;rw [e1,e2];refine a6z n u _ _ _ ?_;simp only [bX,dL];lia
theorem U6 {n:Nat} {C:List C5} {i k:Nat} {u:C5} (hl:C.length=n) (hik:i≠k) (h1:C[i]?=some u) (h2:C[k]?=some u):B7 n C=0:=by
 rcases Nat.lt_or_gt_of_ne hik with h | h
 ·exact a6s hl h h1 h2
 ·exact a6s hl h h2 h1
theorem a0w {α:Type} {C:List α} {k:Nat} (h:k<C.length) (u:α):C.set k u=C.take k++u::C.drop (k+1):=by
 rw [List.set_eq_take_append_cons_drop,if_pos h]
theorem R6 {n:Nat} {C:List C5} {k:Nat} (hl:C.length=n) (hk:k<n) (a:Int) (u:C5) (b:Int) (v:C5):B7 n (C.set k (R3 a u b v))=a*B7 n (C.set k u)+b*B7 n (C.set k v):=by
 have hk':k<C.length:=by lia
 rw [a0w hk',a0w hk',a0w hk'];refine a4g n a u b v _ _ ?_;simp only [bX,dL];lia
theorem a3m {n:Nat} {C:List C5} {i k:Nat} (hl:C.length=n) (hi:i<n) (hk:k<n) (hik:i≠k) (u:C5):B7 n ((C.set i u).set k u)=0:=by
 refine U6 (i:=i) (k:=k) (u:=u) (by rw [bY,bY]; exact hl) hik ?_ ?_
 ·rw [bS (aO hik),cO (by lia)]
 ·rw [cO (by rw [bY]; lia)]
theorem a5g {n:Nat} {C:List C5} {i k:Nat} (hl:C.length=n) (hi:i<n) (hk:k<n) (hik:i≠k) (u v:C5):B7 n ((C.set i u).set k v) = - B7 n ((C.set i v).set k u):=by
 have h0:=a3m hl hi hk hik (R3 1 u 1 v);have h1:=R6 (C:=C.set i (R3 1 u 1 v)) (by rw [bY]; exact hl) hk 1 u 1 v;have h2:=R6 (C:=C.set k u) (by rw [bY]; exact hl) hi 1 u 1 v;have h3:=R6 (C:=C.set k v) (by rw [bY]; exact hl) hi 1 u 1 v;have h4:=a3m hl hi hk hik u;have h5:=a3m hl hi hk hik v;rw [fO _ _ (aO hik),fO _ _ (aO hik),fO _ _ (aO hik)] at h2 h3;lia
def sumTo (g:Nat->Int):Nat->Int
 | 0=>0
 | n+1=>sumTo g n+g n
theorem sum_congr {g h:Nat->Int}:∀ {n:Nat},(∀ k,k<n->g k=h k)->sumTo g n=sumTo h n
 | 0,_=>rfl
 | n+1,e=>by
  show sumTo g n+g n=sumTo h n+h n
  rw [sum_congr λ k hk=>e k (by lia),e n (by lia)]
theorem sum_zero {g:Nat->Int} {n:Nat} (h:∀ k,k<n->g k=0):sumTo g n=0:=by
 induction n with
 | zero=>rfl
 | succ n ih =>
  show sumTo g n+g n=0
  rw [ih λ k hk=>h k (by lia),h n (by lia)];rfl
theorem sum_one {g:Nat->Int} {n r:Nat} (hr:r<n) (h:∀ k,k<n->k≠r->g k=0):sumTo g n=g r:=by
 induction n with
 | zero=>lia
 | succ n ih =>
  show sumTo g n+g n=g r
  by_cases c:r=n
  ·subst c
   rw [sum_zero λ k hk=>h k (by lia) (by lia)];lia
  ·rw [ih (by lia) λ k hk hn=>h k (by lia) hn,h n (by lia) (by lia)]
   lia
theorem O5 {g h:Nat->Int}:∀ n:Nat,sumTo (λ k=>g k+h k) n=sumTo g n+sumTo h n
 | 0=>rfl
 | n+1=>by
  show sumTo (λ k=>g k+h k) n+(g n+h n)=sumTo g n+g n+(sumTo h n+h n)
  rw [O5 n];lia
theorem A4 {g:Nat->Int} (a:Int):∀ n:Nat,sumTo (λ k=>a*g k) n=a*sumTo g n
 | 0=>(bJ a).symm
 | n+1=>by
  show sumTo (λ k=>a*g k) n+a*g n=a*(sumTo g n+g n)
  rw [A4 a n,eU]
theorem b0w {g:Nat->Int} {n r i:Nat} (hr:r<n) (hi:i<n) (hne:r≠i) (h:∀ k,k<n->k≠r->k≠i->g k=0):sumTo g n=g r+g i:=by
 have e:sumTo g n=sumTo (λ k=>(if k=r then g k else 0)+(if k=i then g k else 0)) n:=sum_congr λ k hk=>by
  by_cases c1:k=r
  ·rw [if_pos c1,if_neg (by lia)]; lia
  ·by_cases c2:k=i
   ·rw [if_neg c1,if_pos c2]; lia
   ·rw [if_neg c1,if_neg c2,h k hk c1 c2]; lia
 rw [e,O5,sum_one hr λ k _ hn=>if_neg hn,sum_one hi λ k _ hn=>if_neg hn,if_pos rfl,if_pos rfl]
theorem a1F {n:Nat} {C:List C5} {k:Nat} (hl:C.length=n) (hk:k<n) (t:Nat->Int) (W:Nat->C5):∀ m:Nat,B7 n (C.set k (λ x=>sumTo (λ j=>t j*W j x) m))=sumTo (λ j=>t j*B7 n (C.set k (W j))) m
 | 0=>by
  have h:=R6 hl hk 0 (λ _=>0) 0 (λ _=>0);have e:R3 0 (λ _=>0) 0 (λ _=>0)=(λ x:Nat=>sumTo (λ j=>t j*W j x) 0):=by funext x; simp [R3,sumTo]
  rw [e] at h;rw [h];simp [sumTo]
 | m+1=>by
  have h:=R6 hl hk 1 (λ x=>sumTo (λ j=>t j*W j x) m) (t m) (W m);have e:R3 1 (λ x=>sumTo (λ j=>t j*W j x) m) (t m) (W m)=(λ x:Nat=>sumTo (λ j=>t j*W j x) (m+1)):=by funext x; simp [R3,sumTo]
  rw [e,a1F hl hk t W m] at h;rw [h]
  show 1*sumTo _ m+_=sumTo _ m+_
  rw [fH]
def zv:C5:=λ _=>0
def a4O (n:Nat) (B:List C5) (u:C5):Prop:=∀ x,B7 n B*u x=sumTo (λ k=>B7 n (B.set k u)*(B.getD k zv) x) n
theorem a3z {B:List C5} {k:Nat} (h:k<B.length):B[k]?=some (B.getD k zv):=by rw [aG,aD h]; rfl
theorem N7 {B:List C5} {k:Nat} (h:k<B.length):B.set k (B.getD k zv)=B:=by
 have e:B.getD k zv=B[k]:=by rw [aG,aD h]; rfl
 rw [e,List.set_getElem_self]
theorem plu {n:Nat} {B:List C5} {r i:Nat} (hl:B.length=n) (hr:r<n) (hi:i<n) (hne:i≠r) {u:C5} (v:C5) (hc:a4O n B u) :
  B7 n B*B7 n ((B.set r u).set i v)=B7 n (B.set r u)*B7 n (B.set i v) - B7 n (B.set i u)*B7 n (B.set r v):=by
 have hl':(B.set i v).length=n:=by rw [bY]; exact hl
 have e1:B7 n ((B.set i v).set r (R3 (B7 n B) u 0 u))=B7 n B*B7 n ((B.set i v).set r u):=by
  rw [R6 hl' hr]; lia
 have e2:R3 (B7 n B) u 0 u=(λ x:Nat=>sumTo (λ k=>B7 n (B.set k u)*(B.getD k zv) x) n):=by
  funext x
  rw [<- hc x];unfold R3;lia
 rw [e2,a1F hl' hr (λ k=>B7 n (B.set k u)) (λ k=>B.getD k zv) n] at e1;rw [fO _ _ (aO hne),<- e1];rw [b0w hr hi (aO hne) λ k hk n1 n2=>?_]
 ·have a1:(B.set i v).set r (B.getD r zv)=B.set i v:=by rw [fO _ _ hne,N7 (by lia)]
  have a2:B7 n ((B.set i v).set r (B.getD i zv)) = - B7 n (B.set r v):=by
   rw [a5g hl hi hr hne,N7 (by lia)]
  show B7 n (B.set r u)*B7 n ((B.set i v).set r (B.getD r zv))+B7 n (B.set i u)*B7 n ((B.set i v).set r (B.getD i zv))=_
  rw [a1,a2,dN];lia
 ·have:B7 n ((B.set i v).set r (B.getD k zv))=0:=by
   refine U6 (i:=k) (k:=r) (u:=B.getD k zv) (by rw [bY,bY]; exact hl) n1 ?_ ?_
   ·rw [bS (aO n1),bS (aO n2)]; exact a3z (by lia)
   ·rw [cO (by rw [bY]; lia)]
  show B7 n (B.set k u)*B7 n ((B.set i v).set r (B.getD k zv))=0
  rw [this,bJ]
theorem b3a {d a b:Int} (hd:d≠0) (h:d*a=d*b):a=b:=Int.eq_of_mul_eq_mul_left hd h
theorem a2Y {n:Nat} {B:List C5} {r:Nat} (hl:B.length=n) (hr:r<n) {u v:C5} (hd:B7 n B≠0) (hu:a4O n B u) (hv:a4O n B v):a4O n (B.set r u) v:=by
 intro x;refine b3a hd ?_;have e:∀ k,k<n->B7 n B*(B7 n ((B.set r u).set k v)*((B.set r u).getD k zv) x) =
   B7 n (B.set r u)*(B7 n (B.set k v)*(B.getD k zv) x)+(if k=r then B7 n B*(B7 n (B.set r v)*u x) else 0) - B7 n (B.set r v)*(B7 n (B.set k u)*(B.getD k zv) x):=λ k hk=>by
  by_cases c:k=r
  ·subst c
   rw [if_pos rfl,lC];have g:(B.set k u).getD k zv=u:=by rw [aG,cO (by lia)]; rfl
   rw [g];have:B7 n (B.set k u)*(B7 n (B.set k v)*B.getD k zv x)=B7 n (B.set k v)*(B7 n (B.set k u)*B.getD k zv x):=by rw [<- aX,<- aX,aR (B7 n (B.set k u))]
   lia
  ·rw [if_neg c]
   have g:(B.set r u).getD k zv=B.getD k zv:=by rw [aG,bS (aO c),<- aG]
   rw [g,<- aX,plu hl hr hk c v hu,lD,aX,aX];have:B7 n (B.set k u)*(B7 n (B.set r v)*B.getD k zv x)=B7 n (B.set r v)*(B7 n (B.set k u)*B.getD k zv x):=by rw [<- aX,<- aX,aR (B7 n (B.set k u))]
   lia
 have s1:B7 n B*sumTo (λ k=>B7 n ((B.set r u).set k v)*((B.set r u).getD k zv) x) n =
   sumTo (λ k=>B7 n (B.set r u)*(B7 n (B.set k v)*(B.getD k zv) x)+(if k=r then B7 n B*(B7 n (B.set r v)*u x) else 0)+(- B7 n (B.set r v))*(B7 n (B.set k u)*(B.getD k zv) x)) n:=by
  rw [<- A4];refine sum_congr λ k hk=>?_;rw [e k hk,eV];lia
 rw [s1,O5,O5,A4,A4,<- hv x,<- hu x,sum_one hr λ k _ hn=>if_neg hn,if_pos rfl,eV];have a1:B7 n B*(B7 n (B.set r u)*v x)=B7 n (B.set r u)*(B7 n B*v x):=by rw [<- aX,<- aX,aR (B7 n B)]
 have a2:B7 n B*(B7 n (B.set r v)*u x)=B7 n (B.set r v)*(B7 n B*u x):=by rw [<- aX,<- aX,aR (B7 n B)]
 lia
theorem a7x {n:Nat} {B:List C5} {r:Nat} (hl:B.length=n) (hr:r<n):a4O n B (B.getD r zv):=by
 intro x;rw [sum_one hr λ k hk hn=>?_]
 ·rw [N7 (by lia)]
 ·have:B7 n (B.set k (B.getD r zv))=0:=by
   refine U6 (i:=r) (k:=k) (u:=B.getD r zv) (by rw [bY]; exact hl) (aO hn) ?_ ?_
   ·rw [bS hn]; exact a3z (by lia)
   ·rw [cO (by lia)]
  rw [this,dY]
theorem b3W {n:Nat} {B:List C5} (hl:B.length=n) (hd:B7 n B≠0) {t:Nat->Int} (h:∀ x,sumTo (λ k=>t k*(B.getD k zv) x) n=0) {i:Nat} (hi:i<n):t i=0:=by
 have h1:=a1F (C:=B) hl hi t (λ k=>B.getD k zv) n;have e:(λ x:Nat=>sumTo (λ k=>t k*(B.getD k zv) x) n)=zv:=by funext x; rw [h x]; rfl
 rw [e] at h1;have h0:B7 n (B.set i zv)=0:=by
  have:=R6 hl hi 0 zv 0 zv;have e:R3 0 zv 0 zv=zv:=by funext x; simp [R3,zv]
  rw [e] at this;lia
 rw [h0,sum_one hi λ k hk hn=>?_,N7 (by lia)] at h1
 ·exact (fW.mp h1.symm).resolve_right hd
 ·have:B7 n (B.set i (B.getD k zv))=0:=by
   refine U6 (i:=k) (k:=i) (u:=B.getD k zv) (by rw [bY]; exact hl) hn ?_ ?_
   ·rw [bS (aO hn)]; exact a3z (by lia)
   ·rw [cO (by lia)]
  rw [this,bJ]
structure Bo where
 d:Int
 T:Nat->Nat->Int
 ins:Nat->Nat
 outs:Nat->Nat
def W3 (g:Nat->Nat) (k v:Nat):Nat->Nat:=λ i=>if i=k then v else g i
theorem w4 {g:Nat->Nat} {k v:Nat}:W3 g k v k=v:=if_pos rfl
theorem x6 {g:Nat->Nat} {k v i:Nat} (h:i≠k):W3 g k v i=g i:=if_neg h
def piv (S:Bo) (r c:Nat):Bo where
 d:=S.T r c
 T:=λ i j=>if i=r then (if j=c then S.d else S.T r j) else (if j=c then - S.T i c else (S.T i j*S.T r c - S.T i c*S.T r j) / S.d)
 ins:=W3 S.ins r (S.outs c)
 outs:=W3 S.outs c (S.ins r)
def Bs (m:Nat) (V:Nat->C5) (ins:Nat->Nat):List C5:=(aH (m+1)).map λ i=>V (ins i)
theorem a0y (m:Nat) (V:Nat->C5) (ins:Nat->Nat):(Bs m V ins).length=m+1:=by unfold Bs; rw [aA,cW]
theorem a6Y {m:Nat} {V:Nat->C5} {ins:Nat->Nat} {i:Nat} (h:i<m+1):(Bs m V ins).getD i zv=V (ins i):=by
 unfold Bs;rw [aG,aE,bI h];rfl
theorem a9l {m:Nat} {V:Nat->C5} {ins:Nat->Nat} {r v:Nat} (h:r<m+1):Bs m V (W3 ins r v)=(Bs m V ins).set r (V v):=by
 refine cC λ i=>?_;unfold Bs
 by_cases c:i=r
 ·subst c
  rw [cO (by rw [aA,cW]; exact h),aE,bI h]
  show some (V (W3 ins i v i))=_
  rw [w4]
 ·rw [bS (aO c),aE,aE]
  by_cases hi:i<m+1
  ·rw [bI hi]
   show some (V (W3 ins r v i))=some (V (ins i))
   rw [x6 c]
  ·rw [aW (by rw [cW]; lia)]
   rfl
structure Wf (m q:Nat) (V:Nat->C5) (S:Bo):Prop where
 hd:S.d=B7 (m+1) (Bs m V S.ins)
 hT:∀ i j,i<m+1->j<q+1->S.T i j=B7 (m+1) ((Bs m V S.ins).set i (V (S.outs j)))
 cr:∀ j,j<q+1->a4O (m+1) (Bs m V S.ins) (V (S.outs j))
 pos:0<S.d
 feas:∀ i,i<m->0<=S.T i q
 im:S.ins m=q+m
 oq:S.outs q=q+m+1
 ib:∀ i,i<m->S.ins i<q+m
 ob:∀ j,j<q->S.outs j<q+m
 ii:∀ i k,i<m->k<m->S.ins i=S.ins k->i=k
 oo:∀ j k,j<q->k<q->S.outs j=S.outs k->j=k
 io:∀ i j,i<m->j<q->S.ins i≠S.outs j
 all:∀ v,v<q+m->(∃ i,i<m/\S.ins i=v)\/(∃ j,j<q/\S.outs j=v)
section
variable {m q:Nat} {V:Nat->C5} {S:Bo}
theorem Wf.exact (W:Wf m q V S) {r c i j:Nat} (hr:r<m) (hc:c<q) (hi:i<m+1) (hj:j<q+1) (hne:i≠r) :
  S.T i j*S.T r c - S.T i c*S.T r j=S.d*B7 (m+1) (((Bs m V S.ins).set r (V (S.outs c))).set i (V (S.outs j))):=by
 have h:=plu (a0y m V S.ins) (show r<m+1 by lia) hi hne (V (S.outs j)) (W.cr c (by lia));rw [W.hd,h,W.hT i j hi hj,W.hT r c (by lia) (by lia),W.hT i c hi (by lia),W.hT r j (by lia) hj];rw [aR (B7 (m+1) ((Bs m V S.ins).set i (V (S.outs j))))]
theorem Wf.pivT (W:Wf m q V S) {r c i j:Nat} (hr:r<m) (hc:c<q) (hi:i<m+1) (hj:j<q+1):(piv S r c).T i j=B7 (m+1) ((Bs m V (piv S r c).ins).set i (V ((piv S r c).outs j))):=by
 have hl:=a0y m V S.ins
 show (if i=r then (if j=c then S.d else S.T r j) else (if j=c then - S.T i c else (S.T i j*S.T r c - S.T i c*S.T r j) / S.d))=B7 (m+1) ((Bs m V (W3 S.ins r (S.outs c))).set i (V (W3 S.outs c (S.ins r) j)))
 rw [a9l (by lia)]
 by_cases c1:i=r
 ·subst c1
  rw [if_pos rfl,lC]
  by_cases c2:j=c
  ·subst c2
   rw [if_pos rfl,w4,W.hd,<- a6Y (V:=V) (ins:=S.ins) hi,N7 (by lia)]
  ·rw [if_neg c2,x6 c2]
   exact W.hT i j hi hj
 ·rw [if_neg c1]
  by_cases c2:j=c
  ·subst c2
   rw [if_pos rfl,w4,a5g hl (by lia) hi (aO c1),<- a6Y (V:=V) (ins:=S.ins) (show r<m+1 by lia),N7 (by lia),W.hT i j hi hj]
  ·rw [if_neg c2,x6 c2,W.exact hr hc hi hj c1]
   exact jG _ (by have:=W.pos; lia)
theorem Wf.mulT (W:Wf m q V S) {r c i j:Nat} (hr:r<m) (hc:c<q) (hi:i<m+1) (hj:j<q+1) (hne:i≠r) (hjc:j≠c):S.d*(piv S r c).T i j=S.T i j*S.T r c - S.T i c*S.T r j:=by
 have e:=W.pivT hr hc hi hj;have h:=W.exact hr hc hi hj hne;have e2:Bs m V (piv S r c).ins=(Bs m V S.ins).set r (V (S.outs c)):=a9l (by lia);have e3:(piv S r c).outs j=S.outs j:=x6 hjc;rw [e2,e3] at e;rw [h,e]
theorem Wf.pivot (W:Wf m q V S) {r c:Nat} (hr:r<m) (hc:c<q) (hp:0<S.T r c) (hq:∀ i,i<m->0<S.T i c->S.T r q*S.T i c<=S.T i q*S.T r c):Wf m q V (piv S r c):=by
 have hl:=a0y m V S.ins;have hd0:B7 (m+1) (Bs m V S.ins)≠0:=by have:=W.pos; rw [W.hd] at this; lia
 have hB:Bs m V (piv S r c).ins=(Bs m V S.ins).set r (V (S.outs c)):=a9l (by lia);refine ⟨?_,λ i j hi hj=>W.pivT hr hc hi hj,λ j hj=>?_,hp,λ i hi=>?_,?_,?_,λ i hi=>?_,λ j hj=>?_,λ i k hi hk e=>?_,λ j k hj hk e=>?_,λ i j hi hj e=>?_,λ v hv=>?_⟩
 ·rw [hB]; exact W.hT r c (by lia) (by lia)
 ·rw [hB]
  by_cases c2:j=c
  ·subst c2
   show a4O _ _ (V (W3 S.outs j (S.ins r) j))
   rw [w4];have h:=a7x hl (show r<m+1 by lia);rw [a6Y (by lia)] at h;exact a2Y hl (by lia) hd0 (W.cr j hj) h
  ·show a4O _ _ (V (W3 S.outs c (S.ins r) j))
   rw [x6 c2];exact a2Y hl (by lia) hd0 (W.cr c (by lia)) (W.cr j hj)
 ·by_cases c1:i=r
  ·subst c1
   show 0<=(if i=i then (if q=c then S.d else S.T i q) else _)
   rw [if_pos rfl,if_neg (by lia)];exact W.feas i hi
  ·have e:=W.mulT hr hc (show i<m+1 by lia) (show q<q+1 by lia) c1 (show q≠c by lia)
   have f1:=W.feas i hi;have f2:=W.feas r hr;have hpos:=W.pos;have nn:0<=S.T i q*S.T r c - S.T i c*S.T r q:=by
    have a1:0<=S.T i q*S.T r c:=cK f1 (aN hp)
    by_cases z:0<S.T i c
    ·have:=hq i hi z
     rw [aR (S.T i c)];lia
    ·have a2:0 <= - (S.T i c)*S.T r q:=cK (by lia) f2
     rw [eV] at a2;lia
   rw [<- e] at nn
   by_cases z:0<=(piv S r c).T i q
   ·exact z
   ·have:=dR hpos (show 0 < - (piv S r c).T i q by lia)
    rw [dN] at this;lia
 ·show W3 S.ins r (S.outs c) m=q+m
  rw [x6 (by lia)]; exact W.im
 ·show W3 S.outs c (S.ins r) q=q+m+1
  rw [x6 (by lia)]; exact W.oq
 ·show W3 S.ins r (S.outs c) i<q+m
  by_cases c1:i=r
  ·rw [c1,w4]; exact W.ob c hc
  ·rw [x6 c1]; exact W.ib i hi
 ·show W3 S.outs c (S.ins r) j<q+m
  by_cases c1:j=c
  ·rw [c1,w4]; exact W.ib r hr
  ·rw [x6 c1]; exact W.ob j hj
 ·replace e:W3 S.ins r (S.outs c) i=W3 S.ins r (S.outs c) k:=e
  by_cases c1:i=r
  ·by_cases c2:k=r
   ·lia
   ·rw [c1,w4,x6 c2] at e
    exact absurd e.symm (W.io k c hk hc)
  ·by_cases c2:k=r
   ·rw [c2,w4,x6 c1] at e
    exact absurd e (W.io i c hi hc)
   ·rw [x6 c1,x6 c2] at e
    exact W.ii i k hi hk e
 ·replace e:W3 S.outs c (S.ins r) j=W3 S.outs c (S.ins r) k:=e
  by_cases c1:j=c
  ·by_cases c2:k=c
   ·lia
   ·rw [c1,w4,x6 c2] at e
    exact absurd e (W.io r k hr hk)
  ·by_cases c2:k=c
   ·rw [c2,w4,x6 c1] at e
    exact absurd e.symm (W.io r j hr hj)
   ·rw [x6 c1,x6 c2] at e
    exact W.oo j k hj hk e
 ·replace e:W3 S.ins r (S.outs c) i=W3 S.outs c (S.ins r) j:=e
  by_cases c1:i=r
  ·by_cases c2:j=c
   ·rw [c1,c2,w4,w4] at e
    exact absurd e.symm (W.io r c hr hc)
   ·rw [c1,w4,x6 c2] at e
    exact c2 (W.oo c j hc hj e).symm
  ·by_cases c2:j=c
   ·rw [c2,w4,x6 c1] at e
    exact c1 (W.ii i r hi hr e)
   ·rw [x6 c1,x6 c2] at e
    exact W.io i j hi hj e
 ·show (∃ i,i<m/\W3 S.ins r (S.outs c) i=v)\/(∃ j,j<q/\W3 S.outs c (S.ins r) j=v)
  rcases W.all v hv with ⟨i,hi,e⟩ | ⟨j,hj,e⟩
  ·by_cases c1:i=r
   ·exact .inr ⟨c,hc,by rw [w4,<- c1]; exact e⟩
   ·exact .inl ⟨i,hi,by rw [x6 c1]; exact e⟩
  ·by_cases c1:j=c
   ·exact .inl ⟨r,hr,by rw [w4,<- c1]; exact e⟩
   ·exact .inr ⟨j,hj,by rw [x6 c1]; exact e⟩
def Ker (m q:Nat) (V:Nat->C5) (S:Bo) (z:Nat->Int):Prop:=∀ x,sumTo (λ k=>z (S.ins k)*V (S.ins k) x) (m+1)+sumTo (λ j=>z (S.outs j)*V (S.outs j) x) (q+1)=0
theorem a7o {g h:Nat->Int} {n r:Nat} (hr:r<n) (e:∀ k,k<n->k≠r->g k=h k):sumTo g n=sumTo h n+(g r - h r):=by
 have e1:sumTo g n=sumTo (λ k=>h k+(if k=r then g k - h k else 0)) n:=sum_congr λ k hk=>by
  by_cases c:k=r
  ·rw [if_pos c]; lia
  ·rw [if_neg c,e k hk c]; lia
 rw [e1,O5,sum_one hr λ k _ hn=>if_neg hn,if_pos rfl]
theorem Ker.piv {r c:Nat} (hr:r<m) (hc:c<q) {z:Nat->Int}:Ker m q V (piv S r c) z ↔ Ker m q V S z:=by
  have e:∀ x,sumTo (λ k=>z ((Lp.piv S r c).ins k)*V ((Lp.piv S r c).ins k) x) (m+1)+sumTo (λ j=>z ((Lp.piv S r c).outs j)*V ((Lp.piv S r c).outs j) x) (q+1)
     =sumTo (λ k=>z (S.ins k)*V (S.ins k) x) (m+1)+sumTo (λ j=>z (S.outs j)*V (S.outs j) x) (q+1):=λ x=>by
    have h1:=a7o (g:=λ k=>z ((Lp.piv S r c).ins k)*V ((Lp.piv S r c).ins k) x) (h:=λ k=>z (S.ins k)*V (S.ins k) x) (n:=m+1) (r:=r) (by lia) λ k hk hn=>by
      show z (W3 S.ins r (S.outs c) k)*V (W3 S.ins r (S.outs c) k) x=_
      rw [x6 hn]
    have h2:=a7o (g:=λ j=>z ((Lp.piv S r c).outs j)*V ((Lp.piv S r c).outs j) x) (h:=λ j=>z (S.outs j)*V (S.outs j) x) (n:=q+1) (r:=c) (by lia) λ k hk hn=>by
      show z (W3 S.outs c (S.ins r) k)*V (W3 S.outs c (S.ins r) k) x=_
      rw [x6 hn]
    rw [h1,h2]
    show _+(z (W3 S.ins r (S.outs c) r)*V (W3 S.ins r (S.outs c) r) x - _)+(_+(z (W3 S.outs c (S.ins r) c)*V (W3 S.outs c (S.ins r) c) x - _))=_
    rw [w4,w4];lia
  exact ⟨λ h x=>(e x).symm.trans (h x),λ h x=>(e x).trans (h x)⟩
def a2o (q:Nat) (S:Bo) (z:Nat->Int) (i:Nat):Int:=S.d*z (S.ins i)+sumTo (λ j=>S.T i j*z (S.outs j)) (q+1)
theorem U3 {g:Nat->Nat->Int} (n:Nat):∀ k:Nat,sumTo (λ i=>sumTo (λ j=>g i j) k) n=sumTo (λ j=>sumTo (λ i=>g i j) n) k
 | 0=>sum_zero λ _ _=>rfl
 | k+1=>by
  show sumTo (λ i=>sumTo (λ j=>g i j) k+g i k) n=sumTo (λ j=>sumTo (λ i=>g i j) n) k+sumTo (λ i=>g i k) n
  rw [O5,U3 n k]
theorem Wf.rows (W:Wf m q V S) (z:Nat->Int) (x:Nat):S.d*(sumTo (λ k=>z (S.ins k)*V (S.ins k) x) (m+1)+sumTo (λ j=>z (S.outs j)*V (S.outs j) x) (q+1))=sumTo (λ k=>a2o q S z k*((Bs m V S.ins).getD k zv) x) (m+1):=by
 have e1:S.d*sumTo (λ j=>z (S.outs j)*V (S.outs j) x) (q+1)=sumTo (λ k=>sumTo (λ j=>S.T k j*z (S.outs j)) (q+1)*((Bs m V S.ins).getD k zv) x) (m+1):=by
  rw [<- A4];have h1:∀ j,j<q+1->S.d*(z (S.outs j)*V (S.outs j) x)=sumTo (λ k=>S.T k j*z (S.outs j)*((Bs m V S.ins).getD k zv) x) (m+1):=λ j hj=>by
   have h:=W.cr j hj x;rw [<- W.hd] at h;rw [aR (z (S.outs j)),<- aX,h,aR,<- A4];refine sum_congr λ k hk=>?_;rw [W.hT k j hk hj,<- aX,aR (z (S.outs j))]
  rw [sum_congr h1,<- U3];refine sum_congr λ k hk=>?_;rw [aR (sumTo _ _),<- A4];exact sum_congr λ j _=>aR _ _
 rw [eU,e1,<- A4,<- O5];refine sum_congr λ k hk=>?_
 show _=(S.d*z (S.ins k)+_)*_
 rw [cD,a6Y hk,aX]
theorem Wf.row_of (W:Wf m q V S) {z:Nat->Int} (h:Ker m q V S z) {i:Nat} (hi:i<m+1):a2o q S z i=0:=by
 refine b3W (a0y m V S.ins) (by have:=W.pos; rw [W.hd] at this; lia) (λ x=>?_) hi;rw [<- W.rows z x,h x,bJ]
theorem Wf.ker_of (W:Wf m q V S) {z:Nat->Int} (h:∀ i,i<m+1->a2o q S z i=0):Ker m q V S z:=λ x=>by
 have e:=W.rows z x;have e0:sumTo (λ k=>a2o q S z k*((Bs m V S.ins).getD k zv) x) (m+1)=0:=sum_zero λ k hk=>by rw [h k hk,dY]
 rw [e0] at e;exact (fW.mp e).resolve_left (by have:=W.pos; lia)
end
structure Choice (m q:Nat) (S:Bo) (r c:Nat):Prop where
 hc:c<q
 neg:S.T m c<0
 minc:∀ j,j<q->S.T m j<0->S.outs c<=S.outs j
 hr:r<m
 pos:0<S.T r c
 ratio:∀ i,i<m->0<S.T i c->S.T r q*S.T i c<=S.T i q*S.T r c
 tie:∀ i,i<m->0<S.T i c->S.T r q*S.T i c=S.T i q*S.T r c->S.ins r<=S.ins i
theorem a6t {g:Nat->Int}:∀ {n:Nat},sumTo g n<0->∃ k,k<n/\g k<0
 | 0,h=>absurd h (by show ¬ (0:Int)<0; lia)
 | n+1,h=>by
  have h':sumTo g n+g n<0:=h
  by_cases c:g n<0
  ·exact ⟨n,by lia,c⟩
  ·obtain ⟨k,hk,hg⟩:=a6t (g:=g) (n:=n) (by lia)
   exact ⟨k,by lia,hg⟩
section
variable {m q:Nat} {V:Nat->C5} {S S':Bo}
theorem Wf.inj (W:Wf m q V S) {i k:Nat} (hi:i<m+1) (hk:k<m+1) (e:S.ins i=S.ins k):i=k:=by
 by_cases c1:i=m
 ·by_cases c2:k=m
  ·lia
  ·have:=W.ib k (by lia)
   rw [c1,W.im] at e;lia
 ·by_cases c2:k=m
  ·have:=W.ib i (by lia)
   rw [c2,W.im] at e;lia
  ·exact W.ii i k (by lia) (by lia) e
theorem Wf.apart (W:Wf m q V S) {i j:Nat} (hi:i<m+1) (hj:j<q+1):S.ins i≠S.outs j:=by
 intro e;have hI:S.ins i<=q+m:=by
  by_cases c1:i=m
  ·rw [c1,W.im]; exact aF _
  ·have:=W.ib i (by lia); lia
 by_cases c2:j=q
 ·rw [c2,W.oq] at e; lia
 ·have:=W.ob j (by lia)
  by_cases c1:i=m
  ·rw [c1,W.im] at e; lia
  ·exact W.io i j (by lia) (by lia) e
theorem Wf.injo (W:Wf m q V S) {j k:Nat} (hj:j<q+1) (hk:k<q+1) (e:S.outs j=S.outs k):j=k:=by
 by_cases c1:j=q
 ·by_cases c2:k=q
  ·lia
  ·have:=W.ob k (by lia)
   rw [c1,W.oq] at e;lia
 ·by_cases c2:k=q
  ·have:=W.ob j (by lia)
   rw [c2,W.oq] at e;lia
  ·exact W.oo j k (by lia) (by lia) e
def ray (m:Nat) (S:Bo) (c:Nat) (v:Nat):Int:=if v=S.outs c then S.d else sumTo (λ i=>if S.ins i=v then - S.T i c else 0) (m+1)
theorem Wf.ray_in (W:Wf m q V S) {c k:Nat} (hc:c<q+1) (hk:k<m+1):ray m S c (S.ins k) = - S.T k c:=by
 unfold ray;rw [if_neg (W.apart hk hc),sum_one hk λ i hi hn=>if_neg λ e=>hn (W.inj hi hk e),if_pos rfl]
theorem Wf.ray_out (W:Wf m q V S) {c j:Nat} (hc:c<q+1) (hj:j<q+1) (hn:j≠c):ray m S c (S.outs j)=0:=by
 unfold ray;rw [if_neg λ e=>hn (W.injo hj hc e)];exact sum_zero λ i hi=>if_neg (W.apart hi hj)
theorem Wf.ray_c {c:Nat}:ray m S c (S.outs c)=S.d:=if_pos rfl
theorem Wf.ray_ker (W:Wf m q V S) {c:Nat} (hc:c<q+1):Ker m q V S (ray m S c):=W.ker_of λ i hi=>by
 unfold a2o;rw [W.ray_in hc hi,sum_one hc λ j hj hn=>by rw [W.ray_out hc hj hn,bJ],Wf.ray_c,dN,aR];lia
theorem b2d (W:Wf m q V S) (W':Wf m q V S') (hk:∀ z,Ker m q V S z->Ker m q V S' z) {r c r' c':Nat} (C:Choice m q S r c) (C':Choice m q S' r' c') (ht:S.ins r=S'.outs c') (hst:S.outs c<S.ins r)
  (stat:∀ v,S.ins r<v->(∃ i,i<m/\S.ins i=v)->∃ i,i<m/\S'.ins i=v) (zero:∀ k j,k<m->j<q->S.ins k=S'.outs j->S.T k q=0):False:=by
 have hc1:c<q+1:=by have:=C.hc; lia
 have R:=W'.row_of (hk _ (W.ray_ker hc1)) (show m<m+1 by lia);have zobj:ray m S c (S'.ins m) = - S.T m c:=by rw [W'.im,<- W.im]; exact W.ray_in hc1 (by lia)
 have zcon:ray m S c (S'.outs q)=0:=by rw [W'.oq,<- W.oq]; exact W.ray_out hc1 (by lia) (by have:=C.hc; lia)
 unfold a2o at R
 replace R:S'.d*ray m S c (S'.ins m)+(sumTo (λ j=>S'.T m j*ray m S c (S'.outs j)) q+S'.T m q*ray m S c (S'.outs q))=0:=R
 rw [zobj,zcon,bJ,dN] at R;have hneg:0<S'.d*(- S.T m c):=dR W'.pos (by have:=C.neg; lia);rw [dN] at hneg;obtain ⟨j,hj,hg⟩:=a6t (g:=λ j=>S'.T m j*ray m S c (S'.outs j)) (n:=q) (by lia)
 replace hg:S'.T m j*ray m S c (S'.outs j)<0:=hg
 rcases W.all (S'.outs j) (W'.ob j hj) with ⟨k,hk1,e⟩ | ⟨j2,hj2,e⟩
 ·rw [<- e,W.ray_in hc1 (by lia)] at hg
  rcases lE (S'.outs j) (S.ins r) with h | h | h
  ·have h1:0<=S'.T m j:=by
    by_cases z:S'.T m j<0
    ·have:=C'.minc j hj z
     lia
    ·lia
   have h2:0<S.T k c:=by
    by_cases z:0<S.T k c
    ·exact z
    ·have:=cK h1 (show 0 <= - S.T k c by lia)
     lia
   have h3:=zero k j hk1 hj e;have h4:=C.ratio k hk1 h2;rw [h3,dY] at h4;have h5:0<=S.T r q*S.T k c:=cK (W.feas r C.hr) (aN h2);have h6:=C.tie k hk1 h2 (by rw [h3,dY]; omega);lia
  ·have e1:j=c':=W'.oo j c' hj C'.hc (by rw [h,ht])
   have e2:k=r:=W.ii k r hk1 C.hr (by rw [e,h]);rw [e1,e2] at hg;have:=dR (show 0 < - S'.T m c' by have:=C'.neg; lia) C.pos;rw [eV] at this;rw [dN] at hg;lia
  ·obtain ⟨i,hi,e3⟩:=stat _ h ⟨k,hk1,e⟩
   exact W'.io i j hi hj e3
 ·by_cases c2:j2=c
  ·rw [<- e,c2,Wf.ray_c] at hg
   have h1:S'.T m j<0:=by
    by_cases z:S'.T m j<0
    ·exact z
    ·have:=cK (show 0<=S'.T m j by lia) (aN W.pos)
     lia
   have:=C'.minc j hj h1;rw [c2] at e;lia
  ·rw [<- e,W.ray_out hc1 (by lia) c2,bJ] at hg
   lia
def Zr (m q:Nat) (S:Bo) (v:Nat):Prop:=∀ i,i<m->S.ins i=v->S.T i q=0
def Bas (m:Nat) (S:Bo) (v:Nat):Prop:=∃ i,i<m/\S.ins i=v
theorem Bas.piv (W:Wf m q V S) {r c v:Nat} (hr:r<m) (hc:c<q) (h1:v≠S.ins r) (h2:v≠S.outs c):Bas m (Lp.piv S r c) v ↔ Bas m S v:=by
 constructor
 ·rintro ⟨i,hi,e⟩
  replace e:W3 S.ins r (S.outs c) i=v:=e
  by_cases z:i=r
  ·rw [z,w4] at e; exact absurd e.symm h2
  ·rw [x6 z] at e; exact ⟨i,hi,e⟩
 ·rintro ⟨i,hi,e⟩
  have z:i≠r:=λ z=>h1 (by rw [<- e,z]);exact ⟨i,hi,(x6 z).trans e⟩
theorem Zr.piv (W:Wf m q V S) {r c:Nat} (C:Choice m q S r c) (h0:S.T r q=0) (v:Nat):Zr m q (Lp.piv S r c) v ↔ Zr m q S v:=by
 have key:∀ i,i<m->i≠r->((Lp.piv S r c).T i q=0 ↔ S.T i q=0):=λ i hi hn=>by
  have e:=W.mulT C.hr C.hc (show i<m+1 by lia) (show q<q+1 by lia) hn (show q≠c by have:=C.hc; lia);rw [h0,bJ,Int.sub_zero] at e;constructor
  ·intro z
   rw [z,bJ] at e;exact (fW.mp e.symm).resolve_right (by have:=C.pos; lia)
  ·intro z
   rw [z,dY] at e;exact (fW.mp e).resolve_left (by have:=W.pos; lia)
 have kr:(Lp.piv S r c).T r q=0:=by
  show (if r=r then (if q=c then S.d else S.T r q) else _)=0
  rw [if_pos rfl,if_neg (by have:=C.hc; lia)]; exact h0
 constructor
 ·intro h i hi e
  by_cases z:i=r
  ·rw [z]; exact h0
  ·exact (key i hi z).mp (h i hi ((x6 z).trans e))
 ·intro h i hi e
  by_cases z:i=r
  ·rw [z]; exact kr
  ·exact (key i hi z).mpr (h i hi ((x6 z).symm.trans e))
end
structure Seq (m q:Nat) (V:Nat->C5) (S:Nat->Bo) (R C:Nat->Nat):Prop where
 w:Wf m q V (S 0)
 ch:∀ k,Choice m q (S k) (R k) (C k)
 st:∀ k,S (k+1)=piv (S k) (R k) (C k)
section
variable {m q:Nat} {V:Nat->C5} {S:Nat->Bo} {R C:Nat->Nat}
theorem Seq.wf (Q:Seq m q V S R C):∀ k,Wf m q V (S k)
 | 0=>Q.w
 | k+1=>by rw [Q.st k]; exact (Q.wf k).pivot (Q.ch k).hr (Q.ch k).hc (Q.ch k).pos (Q.ch k).ratio
theorem Seq.ker (Q:Seq m q V S R C) (z:Nat->Int) (a:Nat):∀ n,Ker m q V (S (a+n)) z ↔ Ker m q V (S a) z
 | 0=>hU
 | n+1=>by
  show Ker m q V (S (a+n+1)) z ↔ _
  rw [Q.st,Ker.piv (Q.ch _).hr (Q.ch _).hc];exact Q.ker z a n
def Dg (q:Nat) (S:Nat->Bo) (R:Nat->Nat) (k:Nat):Prop:=(S k).T (R k) q=0
theorem Seq.zr (Q:Seq m q V S R C) (v a:Nat):∀ n,(∀ k,a<=k->k<a+n->Dg q S R k)->(Zr m q (S (a+n)) v ↔ Zr m q (S a) v)
 | 0,_=>hU
 | n+1,h=>by
  show Zr m q (S (a+n+1)) v ↔ _
  rw [Q.st,Zr.piv (Q.wf _) (Q.ch _) (h (a+n) (by lia) (by lia))];exact Q.zr v a n λ k h1 h2=>h k h1 (by lia)
def a4H (S:Nat->Bo) (R C:Nat->Nat) (k v:Nat):Prop:=v=(S k).ins (R k)\/v=(S k).outs (C k)
theorem Seq.bas (Q:Seq m q V S R C) (v a:Nat):∀ n,(∀ k,a<=k->k<a+n->¬ a4H S R C k v)->(Bas m (S (a+n)) v ↔ Bas m (S a) v)
 | 0,_=>hU
 | n+1,h=>by
  have hp:=h (a+n) (by lia) (by lia)
  show Bas m (S (a+n+1)) v ↔ _
  rw [Q.st,Bas.piv (Q.wf _) (Q.ch _).hr (Q.ch _).hc (λ z=>hp (.inl z)) λ z=>hp (.inr z)];exact Q.bas v a n λ k h1 h2=>h k h1 (by lia)
theorem Seq.once (Q:Seq m q V S R C) {a b t:Nat} (hd:∀ k,a<=k->k<b->Dg q S R k) (ht:∀ k,a<=k->k<b->∀ v,a4H S R C k v->v<=t):∀ (g k0 k1:Nat),k1=k0+1+g->a<=k0->k1<b->a4H S R C k0 t->a4H S R C k1 t->False:=by
 intro g
 induction g using Nat.strongRecOn with
 | _ g ih =>
  intro k0 k1 hk ha hb p0 p1
  by_cases hm:∃ k,k0<k/\k<k1/\a4H S R C k t
  ·obtain ⟨k,h1,h2,h3⟩:=hm
   exact ih (k - k0 - 1) (by lia) k0 k (by lia) ha (by lia) p0 h3
  have W0:=Q.wf k0;have W1:=Q.wf k1;have C0:=Q.ch k0;have C1:=Q.ch k1;have bmid:Bas m (S k1) t ↔ Bas m (S (k0+1)) t:=by
   have:=Q.bas t (k0+1) g λ k h1 h2=>λ z=>hm ⟨k,by lia,by lia,z⟩;rw [show k0+1+g=k1 by lia] at this;exact this
  have stat:∀ v,t<v->(Bas m (S k1) v ↔ Bas m (S k0) v):=λ v hv=>by
   have:=Q.bas v k0 (g+1) λ k h1 h2=>λ z=>by have:=ht k (by lia) (by lia) v z; lia
   rw [show k0+(g+1)=k1 by lia] at this;exact this
  have ker:∀ z,Ker m q V (S k1) z ↔ Ker m q V (S k0) z:=λ z=>by
   have:=Q.ker z k0 (g+1);rw [show k0+(g+1)=k1 by lia] at this;exact this
  have zrr:∀ v,Zr m q (S k1) v ↔ Zr m q (S k0) v:=λ v=>by
   have:=Q.zr v k0 (g+1) λ k h1 h2=>hd k (by lia) (by lia);rw [show k0+(g+1)=k1 by lia] at this;exact this
  rcases p0 with e0 | e0
  ·-- it goes out at k0,so it comes in at k1
   have nb:¬ Bas m (S (k0+1)) t:=by
    rintro ⟨i,hi,e⟩;rw [Q.st k0] at e
    replace e:W3 (S k0).ins (R k0) ((S k0).outs (C k0)) i=t:=e
    by_cases z:i=R k0
    ·rw [z,w4,e0] at e
     exact W0.io _ _ C0.hr C0.hc e.symm
    ·rw [x6 z,e0] at e
     exact z (W0.ii i (R k0) hi C0.hr e)
   rcases p1 with e1 | e1
   ·exact nb (bmid.mp ⟨_,C1.hr,e1.symm⟩)
   ·have hst:(S k0).outs (C k0)<(S k0).ins (R k0):=by
     have h1:=ht k0 ha (by lia) _ (.inr rfl);rw [e0] at h1;have:=W0.io (R k0) (C k0) C0.hr C0.hc;lia
    refine b2d W0 W1 (λ z h=>(ker z).mpr h) C0 C1 (by rw [<- e0,<- e1]) hst (λ v hv hb'=>(stat v (by rw [e0]; exact hv)).mpr hb') λ k j hk1 hj e=>?_;refine ((zrr ((S k0).ins k)).mp λ i hi e2=>?_) k hk1 rfl;rw [e] at e2;exact absurd e2 (W1.io i j hi hj)
  ·-- it comes in at k0,so it goes out at k1
   have ba:Bas m (S (k0+1)) t:=⟨R k0,C0.hr,by rw [Q.st k0]; show W3 (S k0).ins (R k0) ((S k0).outs (C k0)) (R k0)=t; rw [w4]; exact e0.symm⟩;rcases p1 with e1 | e1
   ·have hst:(S k1).outs (C k1)<(S k1).ins (R k1):=by
     have h1:=ht k1 (by lia) hb _ (.inr rfl);rw [e1] at h1;have:=W1.io (R k1) (C k1) C1.hr C1.hc;lia
    refine b2d W1 W0 (λ z h=>(ker z).mp h) C1 C0 (by rw [<- e0,<- e1]) hst (λ v hv hb'=>(stat v (by rw [e1]; exact hv)).mp hb') λ k j hk1 hj e=>?_;refine ((zrr ((S k1).ins k)).mpr λ i hi e2=>?_) k hk1 rfl;rw [e] at e2;exact absurd e2 (W0.io i j hi hj)
   ·obtain ⟨i,hi,e⟩:=bmid.mpr ba
    rw [e1] at e;exact W1.io i (C k1) hi C1.hc e
theorem Seq.short (Q:Seq m q V S R C):∀ (t a b:Nat),a<=b->(∀ k,a<=k->k<b->Dg q S R k)->(∀ k,a<=k->k<b->∀ v,a4H S R C k v->v<t)->b+1<=a+2 ^ t
 | 0,a,b,hab,hd,hp=>by
  by_cases c:a<b
  ·have:=hp a (aF _) c _ (.inl rfl)
   lia
  ·rw [Nat.pow_zero]; lia
 | t+1,a,b,hab,hd,hp=>by
  rw [lF]
  by_cases h:∃ k,a<=k/\k<b/\a4H S R C k t
  ·obtain ⟨k,h1,h2,h3⟩:=h
   have once:=Q.once hd (t:=t) λ k h1 h2 v hv=>by have:=hp k h1 h2 v hv; lia
   have i1:=Q.short t a k h1 (λ j j1 j2=>hd j j1 (by lia)) λ j j1 j2 v hv=>by
    have:=hp j j1 (by lia) v hv
    by_cases z:v=t
    ·subst z
     exact (once (k - j - 1) j k (by lia) j1 h2 hv h3).elim
    ·lia
   have i2:=Q.short t (k+1) b (by lia) (λ j j1 j2=>hd j (by lia) j2) λ j j1 j2 v hv=>by
    have:=hp j (by lia) j2 v hv
    by_cases z:v=t
    ·subst z
     exact (once (j - k - 1) k j (by lia) h1 j2 h3 hv).elim
    ·lia
   lia
  ·have:=Q.short t a b hab hd λ j j1 j2 v hv=>by
    have h4:=hp j j1 j2 v hv
    by_cases z:v=t
    ·subst z; exact absurd ⟨j,j1,j2,hv⟩ h
    ·lia
   have:0<2 ^ t:=Nat.two_pow_pos t;lia
end
section
variable {m q:Nat} {V:Nat->C5} {S:Bo}
theorem Wf.bndB {M:Nat} (hM:∀ v,Fits M (m+1) (V v)):∀ c∈Bs m V S.ins,Fits M (m+1) c:=λ c hc=>by
 obtain ⟨i,_,rfl⟩:=aK.mp hc;exact hM _
theorem Wf.bndd (W:Wf m q V S) {M:Nat} (hM:∀ v,Fits M (m+1) (V v)):S.d.natAbs<=bnd M (m+1):=by
 rw [W.hd];exact a3l (m+1) _ (a0y m V S.ins) (Wf.bndB hM)
theorem Wf.bndT (W:Wf m q V S) {M:Nat} (hM:∀ v,Fits M (m+1) (V v)) {i j:Nat} (hi:i<m+1) (hj:j<q+1):(S.T i j).natAbs<=bnd M (m+1):=by
 rw [W.hT i j hi hj];refine a3l (m+1) _ (by rw [bY]; exact a0y m V S.ins) λ c hc=>?_;rcases hV hc with h | h
 ·exact Wf.bndB hM c h
 ·rw [h]; exact hM _
def phi (m q:Nat) (M:Int) (S:Bo):Int:=M*M*S.T m q / S.d
theorem Wf.gain (W:Wf m q V S) {r c:Nat} (C:Choice m q S r c) {M:Int} (h1:S.d<=M) (h2:S.T r c<=M):phi m q M S+(if S.T r q=0 then 0 else 1)<=phi m q M (piv S r c):=by
 have hcq:c<q:=C.hc;have hrm:r<m:=C.hr;have e:=W.mulT hrm hcq (show m<m+1 by lia) (show q<q+1 by lia) (show m≠r by lia) (show q≠c by lia);have hp:=C.pos;have hd:=W.pos;have hn:=C.neg;have hf:=W.feas r hrm;unfold phi
 show _<=M*M*(piv S r c).T m q / S.T r c
 generalize (piv S r c).T m q=N' at *;generalize S.T m q=N at *;generalize S.T r c=p at *;generalize S.d=d at *;generalize S.T m c=g at *;generalize S.T r q=b at *;rw [Int.le_ediv_iff_mul_le hp];have hfl:M*M*N / d*d<=M*M*N:=Int.ediv_mul_le _ (by lia);generalize M*M*N / d=f at *;have hM:0<M:=by lia
 have hMM:d*p<=M*M:=lG h1 h2 (aN hp) (aN hM);have key:(f+(if b=0 then 0 else 1))*p*d<=M*M*N'*d:=by
  have a1:M*M*N'*d=M*M*N*p+M*M*(-(g*b)):=by
   have:N'*d=N*p - g*b:=by rw [aR N' d]; exact e
   rw [aX (M*M),this,fV,aX (M*M),dN];lia
  have a2:f*d*p<=M*M*N*p:=dA hfl (aN hp);have a3:f*p*d=f*d*p:=by rw [aX,aR p d,<- aX]
  by_cases c0:b=0
  ·rw [if_pos c0,dH,a1,a3,c0]
   simp only [bJ,Int.neg_zero,dH];exact a2
  ·rw [if_neg c0]
   have a4:1 <= -(g*b):=by
    have:=dR (show 0 < -g by lia) (show 0<b by lia);rw [eV] at this;lia
   have a5:M*M*1<=M*M*(-(g*b)):=eW a4 (cK (aN hM) (aN hM));rw [cD,cD,fH,a3,a1];rw [aR d p] at hMM;lia
 exact hW key hd
theorem Wf.phi_le (W:Wf m q V S) {M:Int} (h1:S.T m q<=M) (h0:0<M):phi m q M S<=M*M*M:=by
 unfold phi;refine Int.ediv_le_of_le_mul W.pos ?_;have a1:M*M*S.T m q<=M*M*M:=eW h1 (cK (aN h0) (aN h0));have a2:M*M*M*1<=M*M*M*S.d:=eW (by have:=W.pos; lia) (cK (cK (aN h0) (aN h0)) (aN h0));lia
end
section
variable {m q:Nat} {V:Nat->C5} {S:Nat->Bo} {R C:Nat->Nat}
theorem Seq.part_lt (Q:Seq m q V S R C) (k v:Nat) (h:a4H S R C k v):v<q+m:=by
 rcases h with h | h
 ·rw [h]; exact (Q.wf k).ib _ (Q.ch k).hr
 ·rw [h]; exact (Q.wf k).ob _ (Q.ch k).hc
theorem Seq.never (Q:Seq m q V S R C) {M:Nat} (hM:∀ v,Fits M (m+1) (V v)):False:=by
 obtain ⟨B,hB⟩:∃ B:Int,B=(bnd M (m+1):Int):=⟨_,rfl⟩;have bT:∀ k i j,i<m+1->j<q+1->(S k).T i j<=B:=λ k i j hi hj=>by
  have:=(Q.wf k).bndT hM hi hj;lia
 have bd:∀ k,(S k).d<=B:=λ k=>by
  have:=(Q.wf k).bndd hM;lia
 have B0:0<B:=by have:=bd 0; have:=(Q.wf 0).pos; lia
 have up:∀ k,phi m q B (S k)+(if (S k).T (R k) q=0 then 0 else 1)<=phi m q B (S (k+1)):=λ k=>by
  rw [Q.st k];exact (Q.wf k).gain (Q.ch k) (bd k) (bT k _ _ (by have:=(Q.ch k).hr; lia) (by have:=(Q.ch k).hc; lia))
 have mono:∀ n k,phi m q B (S k)<=phi m q B (S (k+n)):=λ n=>by
  induction n with
  | zero=>intro k; exact bO _
  | succ n ih =>
   intro k;have h1:=ih k;have h2:=up (k+n);have h3:phi m q B (S (k+n))<=phi m q B (S (k+n+1)):=by
    split at h2 <;> lia
   exact eX h1 h3
 have top:∀ k,phi m q B (S k)<=B*B*B:=λ k=>(Q.wf k).phi_le (bT k m q (by lia) (by lia)) B0;have gap:∀ (g:Nat) (k:Nat),B*B*B - phi m q B (S k)<=(g:Int)->False:=by
  intro g
  induction g with
  | zero =>
   intro k hk;have:∃ j,k<=j/\j<k+2 ^ (q+m)/\¬ Dg q S R j:=by
    refine fJ λ hn=>?_;have:=Q.short (q+m) k (k+2 ^ (q+m)) (fQ _ _) (λ j h1 h2=>fJ λ z=>hn ⟨j,h1,h2,z⟩) λ j _ _ v hv=>Q.part_lt j v hv;lia
   obtain ⟨j,h1,h2,h3⟩:=this;have u:=up j;rw [if_neg (show ¬ (S j).T (R j) q=0 from h3)] at u;have m1:=mono (j - k) k;rw [show k+(j - k)=j by lia] at m1;have:=top (j+1);lia
  | succ g ih =>
   intro k hk;have:∃ j,k<=j/\j<k+2 ^ (q+m)/\¬ Dg q S R j:=by
    refine fJ λ hn=>?_;have:=Q.short (q+m) k (k+2 ^ (q+m)) (fQ _ _) (λ j h1 h2=>fJ λ z=>hn ⟨j,h1,h2,z⟩) λ j _ _ v hv=>Q.part_lt j v hv;lia
   obtain ⟨j,h1,h2,h3⟩:=this;have u:=up j;rw [if_neg (show ¬ (S j).T (R j) q=0 from h3)] at u;have m1:=mono (j - k) k;rw [show k+(j - k)=j by lia] at m1;exact ih (j+1) (by lia)
 exact gap (B*B*B - phi m q B (S 0)).toNat 0 (by lia)
end
inductive Ends (m q:Nat):Bo->Nat->Prop
 | stop {S:Bo}:(¬ ∃ r c,Choice m q S r c)->Ends m q S 0
 | go {S:Bo} {r c k:Nat}:Choice m q S r c->Ends m q (piv S r c) k->Ends m q S (k+1)
theorem Choice.uniq {m q:Nat} {V:Nat->C5} {S:Bo} (W:Wf m q V S) {r c r' c':Nat} (h:Choice m q S r c) (h':Choice m q S r' c'):r=r'/\c=c':=by
 have ec:c=c':=W.oo c c' h.hc h'.hc (lH (h.minc c' h'.hc h'.neg) (h'.minc c h.hc h.neg));subst ec;have e1:=h.ratio r' h'.hr h'.pos;have e2:=h'.ratio r h.hr h.pos;have e:S.T r q*S.T r' c=S.T r' q*S.T r c:=by lia
 exact ⟨W.ii r r' h.hr h'.hr (lH (h.tie r' h'.hr h'.pos e) (h'.tie r h.hr h.pos e.symm)),rfl⟩
theorem Ends.next {m q:Nat} {V:Nat->C5} {S:Bo} (W:Wf m q V S) {k r c:Nat} (h:Ends m q S k) (C:Choice m q S r c):∃ j,j<k/\Ends m q (piv S r c) j:=by
 cases h with
 | stop hn=>exact absurd ⟨r,c,C⟩ hn
 | go C' h' =>
  obtain ⟨rfl,rfl⟩:=C.uniq W C';exact ⟨_,eH _,h'⟩
theorem Wf.ends {m q:Nat} {V:Nat->C5} {M:Nat} (hM:∀ v,Fits M (m+1) (V v)) {S:Bo} (W:Wf m q V S):∃ k,Ends m q S k:=by
 refine fJ λ hn=>?_;have ch:∀ S',Wf m q V S'->(¬ ∃ k,Ends m q S' k)->∃ p:Nat×Nat,Choice m q S' p.1 p.2:=λ S' _ h'=>by
  refine fJ λ z=>h' ⟨0,.stop λ ⟨r,c,C⟩=>z ⟨(r,c),C⟩⟩
 let St:={ S':Bo // Wf m q V S'/\¬ ∃ k,Ends m q S' k }
 let pk:(X:St)->Nat×Nat:=λ X=>(ch X.1 X.2.1 X.2.2).choose
 have pc:∀ X:St,Choice m q X.1 (pk X).1 (pk X).2:=λ X=>(ch X.1 X.2.1 X.2.2).choose_spec
 let nx:St->St:=λ X=>⟨piv X.1 (pk X).1 (pk X).2,X.2.1.pivot (pc X).hr (pc X).hc (pc X).pos (pc X).ratio,λ ⟨k,e⟩=>X.2.2 ⟨k+1,.go (pc X) e⟩⟩
 let sq:Nat->St:=λ k=>Nat.rec ⟨S,W,hn⟩ (λ _ X=>nx X) k
 exact Seq.never (S:=λ k=>(sq k).1) (R:=λ k=>(pk (sq k)).1) (C:=λ k=>(pk (sq k)).2) ⟨W,λ k=>pc (sq k),λ k=>rfl⟩ hM
def Vv (m q:Nat) (A:Nat->Nat->Int) (b c:Nat->Int):Nat->C5:=λ v x =>
 if v<q then (if x<m then A x v else if x=m then - c v else 0) else if v<q+m+1 then (if x=v - q then 1 else 0) else (if x<m then b x else 0)
def S0 (m q:Nat) (A:Nat->Nat->Int) (b c:Nat->Int):Bo where
 d:=1
 T:=λ i j=>if j<q then (if i<m then A i j else - c j) else (if i<m then b i else 0)
 ins:=λ i=>q+i
 outs:=λ j=>if j<q then j else q+m+1
section
variable {m q:Nat} {A:Nat->Nat->Int} {b c:Nat->Int}
theorem b2M {v x:Nat} (h:v<q):Vv m q A b c v x=if x<m then A x v else if x=m then - c v else 0:=by unfold Vv; rw [if_pos h]
theorem b4h {i:Nat} (h:i<m+1):Vv m q A b c (q+i)=P2 i:=by
 funext x
 unfold Vv P2;rw [if_neg (by lia),if_pos (by lia),show q+i - q=i by lia]
theorem b4l {x:Nat}:Vv m q A b c (q+m+1) x=if x<m then b x else 0:=by unfold Vv; rw [if_neg (by lia),if_neg (by lia)]
theorem b1T {v x:Nat} (h:m<x):Vv m q A b c v x=0:=by
 unfold Vv
 by_cases h1:v<q
 ·rw [if_pos h1,if_neg (by lia),if_neg (by lia)]
 ·rw [if_neg h1]
  by_cases h2:v<q+m+1
  ·rw [if_pos h2,if_neg (by lia)]
  ·rw [if_neg h2,if_neg (by lia)]
theorem Bs0:Bs m (Vv m q A b c) (S0 m q A b c).ins=(aH (m+1)).map P2:=by
 unfold Bs;exact cZ λ i hi=>b4h (dZ.mp hi)
theorem a5a {n k:Nat} (h:k<n):((aH n).map P2).getD k zv=P2 k:=by rw [aG,aE,bI h]; rfl
theorem a2X {n:Nat} {u:C5} (hu:∀ x,n<=x->u x=0) (x:Nat):sumTo (λ k=>u k*P2 k x) n=u x:=by
 by_cases h:x<n
 ·rw [sum_one h λ k _ hn=>by show u k*(if x=k then 1 else 0)=0; rw [if_neg (aO hn),bJ]]
  show u x*(if x=x then 1 else 0)=u x
  rw [if_pos rfl,dD]
 ·rw [hu x (by lia)]
  refine sum_zero λ k hk=>?_
  show u k*(if x=k then 1 else 0)=0
  rw [if_neg (by lia),bJ]
theorem a0g {n i:Nat} (hi:i<n) {u:C5} (hu:∀ x,n<=x->u x=0):B7 n (((aH n).map P2).set i u)=u i:=by
 have hl:((aH n).map P2).length=n:=by rw [aA,cW]
 have h:=a1F hl hi u P2 n;have e:(λ x:Nat=>sumTo (λ k=>u k*P2 k x) n)=u:=by funext x; exact a2X hu x
 rw [e,sum_one hi λ k hk hn=>?_] at h
 ·rw [h,<- a5a hi,N7 (by lia),Z9,dD]
 ·have:B7 n (((aH n).map P2).set i (P2 k))=0:=by
   refine U6 (i:=k) (k:=i) (u:=P2 k) (by rw [bY]; exact hl) hn ?_ ?_
   ·rw [bS (aO hn),aE,bI hk]; rfl
   ·rw [cO (by lia)]
  rw [this,bJ]
theorem wf0 (hb:∀ i,i<m->0<=b i):Wf m q (Vv m q A b c) (S0 m q A b c):=by
 have far:∀ v x,m+1<=x->Vv m q A b c v x=0:=λ v x h=>b1T (by lia);refine ⟨?_,λ i j hi hj=>?_,λ j hj x=>?_,Int.one_pos,λ i hi=>?_,rfl,?_,λ i hi=>?_,λ j hj=>?_,λ i k hi hk e=>?_,λ j k hj hk e=>?_,λ i j hi hj e=>?_,λ v hv=>?_⟩
 ·rw [Bs0,Z9]; rfl
 ·rw [Bs0,a0g hi (far _)]
  show (if j<q then (if i<m then A i j else - c j) else (if i<m then b i else 0))=Vv m q A b c (if j<q then j else q+m+1) i
  by_cases h:j<q
  ·rw [if_pos h,if_pos h,b2M h]
   by_cases h2:i<m
   ·rw [if_pos h2,if_pos h2]
   ·rw [if_neg h2,if_neg h2,if_pos (by lia)]
  ·rw [if_neg h,if_neg h,b4l]
 ·rw [Bs0,Z9,fH]
  have e:sumTo (λ k=>B7 (m+1) (((aH (m+1)).map P2).set k (Vv m q A b c ((S0 m q A b c).outs j)))*(((aH (m+1)).map P2).getD k zv) x) (m+1)=sumTo (λ k=>Vv m q A b c ((S0 m q A b c).outs j) k*P2 k x) (m+1) :=
   sum_congr λ k hk=>by rw [a0g hk (far _),a5a hk]
  rw [e,a2X (far _)]
 ·show 0<=(if q<q then _ else (if i<m then b i else 0))
  rw [if_neg (bR _),if_pos hi]; exact hb i hi
 ·show (if q<q then q else q+m+1)=q+m+1
  rw [if_neg (bR _)]
 ·show q+i<q+m; lia
 ·show (if j<q then j else q+m+1)<q+m
  rw [if_pos hj]; lia
 ·replace e:q+i=q+k:=e
  lia
 ·replace e:(if j<q then j else q+m+1)=(if k<q then k else q+m+1):=e
  rw [if_pos hj,if_pos hk] at e;exact e
 ·replace e:q+i=(if j<q then j else q+m+1):=e
  rw [if_pos hj] at e;lia
 ·by_cases h:v<q
  ·exact .inr ⟨v,h,if_pos h⟩
  ·exact .inl ⟨v - q,by lia,by show q+(v - q)=v; lia⟩
theorem ker0 {z:Nat->Int}:Ker m q (Vv m q A b c) (S0 m q A b c) z ↔ (∀ i,i<m->z (q+i)+sumTo (λ j=>A i j*z j) q+b i*z (q+m+1)=0)/\z (q+m)=sumTo (λ j=>c j*z j) q:=by
  have e:∀ x,sumTo (λ k=>z ((S0 m q A b c).ins k)*Vv m q A b c ((S0 m q A b c).ins k) x) (m+1)+sumTo (λ j=>z ((S0 m q A b c).outs j)*Vv m q A b c ((S0 m q A b c).outs j) x) (q+1)
     =(if x<m+1 then z (q+x) else 0)+(sumTo (λ j=>z j*Vv m q A b c j x) q+z (q+m+1)*(if x<m then b x else 0)):=λ x=>by
    have e1:sumTo (λ k=>z ((S0 m q A b c).ins k)*Vv m q A b c ((S0 m q A b c).ins k) x) (m+1)=if x<m+1 then z (q+x) else 0:=by
      have:sumTo (λ k=>z ((S0 m q A b c).ins k)*Vv m q A b c ((S0 m q A b c).ins k) x) (m+1)=sumTo (λ k=>z (q+k)*P2 k x) (m+1):=sum_congr λ k hk=>by
        show z (q+k)*Vv m q A b c (q+k) x=_
        rw [b4h hk]
      rw [this]
      by_cases h:x<m+1
      . rw [if_pos h,sum_one h λ k _ hn=>by show z (q+k)*(if x=k then 1 else 0)=0; rw [if_neg (aO hn),bJ]]
        show z (q+x)*(if x=x then 1 else 0)=_
        rw [if_pos rfl,dD]
      . rw [if_neg h]
        refine sum_zero λ k hk=>?_
        show z (q+k)*(if x=k then 1 else 0)=0
        rw [if_neg (by lia),bJ]
    have e2:sumTo (λ j=>z ((S0 m q A b c).outs j)*Vv m q A b c ((S0 m q A b c).outs j) x) (q+1)=sumTo (λ j=>z j*Vv m q A b c j x) q+z (q+m+1)*(if x<m then b x else 0):=by
      show sumTo (λ j=>z (if j<q then j else q+m+1)*Vv m q A b c (if j<q then j else q+m+1) x) q+z (if q<q then q else q+m+1)*Vv m q A b c (if q<q then q else q+m+1) x=_
      rw [if_neg (bR _),b4l];have:sumTo (λ j=>z (if j<q then j else q+m+1)*Vv m q A b c (if j<q then j else q+m+1) x) q=sumTo (λ j=>z j*Vv m q A b c j x) q:=sum_congr λ j hj=>by rw [if_pos hj]
      rw [this]
    rw [e1,e2]
  have am:∀ i,i<m->sumTo (λ j=>z j*Vv m q A b c j i) q=sumTo (λ j=>A i j*z j) q:=λ i hi=>sum_congr λ j hj=>by rw [b2M hj,if_pos hi,aR]
  have ob:sumTo (λ j=>z j*Vv m q A b c j m) q = - sumTo (λ j=>c j*z j) q:=by
    rw [show - sumTo (λ j=>c j*z j) q=(-1)*sumTo (λ j=>c j*z j) q by lia,<- A4];refine sum_congr λ j hj=>?_;rw [b2M hj,if_neg (bR _),if_pos rfl,dN,aR];lia
  constructor
  . intro h
    refine ⟨λ i hi=>?_,?_⟩
    . have:=h i
      rw [e i,if_pos (by lia),if_pos hi,am i hi,aR (z (q+m+1))] at this;lia
    . have:=h m
      rw [e m,if_pos (by lia),if_neg (bR _),ob,bJ] at this;lia
  . rintro ⟨h1,h2⟩ x
    rw [e x]
    by_cases c1:x<m
    . have:=h1 x c1
      rw [if_pos (by lia),if_pos c1,am x c1,aR (z (q+m+1))];lia
    . by_cases c2:x=m
      . subst c2
        rw [if_pos (by lia),if_neg (bR _),ob,bJ];lia
      . rw [if_neg (by lia),if_neg c1,bJ,sum_zero λ j hj=>by rw [b1T (by lia),bJ]]
        rfl
end
def valIn (m:Nat) (S:Bo) (q v:Nat):Int:=sumTo (λ i=>if S.ins i=v then S.T i q else 0) m
def valOut (m q:Nat) (S:Bo) (v:Nat):Int:=sumTo (λ j=>if S.outs j=v then S.T m j else 0) q
theorem a5B {g:Nat->Int}:∀ {n:Nat},(∀ k,k<n->0<=g k)->0<=sumTo g n
 | 0,_=>bO 0
 | n+1,h=>by
  have h1:=a5B (g:=g) (n:=n) λ k hk=>h k (by lia);have h2:=h n (by lia)
  show 0<=sumTo g n+g n
  lia
section
variable {m q:Nat} {A:Nat->Nat->Int} {b c:Nat->Int} {S:Bo}
structure Of (m q:Nat) (A:Nat->Nat->Int) (b c:Nat->Int) (S:Bo):Prop where
 w:Wf m q (Vv m q A b c) S
 k:∀ z,Ker m q (Vv m q A b c) S z ↔ Ker m q (Vv m q A b c) (S0 m q A b c) z
theorem of0 (hb:∀ i,i<m->0<=b i):Of m q A b c (S0 m q A b c):=⟨wf0 hb,λ _=>hU⟩
theorem Of.piv (O:Of m q A b c S) {r cc:Nat} (C:Choice m q S r cc):Of m q A b c (Lp.piv S r cc) :=
 ⟨O.w.pivot C.hr C.hc C.pos C.ratio,λ z=>(Ker.piv C.hr C.hc).trans (O.k z)⟩
theorem Of.valIn_nn (O:Of m q A b c S) (v:Nat):0<=valIn m S q v:=a5B λ i hi=>by
 split
 ·exact O.w.feas i hi
 ·exact bO 0
theorem Of.ray_val (O:Of m q A b c S) {v:Nat} (hv:v<q+m):ray m S q v = - valIn m S q v:=by
 unfold ray;rw [if_neg (by rw [O.w.oq]; lia)]
 show sumTo _ m+(if S.ins m=v then - S.T m q else 0)=_
 rw [if_neg (by rw [O.w.im]; lia),dH];unfold valIn;rw [show - sumTo (λ i=>if S.ins i=v then S.T i q else 0) m=(-1)*sumTo (λ i=>if S.ins i=v then S.T i q else 0) m by lia,<- A4];refine sum_congr λ i _=>?_
 split <;> lia
theorem Of.primal (O:Of m q A b c S):(∀ i,i<m->sumTo (λ j=>A i j*valIn m S q j) q+valIn m S q (q+i)=b i*S.d)/\sumTo (λ j=>c j*valIn m S q j) q=S.T m q:=by
 have K:=(ker0.mp ((O.k _).mp (O.w.ray_ker (show q<q+1 by lia))));have co:ray m S q (q+m+1)=S.d:=by rw [<- O.w.oq]; exact Wf.ray_c
 have oo:ray m S q (q+m) = - S.T m q:=by rw [<- O.w.im]; exact O.w.ray_in (by lia) (by lia)
 have am:∀ g:Nat->Int,sumTo (λ j=>g j*ray m S q j) q = - sumTo (λ j=>g j*valIn m S q j) q:=λ g=>by
  rw [show - sumTo (λ j=>g j*valIn m S q j) q=(-1)*sumTo (λ j=>g j*valIn m S q j) q by lia,<- A4];refine sum_congr λ j hj=>?_;rw [O.ray_val (by lia),dN];lia
 refine ⟨λ i hi=>?_,?_⟩
 ·have:=K.1 i hi
  rw [O.ray_val (by lia),am,co] at this;lia
 ·have:=K.2
  rw [oo,am] at this;lia
theorem Of.valOut_nn (h:∀ j,j<q->0<=S.T m j) (v:Nat):0<=valOut m q S v:=a5B λ j hj=>by
 split
 ·exact h j hj
 ·exact bO 0
theorem a8C (O:Of m q A b c S) (z:Nat->Int):sumTo (λ j=>S.T m j*z (S.outs j)) q=sumTo (λ v=>valOut m q S v*z v) (q+m):=by
 have e:∀ v,v<q+m->valOut m q S v*z v=sumTo (λ j=>(if S.outs j=v then S.T m j else 0)*z v) q:=λ v _=>by
  unfold valOut;rw [aR,<- A4];exact sum_congr λ j _=>aR _ _
 rw [sum_congr e,U3];refine sum_congr λ j hj=>?_;rw [sum_one (O.w.ob j hj) λ v _ hn=>by rw [if_neg (aO hn),dY],if_pos rfl]
theorem Of.row_goal (O:Of m q A b c S) {z:Nat->Int} (h:Ker m q (Vv m q A b c) (S0 m q A b c) z):S.d*z (q+m)+sumTo (λ v=>valOut m q S v*z v) (q+m)+S.T m q*z (q+m+1)=0:=by
 have R:=O.w.row_of ((O.k z).mpr h) (show m<m+1 by lia);unfold a2o at R
 replace R:S.d*z (S.ins m)+(sumTo (λ j=>S.T m j*z (S.outs j)) q+S.T m q*z (S.outs q))=0:=R
 rw [O.w.im,O.w.oq,a8C O] at R;lia
theorem a0E {g:Nat->Int} (n:Nat):∀ k:Nat,sumTo g (n+k)=sumTo g n+sumTo (λ i=>g (n+i)) k
 | 0=>(dH _).symm
 | k+1=>by
  show sumTo g (n+k)+g (n+k)=sumTo g n+(sumTo (λ i=>g (n+i)) k+g (n+k))
  rw [a0E n k];lia
theorem Of.dual (O:Of m q A b c S):(∀ j,j<q->sumTo (λ i=>A i j*valOut m q S (q+i)) m=c j*S.d+valOut m q S j)/\sumTo (λ i=>b i*valOut m q S (q+i)) m=S.T m q:=by
 constructor
 ·intro j hj
  have hk:Ker m q (Vv m q A b c) (S0 m q A b c) (λ v=>if v<q then (if v=j then 1 else 0) else if v<q+m then - A (v - q) j else if v=q+m then c j else 0):=by
   refine ker0.mpr ⟨λ i hi=>?_,?_⟩
   ·rw [if_neg (by lia),if_pos (by lia),show q+i - q=i by lia,if_neg (by lia),if_neg (by lia),if_neg (by lia),bJ,sum_one hj λ k hk hn=>by rw [if_pos hk,if_neg hn,bJ],if_pos hj,if_pos rfl]
    lia
   ·rw [if_neg (by lia),if_neg (by lia),if_pos rfl,sum_one hj λ k hk hn=>by rw [if_pos hk,if_neg hn,bJ],if_pos hj,if_pos rfl]
    lia
  have R:=O.row_goal hk;rw [if_neg (by lia),if_neg (by lia),if_pos rfl,if_neg (by lia),if_neg (by lia),if_neg (by lia),bJ,a0E,sum_one hj λ k hk hn=>by rw [if_pos hk,if_neg hn,bJ],if_pos hj,if_pos rfl] at R;have e:sumTo (λ i=>valOut m q S (q+i)*(if q+i<q then (if q+i=j then 1 else 0) else if q+i<q+m then - A (q+i - q) j else if q+i=q+m then c j else 0)) m = - sumTo (λ i=>A i j*valOut m q S (q+i)) m:=by
   rw [show - sumTo (λ i=>A i j*valOut m q S (q+i)) m=(-1)*sumTo (λ i=>A i j*valOut m q S (q+i)) m by lia,<- A4];refine sum_congr λ i hi=>?_;rw [if_neg (by lia),if_pos (by lia),show q+i - q=i by lia,dN,aR];lia
  rw [e,aR S.d] at R;lia
 ·have hk:Ker m q (Vv m q A b c) (S0 m q A b c) (λ v=>if v<q then 0 else if v<q+m then b (v - q) else if v=q+m then 0 else -1):=by
   refine ker0.mpr ⟨λ i hi=>?_,?_⟩
   ·rw [if_neg (by lia),if_pos (by lia),show q+i - q=i by lia,if_neg (by lia),if_neg (by lia),if_neg (by lia),sum_zero λ k hk=>by rw [if_pos hk,bJ]]
    lia
   ·rw [if_neg (by lia),if_neg (by lia),if_pos rfl,sum_zero λ k hk=>by rw [if_pos hk,bJ]]
  have R:=O.row_goal hk;rw [if_neg (by lia),if_neg (by lia),if_pos rfl,if_neg (by lia),if_neg (by lia),if_neg (by lia),bJ,a0E,sum_zero λ k hk=>by rw [if_pos hk,bJ]] at R;have e:sumTo (λ i=>valOut m q S (q+i)*(if q+i<q then 0 else if q+i<q+m then b (q+i - q) else if q+i=q+m then 0 else -1)) m=sumTo (λ i=>b i*valOut m q S (q+i)) m :=
   sum_congr λ i hi=>by rw [if_neg (by lia),if_pos (by lia),show q+i - q=i by lia,aR]
  rw [e] at R;lia
end
end Lp
namespace Rim
open PySem L2
def top (i:Nat):Stmt:=PySem.Challenge.pw_rimhouse_k27_whole_merged_behind.main.body.getD i (.Pass ⟨0,0,0,0⟩)
abbrev b3q:Stmt:=top 5
abbrev b2H:Stmt:=top 6
abbrev b2B:Stmt:=top 10
abbrev a5s:Stmt:=top 12
abbrev K6:Stmt:=top 14
abbrev a3C:Stmt:=top 17
abbrev N8:Stmt:=top 19
abbrev V8:Stmt:=top 20
abbrev E1:Stmt:=top 22
abbrev b0k:Stmt:=top 24
abbrev a5w:Stmt:=top 25
abbrev a6i:Stmt:=top 26
abbrev a0G:Stmt:=top 21
abbrev a5E:Stmt:=top 33
abbrev b0q:Stmt:=top 35
abbrev a5L:Stmt:=top 36
abbrev b0o:Stmt:=top 38
abbrev a0D:Stmt:=top 39
abbrev a1l:Stmt:=top 46
abbrev J8:Stmt:=top 7
abbrev P8:Stmt:=top 18
abbrev Q1:Stmt:=top 28
abbrev Y6:Stmt:=top 30
abbrev P9:Stmt:=top 31
abbrev U4:Stmt:=top 44
abbrev A8:Stmt:=top 45
abbrev Y5:Stmt:=top 13
abbrev a4s:Stmt:=S3 Y5 0
abbrev a3U:Stmt:=S3 Y5 1
abbrev a6j:Stmt:=S3 Y5 2
abbrev a5u:Stmt:=S3 Y5 3
abbrev N5:Stmt:=S3 Y5 4
abbrev a9z:Stmt:=S3 Y5 5
abbrev b3u:Stmt:=S3 Y5 6
abbrev b0f:Pos:=⟨50,32,50,64⟩
structure A3 (mg:Str->Option Value):Prop where
 len:mg "len"=none
 all:mg "all"=none
 any:mg "any"=none
 max:mg "max"=none
 min:mg "min"=none
 sum:mg "sum"=none
 tuple:mg "tuple"=none
 list:mg "list"=none
 int:mg "int"=none
 bool:mg "bool"=none
 range:mg "range"=none
 isi:mg "isinstance"=none
 abs:mg "abs"=none
 zip:mg "zip"=none
 enum:mg "enumerate"=none
 ve:mg "ValueError"=none
 so:mg "sorted"=none
def b6g (K:W.Frag):List V->Hp->VK->Prop:=λ xs H Q=>∃ p ys,xs=[.ref p]/\(SqL K H p ys\/SqT K H p ys)/\Q (.int (ys.length:Int)) H
theorem a8X (K:W.Frag) {X:Cx} (h:X.K=K):M2 X (.builtin "len") (b6g K):=by subst h; exact j9
theorem a0R (K:W.Frag) {X:Cx} (h:X.K=K):IxR X (b4c K):=by subst h; exact j6
theorem K8 (K:W.Frag) {X:Cx} {es:List Expr} {k:Nat} {t:TGs} {n:Nat} {pos:Pos} (h:X.K=K) (hc:X.calm=true) (hp:PGs X es t) (hn:(assignEach es X.env).length=n:=by rfl) (hst:(assignEach es X.env).findIdx? (·.1)=none:=by rfl):PG X (.Tuple es k pos) (a8d K n t):=by subst h; exact O2 hc hp hn hst
def b4y (K:W.Frag):List V->Hp->VK->Prop:=λ xs H Q=>∃ p ys,xs=[.ref p]/\(SqL K H p ys\/SqT K H p ys)/\∀ l,H l=none->Q (.ref l) (upd H l (.lst ys))
theorem a6I (K:W.Frag) {X:Cx} (h:X.K=K):M2 X (.type "list") (b4y K):=by subst h; exact E5
def vI:V->Int
 | .int i=>i
 | _=>0
theorem S1 {ns:List Int} {i:Nat} {x:V} (h:(ns.map V.int)[i]?=some x):∃ k,x=.int k:=by
 rw [aE] at h
 cases hn:ns[i]? with
 | none=>rw [hn] at h; cases h
 | some k=>rw [hn] at h; cases h; exact ⟨k,rfl⟩
theorem b4B {N:VK} {b b':Bool} {H:Hp} (h:N (.bl b) H) (e:b'=b):N (.bl b') H:=by rw [e]; exact h
abbrev i7:=List Int×List Int
def HS (K:W.Frag) (H:Hp) (v:V) (h:i7):Prop:=∃ a t g,v=.ref a/\SqT K H a [.ref t,.ref g]/\SqT K H t (h.1.map V.int)/\SqT K H g (h.2.map V.int)
abbrev Bk (K:W.Frag) (H:Hp):List V->List i7->Prop:=bZ (HS K H)
theorem HS.same {K:W.Frag} {H H':Hp} {v:V} {h:i7} (e:Same H H') (x:HS K H v h):HS K H' v h:=by
 obtain ⟨a,t,g,h0,h1,h2,h3⟩:=x;exact ⟨a,t,g,h0,e.tseq h1,e.tseq h2,e.tseq h3⟩
theorem Bk.same {K:W.Frag} {H H':Hp} {vs:List V} {hs:List i7} (e:Same H H') (x:Bk K H vs hs):Bk K H' vs hs:=Paired.imp' (λ _ _ r=>HS.same e r) x
theorem Paired.at {α β:Type} {F:α->β->Prop}:∀ {l₁:List α} {l₂:List β},bZ F l₁ l₂->∀ {i:Nat} {x:α},l₁[i]?=some x->∃ y,l₂[i]?=some y/\F x y
 | _,_,.nil,_,_,e=>by simp at e
 | _,_,.cons r _,0,_,e=>by simp at e; subst e; exact ⟨_,rfl,r⟩
 | _,_,.cons _ t,i+1,x,e=>by
  obtain ⟨y,h1,h2⟩:=Paired.at t (i:=i) (x:=x) (by simpa using e);exact ⟨y,by simpa using h1,h2⟩
def x8 (q:Nat) (S:Lp.Bo) (i:Nat):List Int:=(aH (q+1)).map (S.T i)
def K4 (q:Nat) (S:Lp.Bo):List Int:=(aH q).map λ j=>(S.outs j:Int)
def O4 (m:Nat) (S:Lp.Bo):List Int:=(aH m).map λ i=>(S.ins i:Int)
abbrev bdF (q:Nat) (d:Int) (ca oa ia:Addr):List (Str×V):=[("many",.int q),("scale",.int d),("cells",.ref ca),("outs",.ref oa),("ins",.ref ia)]
structure Bd (C:Addr) (H:Hp) (p dx ca oa ia:Addr) (rs:List Addr) (m q:Nat) (S:Lp.Bo):Prop where
 obj:H p=some (.ins C dx (bdF q S.d ca oa ia))
 cel:H ca=some (.lst (rs.map V.ref))
 len:rs.length=m+1
 row:∀ i r,rs[i]?=some r->H r=some (.lst ((x8 q S i).map V.int))
 out:H oa=some (.lst ((K4 q S).map V.int))
 inn:H ia=some (.lst ((O4 m S).map V.int))
 ne:oa≠ia
structure TB (K:W.Frag) (C:Addr):Prop where
 cl:Cls K C
 nM:NoAttr K C "many"
 nS:NoAttr K C "scale"
 nC:NoAttr K C "cells"
 nO:NoAttr K C "outs"
 nI:NoAttr K C "ins"
section
variable {C:Addr} {H H':Hp} {p dx ca oa ia:Addr} {rs:List Addr} {m q:Nat} {S:Lp.Bo}
theorem Bd.rs_at (B:Bd C H p dx ca oa ia rs m q S) {i:Nat} (h:i<m+1):∃ r,rs[i]?=some r/\S8 (rs.map V.ref) (i:Int)=some (.ref r):=by
 have h':i<rs.length:=by rw [B.len]; exact h
 refine ⟨rs[i],aD h',v8 ?_⟩;rw [aE,aD h']; rfl
theorem W2 {i j:Nat} (h:j<q+1):S8 ((x8 q S i).map V.int) (j:Int)=some (.int (S.T i j)):=v8 (by
 unfold x8;rw [aE,aE,bI h]; rfl)
theorem a6r {α:Type} {xs:List α} {n:Nat} {v:α} (hl:xs.length=n+1) (h:xs[n]?=some v):S8 xs (-1)=some v:=by
 have e:ixN xs.length (-1)=some n:=by
  unfold ixN;rw [hl,if_neg (by decide),if_pos (by lia)]
  congr 1
  lia
 unfold S8; rw [e]; exact h
theorem V3 {i:Nat}:S8 ((x8 q S i).map V.int) (-1)=some (.int (S.T i q)):=a6r (n:=q) (by unfold x8; simp) (by
 unfold x8;rw [aE,aE,bI (eH _)]; rfl)
theorem Bd.rs_last (B:Bd C H p dx ca oa ia rs m q S):∃ r,rs[m]?=some r/\S8 (rs.map V.ref) (-1)=some (.ref r):=by
 have h':m<rs.length:=by rw [B.len]; exact eH _
 refine ⟨rs[m],aD h',a6r (n:=m) (by simpa using B.len) ?_⟩;rw [aE,aD h']; rfl
theorem a1x {i:Nat} (h:i<m):S8 ((O4 m S).map V.int) (i:Int)=some (.int (S.ins i)):=v8 (by
 unfold O4;rw [aE,aE,bI h]; rfl)
theorem a2C {j:Nat} (h:j<q):S8 ((K4 q S).map V.int) (j:Int)=some (.int (S.outs j)):=v8 (by
 unfold K4;rw [aE,aE,bI h]; rfl)
theorem Bd.same1 {P:Addr} (B:Bd C H p dx ca oa ia rs m q S) (e:∀ b o,H b=some o->(∀ ps,o≠.tbl ps)->H' b=some o):Bd C H' p dx ca oa ia rs m q S :=
 ⟨e _ _ B.obj λ _=>nofun,e _ _ B.cel λ _=>nofun,B.len,λ i r h=>e _ _ (B.row i r h) λ _=>nofun,e _ _ B.out λ _=>nofun,e _ _ B.inn λ _=>nofun,B.ne⟩
def Sz (n m q:Nat) (S:Lp.Bo):Prop:=(∀ i j,i<m+1->j<q+1->Big n (S.T i j))/\Big n S.d
end
section
variable {P:Program} {w:World} {K:W.Frag} {mg:Str->Option Value} {base:Heap} {f:Addr} {fd:FuncData} {n:Nat} {C:Addr}
theorem b0c {a b:Nat} {x:Int} (h:Big a x) (hab:a<=b):Big b x:=aZ h (hX (by decide) hab)
def a0I (q:Nat) (S:Lp.Bo) (i o c:Nat):Bool:=if S.T i q*S.T o c=S.T o q*S.T i c then decide (S.ins i<S.ins o) else decide (S.T i q*S.T o c<S.T o q*S.T i c)
def a6D (C:Addr):Sp:=λ vs H Q _=>∃ (p dx ca oa ia:Addr) (rs:List Addr) (m q:Nat) (S:Lp.Bo) (i o c:Nat),vs=[.ref p,.int i,.int o,.int c]/\Bd C H p dx ca oa ia rs m q S/\Sz 4000 m q S/\i<m/\o<m/\c<q+1/\Q (.bl (a0I q S i o c)) H
theorem scAhead:r8 ["self","row","other","column","left","right"] ["self","row","other","column"] (i9 a5u):=⟨rfl,rfl,rfl,by decide +kernel,rfl,by decide +kernel,by decide +kernel⟩
theorem a8r (F:Fun K "is_ahead" "Board.is_ahead" a5u f fd) (T:TB K C):FnOk P w K mg base J7 (n+1) f fd ["self","row","other","column"] (a6D C):=by
 refine F.ok scAhead (λ vs H Q E h=>?_) (λ cdv A outer s H vs Q E hr h=>?_)
 ·obtain ⟨p,dx,ca,oa,ia,rs,m,q,S,i,o,c,rfl,_⟩:=h
  rfl
 obtain ⟨p,dx,ca,oa,ia,rs,m,q,S,i,o,c,rfl,B,hz,hi,ho,hc,k⟩:=h;refine ⟨_,j0 (p6 (i:=4) scAhead.nd rfl (aC rfl) (j5 N1 (m8 j6 (m8 j6 (v7 (pv 0) rfl) (pv 1) (λ _ _=>rfl)) (K2 D6 h8) (λ _ _=>rfl)) (m8 j6 (m8 j6 (v7 (pv 0) rfl) (pv 2) (λ _ _=>rfl)) (pv 3) (λ _ _=>rfl))))
  (j0 (p6 (i:=5) scAhead.nd rfl (aC rfl) (j5 N1 (m8 j6 (m8 j6 (v7 (pv 0) rfl) (pv 2) (λ _ _=>rfl)) (K2 D6 h8) (λ _ _=>rfl)) (m8 j6 (m8 j6 (v7 (pv 0) rfl) (pv 1) (λ _ _=>rfl)) (pv 3) (λ _ _=>rfl))))
  (j0 (E2 (r9 a1c (pv 4) (pv 5) (t9 _)) (j8 (v5 (R5 Z6 (m8 j6 (v7 (pv 0) rfl) (pv 1) (λ _ _=>rfl)) (m8 j6 (v7 (pv 0) rfl) (pv 2) (λ _ _=>rfl)) (t9 _)))) y6)
  (j8 (v5 (R5 Z6 (pv 4) (pv 5) (t9 _)))))),?_⟩
 obtain ⟨ri,ei,ai⟩:=B.rs_at (i:=i) (by lia);obtain ⟨ro,eo,ao⟩:=B.rs_at (i:=o) (by lia);have bi:=SqL.of (K:=K) (B.row i ri ei);have bo:=SqL.of (K:=K) (B.row o ro eo);have z:∀ i j,i<m+1->j<q+1->Big 1000000 (S.T i j):=λ i j h1 h2=>b0c (hz.1 i j h1 h2) (by decide);refine ⟨_,rfl,p,C,dx,_,_,rfl,B.obj,T.cl,T.nC,rfl,_,rfl,ca,_,_,_,rfl,rfl,SqL.of B.cel,ai,_,rfl,ri,_,_,_,rfl,rfl,bi,V3,?_⟩;refine ⟨_,rfl,p,C,dx,_,_,rfl,B.obj,T.cl,T.nC,rfl,_,rfl,ca,_,_,_,rfl,rfl,SqL.of B.cel,ao,_,rfl,ro,_,_,_,rfl,rfl,bo,W2 hc,_,_,rfl,rfl,⟨z _ _ (by lia) (by lia),z _ _ (by lia) (by lia)⟩,?_⟩;refine ⟨_,rfl,p,C,dx,_,_,rfl,B.obj,T.cl,T.nC,rfl,_,rfl,ca,_,_,_,rfl,rfl,SqL.of B.cel,ao,_,rfl,ro,_,_,_,rfl,rfl,bo,V3,?_⟩;refine ⟨_,rfl,p,C,dx,_,_,rfl,B.obj,T.cl,T.nC,rfl,_,rfl,ca,_,_,_,rfl,rfl,SqL.of B.cel,ai,_,rfl,ri,_,_,_,rfl,rfl,bi,W2 hc,_,_,rfl,rfl,⟨z _ _ (by lia) (by lia),z _ _ (by lia) (by lia)⟩,?_⟩;refine ⟨_,rfl,_,rfl,rfl,_,rfl,?_⟩;unfold a0I at k;refine G5 (λ e=>?_) (λ e=>?_)
 ·have e':S.T i q*S.T o c=S.T o q*S.T i c:=by simpa using e
  rw [if_pos e'] at k;refine ⟨_,rfl,p,C,dx,_,_,rfl,B.obj,T.cl,T.nI,rfl,_,rfl,ia,_,_,_,rfl,rfl,SqL.of B.inn,a1x hi,_,rfl,p,C,dx,_,_,rfl,B.obj,T.cl,T.nI,rfl,_,rfl,ia,_,_,_,rfl,rfl,SqL.of B.inn,a1x ho,_,_,rfl,rfl,?_⟩;refine b4B k ?_;simp
 ·have e':¬ S.T i q*S.T o c=S.T o q*S.T i c:=by simpa using e
  rw [if_neg e'] at k;exact ⟨_,rfl,_,rfl,_,_,rfl,rfl,k⟩
end
structure a7K (P:Program) (w:World) (K:W.Frag) (mg:Str->Option Value) (base:Heap) (n:Nat) (C:Addr) (m:Str) (ps:List Str) (sp:Sp) (f:Addr) (fd:FuncData):Prop where
 ok:FnOk P w K mg base J7 n f fd ps sp
 bd:Binds K fd ps []
 me:b1m K C m f
def Bet (q:Nat) (S:Lp.Bo) (c r i:Nat):Prop:=S.T r q*S.T i c<=S.T i q*S.T r c/\(S.T r q*S.T i c=S.T i q*S.T r c->S.ins r<=S.ins i)
theorem a7s {ar cr ab cb ai ci:Int} (h1:ar*cb<=ab*cr) (h2:ab*ci<=ai*cb) (pr:0<cr) (pb:0<cb) (pi:0<ci):ar*ci<=ai*cr/\(ar*ci=ai*cr->ar*cb=ab*cr/\ab*ci=ai*cb):=by
 have e1:ar*cb*ci<=ab*cr*ci:=dA h1 (aN pi);have e2:ab*ci*cr<=ai*cb*cr:=dA h2 (aN pr);have x1:ar*cb*ci=ar*ci*cb:=by rw [aX,aR cb ci,<- aX]
 have x2:ab*cr*ci=ab*ci*cr:=by rw [aX,aR cr ci,<- aX]
 have x3:ai*cb*cr=ai*cr*cb:=by rw [aX,aR cb cr,<- aX]
 rw [x1] at e1;rw [x3] at e2;refine ⟨Int.le_of_mul_le_mul_right (a:=cb) (by lia) pb,λ e=>?_⟩;rw [e] at e1;refine ⟨Int.eq_of_mul_eq_mul_right (a:=ci) (by omega) (by rw [x1,e]; omega),gX (a:=cr) (by omega) (by rw [x3]; omega)⟩
theorem Bet.trans {q:Nat} {S:Lp.Bo} {c r b i:Nat} (h1:Bet q S c r b) (h2:Bet q S c b i) (pr:0<S.T r c) (pb:0<S.T b c) (pi:0<S.T i c):Bet q S c r i:=by
 obtain ⟨a,t⟩:=a7s h1.1 h2.1 pr pb pi;exact ⟨a,λ e=>bA (h1.2 (t e).1) (h2.2 (t e).2)⟩
theorem a8k {q:Nat} {S:Lp.Bo} {c r b:Nat} (h:a0I q S r b c=true):Bet q S c r b:=by
 unfold a0I at h
 by_cases e:S.T r q*S.T b c=S.T b q*S.T r c
 ·rw [if_pos e] at h
  exact ⟨Int.le_of_eq e,λ _=>cP (of_decide_eq_true h)⟩
 ·rw [if_neg e] at h
  have:=of_decide_eq_true h;exact ⟨Int.le_of_lt this,λ z=>absurd z e⟩
theorem b0H {q:Nat} {S:Lp.Bo} {c r b:Nat} (h:a0I q S r b c=false):Bet q S c b r:=by
 unfold a0I at h
 by_cases e:S.T r q*S.T b c=S.T b q*S.T r c
 ·rw [if_pos e] at h
  exact ⟨Int.le_of_eq e.symm,λ _=>gQ (of_decide_eq_false h)⟩
 ·rw [if_neg e] at h
  have:=of_decide_eq_false h;exact ⟨by lia,λ z=>absurd z.symm e⟩
section
variable {P:Program} {w:World} {K:W.Frag} {mg:Str->Option Value} {base:Heap} {f g:Addr} {fd gd:FuncData} {n:Nat} {C:Addr}
def a6B (C:Addr):Sp:=λ vs H Q _=>∃ (p dx ca oa ia:Addr) (rs:List Addr) (m q:Nat) (S:Lp.Bo) (c:Nat),vs=[.ref p,.int c]/\Bd C H p dx ca oa ia rs m q S/\Sz 4000 m q S/\m<1000/\c<q+1 ∧
 ((∀ i,i<m->¬ 0<S.T i c)->Q .non H)/\∀ r,r<m->0<S.T r c->(∀ i,i<m->0<S.T i c->Bet q S c r i)->Q (.int r) H
theorem scGoing:r8 ["self","column","best","row"] ["self","column"] (i9 a6j):=⟨rfl,rfl,rfl,by decide +kernel,rfl,by decide +kernel,by decide +kernel⟩
theorem a8v (F:Fun K "going" "Board.going" a6j f fd) (N:A3 mg) (T:TB K C) (A1:a7K P w K mg base n C "is_ahead" ["self","row","other","column"] (a6D C) g gd):FnOk P w K mg base J7 (n+1) f fd ["self","column"] (a6B C):=by
 refine F.ok scGoing (λ vs H Q E h=>?_) (λ cdv A outer s H vs Q E hr h=>?_)
 ·obtain ⟨p,dx,ca,oa,ia,rs,m,q,S,c,rfl,_⟩:=h
  rfl
 obtain ⟨p,dx,ca,oa,ia,rs,m,q,S,c,rfl,B,hz,hm,hc,kN,kI⟩:=h;refine ⟨_,j0 (p6 (i:=2) scGoing.nd rfl (aC rfl) R0)
  (j0 (Y2 PassesOwn.never rfl (J5 rfl N.range (c5 (m9 j9 rfl N.len bQ (c5 (v7 (pv 0) rfl) c7)) c7)) (j3 (i:=3) scGoing.nd rfl (aC rfl))
   (j8 (E2 (PW.pt (a3Z (r9 a1d (m8 j6 (m8 j6 (v7 (pv 0) rfl) (pv 3) (λ _ _=>rfl)) (pv 1) (λ _ _=>rfl)) h8 (t9 _))
     (a1p (PW.pt (a9B (r9 a5V (pv 2) R0 (t9 _)) (a6a (a2l (a3E (pv 0) T.cl A1.me A1.ok hr A1.bd .nil u0 (c5 (pv 3) (c5 (pv 2) (c5 (pv 1) c7)))))))))))
    (j8 (p6 (i:=2) scGoing.nd rfl (aC rfl) (pv 3))) y6)))
  (j8 (v5 (pv 2)))),?_⟩
 have lm:((O4 m S).map V.int).length=m:=by unfold O4; simp
 refine ⟨_,rfl,p,C,dx,_,_,rfl,B.obj,T.cl,T.nI,rfl,ia,_,rfl,.inl (SqL.of B.inn),_,rfl,(by rw [lm]; lia),(by rw [lm]; lia),?_⟩;rw [lm,aV];refine a0z (n:=m) (λ k σ H'=>∃ (b o3:Option V),σ=[some (.ref p),some (.int c),b,o3]/\H'=H/\((b=some .non/\∀ i,i<k->¬ 0<S.T i c)\/∃ r:Nat,b=some (.int r)/\r<k/\0<S.T r c/\∀ i,i<k->0<S.T i c->Bet q S c r i))
  ⟨_,_,rfl,rfl,.inl ⟨rfl,λ i hi=>absurd hi (gW _)⟩⟩ (λ k σ H' hk hP=>?_) λ σ H' hP=>?_
 ·obtain ⟨b,o3,rfl,rfl,hb⟩:=hP
  obtain ⟨rk,ek,ak⟩:=B.rs_at (i:=k) (by lia);have zk:(0:Int)+(k:Int)=(k:Int):=fX _;rw [zk];refine ⟨_,rfl,p,C,dx,_,_,rfl,B.obj,T.cl,T.nC,rfl,_,rfl,ca,_,_,_,rfl,rfl,SqL.of B.cel,ak,_,rfl,rk,_,_,_,rfl,rfl,SqL.of (B.row k rk ek),W2 hc,_,_,rfl,rfl,_,rfl,?_⟩;have keep:¬ 0<S.T k c->((b=some .non/\∀ i,i<k+1->¬ 0<S.T i c)\/∃ r:Nat,b=some (.int r)/\r<k+1/\0<S.T r c/\∀ i,i<k+1->0<S.T i c->Bet q S c r i):=λ hn=>by
   rcases hb with ⟨e,hb⟩ | ⟨r,e,h1,h2,h3⟩
   ·refine .inl ⟨e,λ i hi=>?_⟩
    by_cases z:i=k
    ·subst z; exact hn
    ·exact hb i (by lia)
   ·refine .inr ⟨r,e,by lia,h2,λ i hi hp=>?_⟩
    by_cases z:i=k
    ·subst z; exact absurd hp hn
    ·exact h3 i (by lia) hp
  refine G5 (λ d=>?_) (λ d=>?_)
  ·have d':0<S.T k c:=of_decide_eq_true d
   rcases hb with ⟨rfl,hb⟩ | ⟨r,rfl,h1,h2,h3⟩
   ·refine ⟨_,rfl,rfl,_,rfl,?_⟩
    refine G5 (λ _=>?_) (λ z=>absurd (decide_eq_true rfl) z);refine b1B ?_;refine ⟨_,rfl,⟨_,_,rfl,rfl,.inr ⟨k,rfl,by lia,d',λ i hi hp=>?_⟩⟩⟩
    by_cases z:i=k
    ·subst z; exact ⟨Int.le_refl _,λ _=>aF _⟩
    ·exact absurd hp (hb i (by lia))
   ·refine ⟨_,rfl,rfl,_,rfl,?_⟩
    refine G5 (λ z=>absurd (of_decide_eq_true z) (by nofun)) (λ _=>?_);refine ⟨_,rfl,p,dx,_,rfl,B.obj,rfl,_,rfl,_,rfl,_,rfl,?_⟩;refine ⟨p,dx,ca,oa,ia,rs,m,q,S,k,r,c,rfl,B,hz,hk,by lia,hc,_,rfl,?_⟩;refine G5 (λ e=>?_) (λ e=>?_)
    ·have bt:=a8k e
     refine ⟨_,rfl,⟨_,_,rfl,rfl,.inr ⟨k,rfl,by lia,d',λ i hi hp=>?_⟩⟩⟩
     by_cases z:i=k
     ·subst z; exact ⟨Int.le_refl _,λ _=>aF _⟩
     ·exact bt.trans (h3 i (by lia) hp) d' h2 hp
    ·have bt:=b0H (fY.mpr e)
     refine ⟨_,_,rfl,rfl,.inr ⟨r,rfl,by lia,h2,λ i hi hp=>?_⟩⟩
     by_cases z:i=k
     ·subst z; exact bt
     ·exact h3 i (by lia) hp
  ·have d':¬ 0<S.T k c:=λ z=>d (decide_eq_true z)
   exact ⟨_,_,rfl,rfl,keep d'⟩
 ·obtain ⟨b,o3,rfl,rfl,hb⟩:=hP
  rcases hb with ⟨rfl,hb⟩ | ⟨r,rfl,h1,h2,h3⟩
  ·exact ⟨_,rfl,kN hb⟩
  ·exact ⟨_,rfl,kI r h1 h2 h3⟩
end
abbrev b3Y:Str:=("Board.coming"++".<locals>.")++"<lambda>"
abbrev LT (Pt:Addr) (H:Hp):Prop:=LamTab Pt b0f b3Y H
section
variable {P:Program} {w:World} {K:W.Frag} {mg:Str->Option Value} {base:Heap} {f g c Pt:Addr} {fd gd:FuncData} {n:Nat} {C:Addr}
def a1P (C Pt:Addr):Sp:=λ vs H Q _=>∃ (p dx ca oa ia:Addr) (rs:List Addr) (m q:Nat) (S:Lp.Bo),vs=[.ref p]/\Bd C H p dx ca oa ia rs m q S/\q<1000/\LT Pt H ∧
 ∀ H',Same1 Pt H H'->LT Pt H'->((∀ j,j<q->¬ S.T m j<0)->Q .non H')/\∀ j,j<q->S.T m j<0->(∀ i,i<q->S.T m i<0->S.outs j<=S.outs i)->Q (.int j) H'
theorem scComing:r8 ["self","columns"] ["self"] (i9 a3U):=⟨rfl,rfl,rfl,by decide +kernel,rfl,by decide +kernel,by decide +kernel⟩
theorem b3V:(["column","self"]:List Str).Nodup:=by decide +kernel
theorem LamTab.new {Pt a:Addr} {pos:Pos} {qual:Str} {H:Hp} {o:HO} (T:LamTab Pt pos qual H) (h:H a=none):LamTab Pt pos qual (upd H a o):=T.same λ b u e=>by rw [d0 (i8 e h)]; exact e
def a7G (q:Nat) (S:Lp.Bo) (m:Nat):List Int:=((aH q).filter λ j=>decide (S.T m j<0)).map λ (j:Nat)=>(j:Int)
theorem a9o {q:Nat} {S:Lp.Bo} {m:Nat}:((aH q).map λ (i:Nat)=>V.int (0+(i:Int))).filter (λ v=>decide (S.T m (vI v).toNat<0))=(a7G q S m).map V.int:=by
 unfold a7G;rw [List.filter_map,aS];have e:((λ v=>decide (S.T m (vI v).toNat<0)) ∘ λ (i:Nat)=>V.int (0+(i:Int)))=λ j=>decide (S.T m j<0):=by
  funext j
  show decide (S.T m (vI (V.int (0+(j:Int)))).toNat<0)=_
  rw [show (vI (V.int (0+(j:Int)))).toNat=j from by simp [vI]]
 rw [e];refine cZ λ j _=>?_;simp
theorem Bd.lam {H H':Hp} {p dx ca oa ia:Addr} {rs:List Addr} {m q:Nat} {S:Lp.Bo} (B:Bd C H p dx ca oa ia rs m q S) (T:LT Pt H) (e:Same1 Pt H H'):Bd C H' p dx ca oa ia rs m q S:=by
 refine B.same1 (P:=Pt) λ b o q n=>e b o (λ z=>?_) q;subst z;rcases T with t | ⟨c,t,_⟩
 ·rw [q] at t; exact n _ (aM t)
 ·rw [q] at t; exact n _ (aM t)
theorem a7L (F:Fun K "coming" "Board.coming" a3U f fd) (hcode:fd.code=.ref c) (CH:W.CodeHd base c Pt) (BM:S4 mg base) (N:A3 mg) (T:TB K C):FnOk P w K mg base J7 (n+3) f fd ["self"] (a1P C Pt):=by
 refine F.okC hcode scComing (λ vs H Q E h=>?_) (λ A outer s H vs Q E hr h=>?_)
 ·obtain ⟨p,dx,ca,oa,ia,rs,m,q,S,rfl,_⟩:=h
  rfl
 obtain ⟨p,dx,ca,oa,ia,rs,m,q,S,rfl,B,hq,L,k⟩:=h;refine ⟨_,j0 (a6m (i:=1) ["column"] [0] scComing.nd rfl rfl rfl (J5 rfl N.range (c5 (v7 (pv 0) rfl) c7)) (λ _ _ _ _=>j3 (i:=0) b3V rfl (aC rfl))
   (λ _ _ _ _=>r9 Z6 (m8 (a0R K rfl) (m8 (a0R K rfl) (a4c K rfl (pv 1) rfl) (K2 D6 h8) (λ _ _=>rfl)) (pv 0) (λ _ _=>rfl)) h8 (t9 _))
   (λ _ _ _ _=>pv 0))
  (j8 (v5 (a8m (col:="column") (fr:=[0]) (c:=c) (P:=Pt) rfl (hr.mono (by lia)) rfl N.min rfl CH BM rfl rfl (by decide +kernel) rfl rfl rfl (λ _ _ _ _=>rfl) (c5 (pv 1) c7)
   (λ _ _ _ _=>m8 (a0R K rfl) (a4c K rfl (pv 1) rfl) (pv 0) (λ _ _=>rfl))))),?_⟩
 refine ⟨_,rfl,p,C,dx,_,_,rfl,B.obj,T.cl,T.nM,rfl,_,rfl,(by lia),(by lia),?_⟩;rw [aV];intro l hl;obtain ⟨rm,em,am⟩:=B.rs_last;refine a6w a1Q hl (by rw [aA,cW]; exact j4 (by lia)) (λ v=>decide (S.T m (vI v).toNat<0)) (λ i x H' N' hx e hN=>?_) ?_
 ·have hx':x=.int (i:Int)/\i<q:=by
   rw [aE] at hx
   by_cases hi:i<q
   ·rw [bI hi] at hx
    refine ⟨?_,hi⟩;have:=aM hx;rw [<- this]; simp
   ·rw [aW (by simp; lia)] at hx; cases hx
  obtain ⟨rfl,hi⟩:=hx';have e':∀ b o,H b=some o->H' b=some o:=λ b o z=>e b o z;refine ⟨_,rfl,p,C,dx,_,_,rfl,e' _ _ B.obj,T.cl,T.nC,rfl,_,rfl,ca,_,_,_,rfl,rfl,SqL.of (e' _ _ B.cel),am,_,rfl,rm,_,_,_,rfl,rfl,SqL.of (e' _ _ (B.row m rm em)),W2 (by lia),_,_,rfl,rfl,_,rfl,?_⟩;have ev:decide (S.T m (vI (V.int (i:Int))).toNat<0)=decide (S.T m i<0):=by rw [show (vI (V.int (i:Int))).toNat=i from by simp [vI]]
  rw [ev] at hN;exact hN
 rw [a9o];have L2':LT Pt (upd H l (.lst ((a7G q S m).map V.int))):=LamTab.new L hl;have B2:Bd C (upd H l (.lst ((a7G q S m).map V.int))) p dx ca oa ia rs m q S:=B.same1 (P:=Pt) λ b o z _=>by rw [d0 (i8 z hl)]; exact z
 have mem:∀ x:Int,x∈a7G q S m ↔ ∃ j:Nat,x=(j:Int)/\j<q/\S.T m j<0:=λ x=>by
  unfold a7G;rw [aK];constructor
  ·rintro ⟨j,hj,rfl⟩
   rw [gL,dZ] at hj;exact ⟨j,rfl,hj.1,of_decide_eq_true hj.2⟩
  ·rintro ⟨j,rfl,h1,h2⟩
   exact ⟨j,by rw [gL,dZ]; exact ⟨h1,decide_eq_true h2⟩,rfl⟩
 refine ⟨_,rfl,l,_,λ x=>(S.outs x.toNat:Int),rfl,SqL.of upd_same,L2',λ H2 e2 L3=>?_⟩;have B3:=B2.lam L2' e2;have e3:Same1 Pt H H2:=λ b o hb z=>e2 b o hb (by rw [d0 (i8 z hl)]; exact z);obtain ⟨k1,k2⟩:=k H2 e3 L3;refine ⟨λ x hx=>?_,λ en=>k1 λ j hj hn=>?_,λ M hM hmin=>?_⟩
 ·obtain ⟨j,rfl,hj,hn⟩:=(mem x).mp hx
  exact ⟨_,rfl,p,C,dx,_,_,rfl,B3.obj,T.cl,T.nO,rfl,_,rfl,oa,_,_,_,rfl,rfl,SqL.of B3.out,a2C hj,by simp,rfl⟩
 ·have:=(mem (j:Int)).mpr ⟨j,rfl,hj,hn⟩
  rw [en] at this
  cases this
 ·obtain ⟨j,rfl,hj,hn⟩:=(mem M).mp hM
  refine k2 j hj hn λ i hi hni=>?_;have:=hmin (i:Int) ((mem _).mpr ⟨i,rfl,hi,hni⟩)
  simpa using this
end
def Y3 (xs ys:List Int) (c:Nat) (d:Int):List Int:=(bB (λ x y=>(x*ys.getD c 0 - xs.getD c 0*y) / d) xs ys).set c (-(xs.getD c 0))
theorem a4o {ns:List Int} {i:Nat} (h:i<ns.length):S8 (ns.map V.int) (i:Int)=some (.int (ns.getD i 0)):=v8 (by
 rw [aE,aD h,aG,aD h]; rfl)
theorem K9 {ns:List Int} {i:Nat} {x:V} (h:(ns.map V.int)[i]?=some x):∃ k,x=.int k/\k∈ns:=by
 rw [aE] at h
 cases hn:ns[i]? with
 | none=>rw [hn] at h; cases h
 | some k=>rw [hn] at h; cases h; exact ⟨k,rfl,aU hn⟩
theorem a3p (F:V->V->V) (G:Int->Int->Int) (h:∀ a b,F (.int a) (.int b)=.int (G a b)):∀ xs ys:List Int,bB F (xs.map V.int) (ys.map V.int)=(bB G xs ys).map V.int
 | [],_=>by simp
 | _::_,[]=>by simp
 | x::xs,y::ys=>by simp [h,a3p F G h xs ys]
theorem a2P {ns:List Int} {i:Nat} (h:i<ns.length):ns.getD i 0∈ns:=by
 rw [aG,aD h]; exact cS h
section
variable {P:Program} {w:World} {K:W.Frag} {mg:Str->Option Value} {base:Heap} {f g c Pt:Addr} {fd gd:FuncData} {n:Nat} {C:Addr}
def a3x (K:W.Frag):Sp:=λ vs H Q _=>∃ (a b:Addr) (c:Nat) (d:Int) (xs ys:List Int),vs=[.ref a,.ref b,.int c,.int d]/\SqL K H a (xs.map V.int)/\SqL K H b (ys.map V.int)/\xs.length=ys.length/\xs.length<=1000/\c<xs.length ∧
 0<d/\Big 4000 d/\(∀ x∈xs,Big 4000 x)/\(∀ y∈ys,Big 4000 y)/\∀ (r:Addr) (H':Hp),Same H H'->H r=none->H' r=some (.lst ((Y3 xs ys c d).map V.int))->Q (.ref r) H'
theorem scSwept:r8 ["cells","lead","column","scale","factor","pivot","fresh"] ["cells","lead","column","scale"] (i9 a5s):=⟨rfl,rfl,rfl,by decide +kernel,rfl,by decide +kernel,by decide +kernel⟩
theorem b4O:(["cell","other","scale","factor","pivot"]:List Str).Nodup:=by decide +kernel
theorem a9y (F:Fun K "swept" "swept" a5s f fd) (N:A3 mg):FnOk P w K mg base J7 (n+1) f fd ["cells","lead","column","scale"] (a3x K):=by
 refine F.ok scSwept (λ vs H Q E h=>?_) (λ cdv A outer s H vs Q E hr h=>?_)
 ·obtain ⟨a,b,c,d,xs,ys,rfl,_⟩:=h
  rfl
 obtain ⟨a,b,c,d,xs,ys,rfl,ha,hb,hl,hz,hc,hd,hD,hx,hy,k⟩:=h;refine ⟨_,j0 (p6 (i:=4) scSwept.nd rfl (cI rfl) (m8 j6 (pv 0) (pv 2) (λ _ _=>rfl)))
  (j0 (p6 (i:=5) scSwept.nd rfl (cI rfl) (m8 j6 (pv 1) (pv 2) (λ _ _=>rfl)))
  (j0 (P5 (i:=6) ["cell","other"] [3,4,5] scSwept.nd rfl rfl rfl (a4Y true true K rfl rfl N.zip (c5 (pv 0) (c5 (pv 1) c7)))
   (λ _ _ _ _=>K8 K (n:=2) rfl rfl (j7 (j3 (i:=0) b4O rfl (aC rfl)) (j7 (j3 (i:=1) b4O rfl (aC rfl)) x9)))
   (λ _ _ _ _=>j5 T5 (j5 a3w (j5 N1 (pv 0) (pv 4)) (j5 N1 (pv 3) (pv 1))) (pv 2)))
  (j0 (E4 (K2 D6 (pv 4)) (P0 (pv 6) (pv 2) E8))
  (j8 (v5 (pv 6)))))),?_⟩
 have hc2:c<ys.length:=by lia
 refine ⟨_,rfl,_,rfl,a,_,_,_,rfl,rfl,ha,a4o hc,?_⟩;refine ⟨_,rfl,_,rfl,b,_,_,_,rfl,rfl,hb,a4o hc2,?_⟩;refine ⟨_,rfl,_,rfl,a,b,rfl,⟨_,ha⟩,⟨_,hb⟩,λ l hl'=>?_⟩;have up:∀ {x},Big 4000 x->Big 1000000 x:=λ h=>b0c h (by decide);refine b2q ha hb hl' (by rw [aA]; exact j4 hz) (λ u v=>.int ((vI u*ys.getD c 0 - xs.getD c 0*vI v) / d)) (λ i u v H' N' hu hv e hN=>?_) (λ H' e hH=>?_)
 ·obtain ⟨x,rfl,hxm⟩:=K9 hu
  obtain ⟨y,rfl,hym⟩:=K9 hv;have dl:d<2 ^ 8000:=by
   have h1:d.natAbs<2 ^ 4000:=hD;have h2:(2:Nat) ^ 4000<=2 ^ 8000:=hX (by decide) (by decide);have h3:d=(d.natAbs:Int):=by lia
   rw [h3]
   exact_mod_cast aZ h1 h2
  refine ⟨_,rfl,_,rfl,_,_,rfl,rfl,⟨up (hx _ hxm),up (hy _ (a2P hc2))⟩,_,rfl,_,rfl,_,_,rfl,rfl,⟨up (hx _ (a2P hc)),up (hy _ hym)⟩,_,_,rfl,rfl,_,rfl,_,_,rfl,rfl,⟨hd,dl⟩,hN⟩
 ·rw [a3p _ (λ x y=>(x*ys.getD c 0 - xs.getD c 0*y) / d) (λ _ _=>rfl)] at hH
  refine ⟨_,rfl,_,rfl,?_⟩;refine ⟨_,rfl,_,rfl,l,_,_,c,rfl,rfl,hH,?_,?_⟩
  ·unfold ixN
   rw [aA,eK,if_pos (by lia),if_pos (by lia),aV]
  ·refine ⟨_,rfl,k l _ ?_ hl' ?_⟩
   ·exact λ b' o q=>by rw [d0 (i8 q hl')]; exact e b' o q
   ·rw [upd_same]
    unfold Y3;rw [<- jI]
end
structure SCal (P:Program) (w:World) (K:W.Frag) (mg:Str->Option Value) (base:Heap) (n:Nat) (x:Str) (ps:List Str) (sp:Sp) (fa:Addr) (d:FuncData):Prop where
 ok:FnOk P w K mg base J7 n fa d ps sp
 b:Binds K d ps []
 k:W.keepIn K (.ref fa)=true
 m:mg x=some (.ref fa)
theorem D5 {q:Nat} {S:Lp.Bo} {i:Nat}:(x8 q S i).length=q+1:=by unfold x8; simp
theorem a2V {q:Nat} {S:Lp.Bo} {i j:Nat} (h:j<q+1):(x8 q S i).getD j 0=S.T i j:=by
 unfold x8;rw [aG,aE,bI h]; rfl
theorem a7M {q:Nat} {S:Lp.Bo} {i r c:Nat} (hi:i≠r) (hc:c<q):Y3 (x8 q S i) (x8 q S r) c S.d=x8 q (Lp.piv S r c) i:=by
 refine cC λ j=>?_;unfold Y3
 by_cases hj:j<q+1
 ·rw [a2V (by lia),a2V (by lia)]
  have e:(x8 q (Lp.piv S r c) i)[j]?=some ((Lp.piv S r c).T i j):=by unfold x8; rw [aE,bI hj]; rfl
  have hT:(Lp.piv S r c).T i j=if j=c then - S.T i c else (S.T i j*S.T r c - S.T i c*S.T r j) / S.d:=by
   show (if i=r then _ else _)=_
   rw [if_neg hi]
  rw [e,hT]
  by_cases hjc:j=c
  ·subst hjc
   rw [cO (by rw [eK,D5,D5]; lia),if_pos rfl]
  ·rw [bS (aO hjc),hZ,if_neg hjc]
   unfold x8;rw [aE,aE,bI hj]; rfl
 ·rw [aW (by rw [bY,eK,D5,D5]; lia),aW (by rw [D5]; lia)]
theorem a8t {q:Nat} {S:Lp.Bo} {r c:Nat} (hc:c<q):(((x8 q S r).map V.int).take c++[V.int S.d])++((x8 q S r).map V.int).drop (c+1)=(x8 q (Lp.piv S r c) r).map V.int:=by
 have hT:∀ j,(Lp.piv S r c).T r j=if j=c then S.d else S.T r j:=λ j=>by
  show (if r=r then _ else _)=_
  rw [if_pos rfl]
 have hl:((x8 q S r).map V.int).length=q+1:=by rw [aA,D5]
 refine cC λ j=>?_
 by_cases hj:j<q+1
 ·have e:((x8 q (Lp.piv S r c) r).map V.int)[j]?=some (.int (if j=c then S.d else S.T r j)):=by
   rw [aE]; unfold x8; rw [aE,bI hj,<- hT]; rfl
  have e0:((x8 q S r).map V.int)[j]?=some (.int (S.T r j)):=by
   rw [aE]; unfold x8; rw [aE,bI hj]; rfl
  rw [e];have lt:(((x8 q S r).map V.int).take c).length=c:=by rw [bX,hl]; lia
  by_cases h1:j<c
  ·rw [bF (by rw [aJ,lt]; lia),bF (by lia),jZ h1,e0,if_neg (by lia)]
  ·by_cases h2:j=c
   ·subst h2
    rw [bF (by rw [aJ,lt]; simp),bU (by lia),lt,eD,if_pos rfl]; rfl
   ·rw [bU (by rw [aJ,lt]; simp; lia),aJ,lt,kZ,if_neg h2]
    have:c+1+(j - (c+[V.int S.d].length))=j:=by simp; lia
    rw [this,e0]
 ·rw [aW (by rw [aJ,aJ,bX,dL,hl]; simp; lia),aW (by rw [aA,D5]; lia)]
theorem b1l {m:Nat} {S:Lp.Bo} {r c:Nat} (hr:r<m):((O4 m S).map V.int).set r (.int (S.outs c))=(O4 m (Lp.piv S r c)).map V.int:=by
 refine cC λ j=>?_;have hT:(Lp.piv S r c).ins j=if j=r then S.outs c else S.ins j:=rfl
 by_cases hj:j<m
 ·have e:((O4 m (Lp.piv S r c)).map V.int)[j]?=some (.int ((if j=r then S.outs c else S.ins j:Nat))):=by
   rw [aE]; unfold O4; rw [aE,bI hj,<- hT]; rfl
  rw [e]
  by_cases h:j=r
  ·subst h
   rw [cO (by unfold O4; simp; lia),if_pos rfl]
  ·rw [bS (aO h),if_neg h,aE]
   unfold O4; rw [aE,bI hj]; rfl
 ·rw [aW (by unfold O4; simp; lia),aW (by unfold O4; simp; lia)]
theorem a9S {q:Nat} {S:Lp.Bo} {r c:Nat} (hc:c<q):((K4 q S).map V.int).set c (.int (S.ins r))=(K4 q (Lp.piv S r c)).map V.int:=by
 refine cC λ j=>?_;have hT:(Lp.piv S r c).outs j=if j=c then S.ins r else S.outs j:=rfl
 by_cases hj:j<q
 ·have e:((K4 q (Lp.piv S r c)).map V.int)[j]?=some (.int ((if j=c then S.ins r else S.outs j:Nat))):=by
   rw [aE]; unfold K4; rw [aE,bI hj,<- hT]; rfl
  rw [e]
  by_cases h:j=c
  ·subst h
   rw [cO (by unfold K4; simp; lia),if_pos rfl]
  ·rw [bS (aO h),if_neg h,aE]
   unfold K4; rw [aE,bI hj]; rfl
 ·rw [aW (by unfold K4; simp; lia),aW (by unfold K4; simp; lia)]
theorem a2b {n i:Nat} (h:i<n):ixN n (i:Int)=some i:=by
 unfold ixN;rw [if_pos (by lia),if_pos (by lia),aV]
section
variable {P:Program} {w:World} {K:W.Frag} {mg:Str->Option Value} {base:Heap} {f g c Pt:Addr} {fd gd:FuncData} {n:Nat} {C:Addr}
def a2c (C:Addr):Sp:=λ vs H Q _=>∃ (p dx ca oa ia:Addr) (rs:List Addr) (m q:Nat) (S:Lp.Bo) (r c:Nat),vs=[.ref p,.int r,.int c]/\Bd C H p dx ca oa ia rs m q S/\Sz 4000 m q S/\r<m/\c<q/\m<900/\q<900/\0<S.d ∧
 ∀ (H':Hp) (ca':Addr) (rs':List Addr),Bd C H' p dx ca' oa ia rs' m q (Lp.piv S r c)->(∀ b o,b≠p->b≠oa->b≠ia->H b=some o->H' b=some o)->Q .non H'
theorem scEx:r8 ["self","row","column","lead","pivot"] ["self","row","column"] (i9 N5):=⟨rfl,rfl,rfl,by decide +kernel,rfl,by decide +kernel,by decide +kernel⟩
theorem b5v:(["cells","self","column","lead"]:List Str).Nodup:=by decide +kernel
noncomputable def exT {cdv:Value} {A:Around} {outer:List Env} {s:Shared} {H:Hp} {E:XK} {fb:Addr} {db:FuncData} (Cs:SCal P w K mg base n "swept" ["cells","lead","column","scale"] (a3x K) fb db)
  (hr:Room n (A.deeper (dU "Board.exchange" (i9 N5) s.heap.objs.size f cdv))) :
  { t:TS // PSs (J6 J7 P w K mg base ["self","row","column","lead","pivot"] "Board.exchange" (i9 N5) f cdv A outer s H E).nox (v4 N5) t } :=
 ⟨_,j0 (p6 (i:=3) scEx.nd rfl (cI rfl) (m8 j6 (v7 (pv 0) rfl) (pv 1) (λ _ _=>rfl)))
  (j0 (p6 (i:=4) scEx.nd rfl (aC rfl) (m8 j6 (pv 3) (pv 2) (λ _ _=>rfl)))
  (r6 (Y4 (pv 0) (M8 ["cells"] [0,2,3] rfl (w8 (v7 (pv 0) rfl)) (λ _ _ _ _=>j3 (i:=0) b5v rfl (aC rfl))
   (λ _ _ _ _=>m6 Cs.ok hr rfl Cs.m Cs.k Cs.b .nil u0 (c5 (pv 0) (c5 (pv 3) (c5 (pv 2) (c5 (a4c K rfl (pv 1) rfl) c7)))))) rfl)
  (j0 (E4 (j5 C2 (j5 C2 (C8 G4 (pv 3) O8 (B8 (pv 2))) (u9 (c5 (v7 (pv 0) rfl) c7))) (C8 G4 (pv 3) (B8 (j5 B9 (pv 2) h8)) O8)) (P0 (v7 (pv 0) rfl) (pv 1) E8))
  (j0 (Y4 (pv 0) (pv 4) rfl)
  (j8 (E4 (O9 (c5 (m8 j6 (v7 (pv 0) rfl) (pv 2) (λ _ _=>rfl)) (c5 (m8 j6 (v7 (pv 0) rfl) (pv 1) (λ _ _=>rfl)) c7)))
   (O2 rfl (j7 (P0 (v7 (pv 0) rfl) (pv 1) E8) (j7 (P0 (v7 (pv 0) rfl) (pv 2) E8) x9)))))))))⟩
end
def a4y:V->Addr
 | .ref a=>a
 | _=>0
section
variable {P:Program} {w:World} {K:W.Frag} {mg:Str->Option Value} {base:Heap} {f g c Pt:Addr} {fd gd:FuncData} {n:Nat} {C:Addr}
theorem a5i {m q i:Nat} {S:Lp.Bo} (h:Sz 4000 m q S) (hi:i<m+1):∀ x∈x8 q S i,Big 4000 x:=λ x hx=>by
 unfold x8 at hx;obtain ⟨j,hj,rfl⟩:=aK.mp hx;exact h.1 i j hi (dZ.mp hj)
theorem a4Q {fb:Addr} {db:FuncData} (F:Fun K "exchange" "Board.exchange" N5 f fd) (T:TB K C) (Cs:SCal P w K mg base n "swept" ["cells","lead","column","scale"] (a3x K) fb db) :
  FnOk P w K mg base J7 (n+1) f fd ["self","row","column"] (a2c C):=by
 refine F.ok scEx (λ vs H Q E h=>?_) (λ cdv A outer s H vs Q E hr h=>?_)
 ·obtain ⟨p,dx,ca,oa,ia,rs,m,q,S,r,c,rfl,_⟩:=h
  rfl
 obtain ⟨p,dx,ca,oa,ia,rs,m,q,S,r,c,rfl,B,hz,hrm,hc,hm,hq,hd,k⟩:=h;refine ⟨_,(exT Cs hr).2,?_⟩;obtain ⟨rl,er,ar⟩:=B.rs_at (i:=r) (by lia);have hrl:=B.row r rl er;have nrl:rl≠p:=a1g hrl B.obj (by intro z; cases z);have noa:oa≠p:=a1g B.out B.obj (by intro z; cases z);have nia:ia≠p:=a1g B.inn B.obj (by intro z; cases z);refine ⟨_,rfl,p,C,dx,_,_,rfl,B.obj,T.cl,T.nC,rfl,_,rfl,ca,_,_,_,rfl,rfl,SqL.of B.cel,ar,?_⟩;refine ⟨_,rfl,_,rfl,rl,_,_,_,rfl,rfl,SqL.of hrl,W2 (by lia),?_⟩;refine ⟨λ σ' H3=>∃ (l:Addr) (rs':List Addr),σ'=[some (.ref p),some (.int r),some (.int c),some (.ref rl),some (.int (S.T r c))]/\H3 p=some (.ins C dx (bdF q S.d l oa ia))/\H3 l=some (.lst (rs'.map V.ref))/\rs'.length=m+1/\H l=none ∧
  (∀ i a,rs'[i]?=some a->H a=none/\a≠l/\H3 a=some (.lst ((Y3 (x8 q S i) (x8 q S r) c S.d).map V.int)))/\∀ b o,b≠p->H b=some o->H3 b=some o,?_,?_⟩
 ·refine ⟨_,rfl,p,C,dx,_,_,rfl,B.obj,T.cl,T.nC,rfl,ca,rfl,⟨_,SqL.of B.cel⟩,λ l hl=>?_⟩
  refine D3 (t8 (SqL.of B.cel)) hl (by rw [aA,B.len]; exact j4 (by lia)) (λ i y H2=>∃ a,y=.ref a/\H a=none/\a≠l/\H2 a=some (.lst ((Y3 (x8 q S i) (x8 q S r) c S.d).map V.int)))
   (λ i y H2 H3 ⟨a,h1,h2,h3,h4⟩ e=>⟨a,h1,h2,h3,e a _ h3 h4⟩) (λ i x H2 ys N hx e hl2 hN=>?_) (λ ys H2 e hl2 len pr=>?_)
  ·rw [aE] at hx
   cases hri:rs[i]? with
   | none=>rw [hri] at hx; cases hx
   | some a =>
    rw [hri] at hx;have hx':V.ref a=x:=aM hx;subst hx';have hi:i<m+1:=by rw [<- B.len]; exact (aY.mp hri).1
    refine ⟨Wk.set (by decide),?_⟩;refine ⟨_,rfl,_,rfl,_,rfl,_,rfl,p,C,dx,_,_,rfl,e _ _ B.obj,T.cl,T.nS,rfl,?_⟩;refine ⟨a,rl,c,S.d,x8 q S i,x8 q S r,rfl,SqL.of (e _ _ (B.row i a hri)),SqL.of (e _ _ hrl),by rw [D5,D5],by rw [D5]; lia,by rw [D5]; lia,hd,hz.2,a5i hz hi,a5i hz (by lia),λ r' H3 s3 hn hr'=>?_⟩;refine hN _ _ s3 ⟨r',rfl,?_,λ z=>?_,hr'⟩
    ·cases q1:H r' with
     | none=>rfl
     | some o=>rw [e _ _ q1] at hn; cases hn
    ·rw [z,hl2] at hn; cases hn
  ·have hp2:=e _ _ B.obj
   have nlp:p≠l:=i8 B.obj hl;refine ⟨_,rfl,p,C,dx,_,rfl,hp2,T.cl,T.nC,(by show 5<1000; decide),?_⟩;have hys:ys=(ys.map a4y).map V.ref:=by
    rw [aS];refine cC λ i=>?_;rw [aE]
    cases qi:ys[i]? with
    | none=>rfl
    | some y =>
     obtain ⟨a,rfl,_⟩:=pr i y qi;rfl
   refine ⟨l,ys.map a4y,rfl,upd_same,by rw [d0 nlp.symm,hl2]; rw [<- hys],by rw [aA,len,aA,B.len],hl,λ i a hi=>?_,λ b o hb hbo=>by rw [d0 hb]; exact e _ _ hbo⟩;rw [aE] at hi
   cases qi:ys[i]? with
   | none=>rw [qi] at hi; cases hi
   | some y =>
    obtain ⟨a',rfl,h2,h3,h4⟩:=pr i y qi;rw [qi] at hi;have:a'=a:=aM hi;subst this;refine ⟨h2,h3,?_⟩;rw [d0 (λ z=>by rw [z,hp2] at h4; cases h4)];exact h4
 ·intro σ' H3 hM_; refine C9 λ G_ hG_=>?_; obtain ⟨l,rs',rfl,hp,hl,hlen,hl0,hrs,hk⟩:=hM_; subst hG_
  have hr3:=hk rl _ nrl hrl;have lr:((x8 q S r).map V.int).length=q+1:=by rw [aA,D5]
  refine ⟨_,rfl,_,rfl,_,rfl,rl,_,rfl,SqL.of hr3,λ a1 h1=>?_⟩;have e1:=Same.new h1 (.lst (A7 ((x8 q S r).map V.int) none (some (c:Int))));refine ⟨_,rfl,p,C,dx,_,_,rfl,e1 _ _ hp,T.cl,T.nS,rfl,(by show 1<=sizeLine; decide),λ a2 h2=>?_⟩;have e2:=e1.trans (Same.new h2 (.lst [.int S.d]));have n12:a1≠a2:=i8 upd_same h2;refine ⟨a1,a2,_,_,rfl,rfl,(by rw [d0 n12]; exact upd_same),upd_same,?_,λ a3 h3=>?_⟩
  ·rw [a3j _ _ (by rw [lr]; lia),bX,lr]
   have:=j4 (show c+1<=1000 by lia);simp;lia
  have e3:=e2.trans (Same.new h3 (.lst (A7 ((x8 q S r).map V.int) none (some (c:Int))++[.int S.d])));refine ⟨_,rfl,_,rfl,_,_,rfl,rfl,_,rfl,rl,_,rfl,SqL.of (e3 _ _ hr3),λ a4 h4=>?_⟩;have e4:=e3.trans (Same.new h4 (.lst (A7 ((x8 q S r).map V.int) (some ((c:Int)+1)) none)));have n34:a3≠a4:=i8 upd_same h4;have c1:A7 ((x8 q S r).map V.int) none (some (c:Int))=((x8 q S r).map V.int).take c:=a3j _ _ (by rw [lr]; lia);have c2:A7 ((x8 q S r).map V.int) (some ((c:Int)+1)) none=((x8 q S r).map V.int).drop (c+1):=by
   have:=a4S ((x8 q S r).map V.int) (c+1) (by rw [lr]; lia);rw [<- this]; rfl
  refine ⟨a3,a4,_,_,rfl,rfl,(by rw [d0 n34]; exact upd_same),upd_same,?_,λ a5 h5=>?_⟩
  ·rw [c1,c2,aJ,bX,dL,lr]
   have:=j4 (show q+1<=1000 by lia);simp;lia
  have hrow:(A7 ((x8 q S r).map V.int) none (some (c:Int))++[.int S.d])++A7 ((x8 q S r).map V.int) (some ((c:Int)+1)) none=(x8 q (Lp.piv S r c) r).map V.int:=by rw [c1,c2,a8t hc]
  have h5n:H3 a5=none:=by
   cases z:H3 a5 with
   | none=>rfl
   | some o=>rw [e4 _ _ z] at h5; cases h5
  have e5:=e4.trans (Same.new h5 (.lst ((A7 ((x8 q S r).map V.int) none (some (c:Int))++[.int S.d])++A7 ((x8 q S r).map V.int) (some ((c:Int)+1)) none)));have u5:∀ H4:Hp,upd H4 a5 (.lst ((A7 ((x8 q S r).map V.int) none (some (c:Int))++[.int S.d])++A7 ((x8 q S r).map V.int) (some ((c:Int)+1)) none)) a5=some (.lst ((x8 q (Lp.piv S r c) r).map V.int)):=λ H4=>upd_same.trans (congrArg (λ z=>some (HO.lst z)) hrow);have oa3:=hk oa _ noa B.out;have ia3:=hk ia _ nia B.inn;have nlp:l≠p:=(i8 B.obj hl0).symm;have nlo:l≠oa:=(i8 B.out hl0).symm;have nli:l≠ia:=(i8 B.inn hl0).symm;have n5p:a5≠p:=(i8 hp h5n).symm;have n5l:a5≠l:=(i8 hl h5n).symm;have n5o:a5≠oa:=(i8 oa3 h5n).symm;have n5i:a5≠ia:=(i8 ia3 h5n).symm;have lrs:(rs'.map V.ref).length=m+1:=by rw [aA]; exact hlen
  refine ⟨_,rfl,p,C,dx,_,_,rfl,e5 _ _ hp,T.cl,T.nC,rfl,_,rfl,l,_,_,r,rfl,rfl,e5 _ _ hl,a2b (by rw [lrs]; lia),?_⟩;refine ⟨_,rfl,_,rfl,p,C,dx,_,rfl,(by rw [d0 nlp.symm]; exact e5 _ _ hp),T.cl,T.nS,(by show 5<1000; decide),?_⟩;refine ⟨_,rfl,p,C,dx,_,_,rfl,upd_same,T.cl,T.nO,rfl,_,rfl,oa,_,_,_,rfl,rfl,SqL.of (by rw [d0 noa,d0 nlo.symm]; exact e5 _ _ oa3),a2C hc,?_⟩;refine ⟨_,rfl,p,C,dx,_,_,rfl,upd_same,T.cl,T.nI,rfl,_,rfl,ia,_,_,_,rfl,rfl,SqL.of (by rw [d0 nia,d0 nli.symm]; exact e5 _ _ ia3),a1x hrm,(by show 2<=sizeLine; decide),λ t ht=>?_⟩;have ntp:t≠p:=(i8 upd_same ht).symm;have ntl:t≠l:=by
   refine (i8 (H:=_) (o:=.lst ((rs'.map V.ref).set r (.ref a5))) ?_ ht).symm;rw [d0 nlp,upd_same]
  have nto:t≠oa:=by
   refine (i8 (H:=_) (o:=.lst ((K4 q S).map V.int)) ?_ ht).symm;rw [d0 noa,d0 nlo.symm]; exact e5 _ _ oa3
  have nti:t≠ia:=by
   refine (i8 (H:=_) (o:=.lst ((O4 m S).map V.int)) ?_ ht).symm;rw [d0 nia,d0 nli.symm]; exact e5 _ _ ia3
  refine ⟨t,_,rfl,SqT.of upd_same,rfl,?_⟩;refine ⟨_,_,rfl,_,rfl,p,C,dx,_,_,rfl,(by rw [d0 ntp.symm]; exact upd_same),T.cl,T.nI,rfl,_,rfl,ia,_,_,r,rfl,rfl,(by rw [d0 nti.symm,d0 nia,d0 nli.symm]; exact e5 _ _ ia3),a2b (by unfold O4; simp; lia),?_⟩;refine ⟨_,_,rfl,_,rfl,p,C,dx,_,_,rfl,(by rw [d0 nia.symm,d0 ntp.symm]; exact upd_same),T.cl,T.nO,rfl,_,rfl,oa,_,_,c,rfl,rfl,(by rw [d0 B.ne,d0 nto.symm,d0 noa,d0 nlo.symm]; exact e5 _ _ oa3),a2b (by unfold K4; simp; lia),rfl,?_⟩;refine k _ l (rs'.set r a5) ⟨?_,?_,by rw [bY]; exact hlen,λ i a hi=>?_,?_,?_,B.ne⟩ λ b o hb hbo hbi hH=>?_
  ·rw [d0 noa.symm,d0 nia.symm,d0 ntp.symm,upd_same]; rfl
  ·rw [d0 nlo,d0 nli,d0 ntl.symm,d0 nlp,upd_same,jI]
  ·by_cases hir:i=r
   ·subst hir
    rw [cO (by rw [hlen]; lia)] at hi;have:a5=a:=aM hi;subst this;have n5t:a5≠t:=by
     refine i8 (H:=_) (o:=.lst ((x8 q (Lp.piv S i c) i).map V.int)) ?_ ht;rw [d0 n5p,d0 n5l]; exact u5 _
    rw [d0 n5o,d0 n5i,d0 n5t,d0 n5p,d0 n5l];exact u5 _
   ·rw [bS (aO hir)] at hi
    obtain ⟨g1,g2,g3⟩:=hrs i a hi;have nap:a≠p:=(i8 B.obj g1).symm;have nao:a≠oa:=(i8 B.out g1).symm;have nai:a≠ia:=(i8 B.inn g1).symm;have g5:=e5 _ _ g3;have nat:a≠t:=by
     refine i8 (H:=_) (o:=.lst ((Y3 (x8 q S i) (x8 q S r) c S.d).map V.int)) ?_ ht;rw [d0 nap,d0 g2]; exact g5
    rw [d0 nao,d0 nai,d0 nat,d0 nap,d0 g2,<- a7M hir hc];exact g5
  ·rw [upd_same,a9S hc]
  ·rw [d0 B.ne.symm,upd_same,b1l hrm]
  ·have h3:=hk b o hb hH
   have nbl:b≠l:=i8 hH hl0;have nbt:b≠t:=by
    refine i8 (H:=_) (o:=o) ?_ ht;rw [d0 hb,d0 nbl]; exact e5 _ _ h3
   rw [d0 hbo,d0 hbi,d0 nbt,d0 hb,d0 nbl];exact e5 _ _ h3
end
theorem a2v {g:Nat->Int}:∀ {n:Nat},(∀ k,k<n->g k=0)->Lp.sumTo g n=0
 | 0,_=>rfl
 | n+1,h=>by
  show Lp.sumTo g n+g n=0
  rw [a2v λ k hk=>h k (by lia),h n (by lia)]; rfl
def b1p (q:Nat) (S:Lp.Bo) (k v:Nat):Int:=Lp.sumTo (λ i=>if S.ins i=v then S.T i q else 0) k
def a6W (m:Nat) (S:Lp.Bo) (k v:Nat):Int:=Lp.sumTo (λ j=>if S.outs j=v then S.T m j else 0) k
def p7 (m q:Nat) (S:Lp.Bo):List Int:=(aH q).map λ v=>Lp.valIn m S q v
def D0 (m q:Nat) (S:Lp.Bo):List Int:=(aH m).map λ i=>Lp.valOut m q S (q+i)
theorem a4F (k:Nat):(aI k [V.int 0]).flatten=(aH k).map λ _=>V.int 0:=by
 induction k with
 | zero=>rfl
 | succ k ih=>rw [List.replicate_succ',List.flatten_append,ih,fK,bN]; rfl
theorem b0i {n v:Nat} {F G:Nat->Int} {x:Int} (hv:G v=x) (h:∀ u,u<n->u≠v->F u=G u):((aH n).map λ u=>V.int (F u)).set v (.int x)=(aH n).map λ u=>V.int (G u):=by
 refine cC λ j=>?_
 by_cases hj:j<n
 ·by_cases e:j=v
  ·subst e
   rw [cO (by simp; lia),aE,bI hj,dW,hv]
  ·rw [bS (aO e),aE,aE,bI hj,dW,dW,h j hj e]
 ·rw [aW (by simp; lia),aW (by simp; lia)]
section
variable {P:Program} {w:World} {K:W.Frag} {mg:Str->Option Value} {base:Heap} {f g c Pt:Addr} {fd gd:FuncData} {n:Nat} {C:Addr}
def b0n (C:Addr):Sp:=λ vs H Q _=>∃ (p dx ca oa ia:Addr) (rs:List Addr) (m q:Nat) (S:Lp.Bo),vs=[.ref p]/\Bd C H p dx ca oa ia rs m q S/\m<900/\q<900/\(∀ i k,i<m->k<m->S.ins i=S.ins k->i=k) ∧
 ∀ (r:Addr) (H':Hp),Same H H'->H r=none->H' r=some (.lst ((p7 m q S).map V.int))->Q (.ref r) H'
theorem scAmts:r8 ["self","told","row","number"] ["self"] (i9 a9z):=⟨rfl,rfl,rfl,by decide +kernel,rfl,by decide +kernel,by decide +kernel⟩
theorem b1e (F:Fun K "amounts" "Board.amounts" a9z f fd) (N:A3 mg) (T:TB K C):FnOk P w K mg base J7 (n+1) f fd ["self"] (b0n C):=by
 refine F.ok scAmts (λ vs H Q E h=>?_) (λ cdv A outer s H vs Q E hr h=>?_)
 ·obtain ⟨p,dx,ca,oa,ia,rs,m,q,S,rfl,_⟩:=h
  rfl
 obtain ⟨p,dx,ca,oa,ia,rs,m,q,S,rfl,B,hm,hq,inj,k⟩:=h;refine ⟨_,j0 (p6 (i:=1) scAmts.nd rfl (aC rfl) (j5 R8 (u9 (c5 h8 c7)) (v7 (pv 0) rfl)))
  (j0 (Y2 PassesOwn.never rfl (a6v K rfl rfl N.enum (c5 (v7 (pv 0) rfl) c7)) (K8 K (n:=2) rfl rfl (j7 (j3 (i:=2) scAmts.nd rfl (aC rfl)) (j7 (j3 (i:=3) scAmts.nd rfl (aC rfl)) x9)))
   (j8 (E2 (r9 Z6 (pv 3) (v7 (pv 0) rfl) (t9 _)) (j8 (E4 (m8 j6 (m8 j6 (v7 (pv 0) rfl) (pv 2) (λ _ _=>rfl)) (K2 D6 h8) (λ _ _=>rfl)) (P0 (pv 1) (pv 3) E8))) y6)))
  (j8 (v5 (pv 1)))),?_⟩
 have sl:=j4 (show q<=1000 by lia);refine ⟨(by show 1<=sizeLine; decide),λ z hz=>?_⟩;have ez:=Same.new hz (.lst [.int 0]);refine ⟨_,rfl,p,C,dx,_,_,rfl,ez _ _ B.obj,T.cl,T.nM,rfl,z,_,_,rfl,rfl,upd_same,(by lia),(by lia),(by rw [aV]; simp; lia),λ tl htl=>?_⟩;rw [aV,a4F];have htn:H tl=none:=by
  cases q1:H tl with
  | none=>rfl
  | some o=>rw [ez _ _ q1] at htl; cases htl
 have e0:Same H (upd (upd H z (.lst [.int 0])) tl (.lst ((aH q).map λ _=>V.int 0))):=ez.write htn;refine ⟨_,rfl,p,C,dx,_,_,rfl,e0 _ _ B.obj,T.cl,T.nI,rfl,ia,rfl,⟨_,SqL.of (e0 _ _ B.inn)⟩,?_⟩;have li:((O4 m S).map V.int).length=m:=by unfold O4; simp
 refine a4A (xs:=(O4 m S).map V.int) (i1:=2) (i2:=3) (λ j σ H'=>∃ o2 o3:Option V,σ=[some (.ref p),some (.ref tl),o2,o3]/\Same H H'/\H' tl=some (.lst ((aH q).map λ v=>V.int (b1p q S j v))))
  ⟨_,_,rfl,e0,by rw [upd_same]; rfl⟩ (λ j σ H' ⟨_,_,_,e,_⟩=>SqL.of (e _ _ B.inn)) ?_ ?_
 ·rintro j x σ H1 qq hx ⟨o2,o3,rfl,e1,ht⟩ hqq
  have hj:j<m:=by rw [<- li]; exact (aY.mp hx).1
  have hx':x=.int (S.ins j):=by
   have:=(v8 hx).symm.trans (a1x (S:=S) hj);exact aM this
  subst hx';have s1:=Same.new hqq (.tup [V.int (j:Int),.int (S.ins j)]);have e2:=e1.trans s1;have ht2:=s1 _ _ ht;refine ⟨_,rfl,_,rfl,p,C,dx,_,_,rfl,e2 _ _ B.obj,T.cl,T.nM,rfl,_,_,rfl,rfl,_,rfl,?_⟩;have st:∀ v,b1p q S (j+1) v=b1p q S j v+(if S.ins j=v then S.T j q else 0):=λ v=>rfl;refine G5 (λ d=>?_) (λ d=>?_)
  ·have d':S.ins j<q:=by have:=of_decide_eq_true d; lia
   obtain ⟨rj,erj,arj⟩:=B.rs_at (i:=j) (by lia);refine ⟨_,rfl,p,C,dx,_,_,rfl,e2 _ _ B.obj,T.cl,T.nC,rfl,_,rfl,ca,_,_,_,rfl,rfl,SqL.of (e2 _ _ B.cel),arj,_,rfl,rj,_,_,_,rfl,rfl,SqL.of (e2 _ _ (B.row j rj erj)),V3,?_⟩;refine ⟨_,rfl,_,rfl,tl,_,_,S.ins j,rfl,rfl,ht2,a2b (by simp; lia),?_⟩;refine ⟨_,_,rfl,e2.write htn,?_⟩;rw [upd_same]
   congr 2
   refine b0i ?_ λ u hu hne=>?_
   ·rw [st,if_pos rfl]
    have:b1p q S j (S.ins j)=0:=a2v λ i hi=>if_neg λ z=>absurd (inj i j (by lia) hj z) (by lia);rw [this]; lia
   ·rw [st,if_neg (aO hne)]; lia
  ·have d':¬ S.ins j<q:=λ z=>d (decide_eq_true (by lia))
   refine ⟨_,_,rfl,e2,?_⟩;rw [ht2]
   congr 2
   refine cZ λ v hv=>?_;rw [st,if_neg (λ z=>d' (by rw [z]; exact dZ.mp hv)),dH]
 ·intro σ H1 hM_; refine C9 λ G_ hG_=>?_; obtain ⟨o2,o3,rfl,e1,ht⟩:=hM_; subst hG_
  rw [li] at ht;refine ⟨_,rfl,k tl H1 e1 htn ?_⟩;rw [ht];unfold p7;rw [aS]; rfl
def b2h (C:Addr):Sp:=λ vs H Q _=>∃ (p dx ca oa ia:Addr) (rs:List Addr) (m q:Nat) (S:Lp.Bo),vs=[.ref p]/\Bd C H p dx ca oa ia rs m q S/\m<900/\q<900/\(∀ j k,j<q->k<q->S.outs j=S.outs k->j=k)/\(∀ j,j<q->S.outs j<q+m) ∧
 ∀ (r:Addr) (H':Hp),Same H H'->H r=none->H' r=some (.lst ((D0 m q S).map V.int))->Q (.ref r) H'
theorem scWts:r8 ["self","told","column","number"] ["self"] (i9 b3u):=⟨rfl,rfl,rfl,by decide +kernel,rfl,by decide +kernel,by decide +kernel⟩
theorem b3o (F:Fun K "weights" "Board.weights" b3u f fd) (N:A3 mg) (T:TB K C):FnOk P w K mg base J7 (n+1) f fd ["self"] (b2h C):=by
 refine F.ok scWts (λ vs H Q E h=>?_) (λ cdv A outer s H vs Q E hr h=>?_)
 ·obtain ⟨p,dx,ca,oa,ia,rs,m,q,S,rfl,_⟩:=h
  rfl
 obtain ⟨p,dx,ca,oa,ia,rs,m,q,S,rfl,B,hm,hq,inj,ob,k⟩:=h;refine ⟨_,j0 (p6 (i:=1) scWts.nd rfl (aC rfl) (j5 R8 (u9 (c5 h8 c7)) (m9 j9 rfl N.len bQ (c5 (v7 (pv 0) rfl) c7))))
  (j0 (Y2 PassesOwn.never rfl (a6v K rfl rfl N.enum (c5 (v7 (pv 0) rfl) c7)) (K8 K (n:=2) rfl rfl (j7 (j3 (i:=2) scWts.nd rfl (aC rfl)) (j7 (j3 (i:=3) scWts.nd rfl (aC rfl)) x9)))
   (j8 (E2 (r9 b1Q (pv 3) (v7 (pv 0) rfl) (t9 _)) (j8 (E4 (m8 j6 (m8 j6 (v7 (pv 0) rfl) (K2 D6 h8) (λ _ _=>rfl)) (pv 2) (λ _ _=>rfl)) (P0 (pv 1) (j5 a3w (pv 3) (v7 (pv 0) rfl)) E8))) y6)))
  (j8 (v5 (pv 1)))),?_⟩
 have sl:=j4 (show m<=1000 by lia);have li:((O4 m S).map V.int).length=m:=by unfold O4; simp
 have lo:((K4 q S).map V.int).length=q:=by unfold K4; simp
 refine ⟨(by show 1<=sizeLine; decide),λ z hz=>?_⟩;have ez:=Same.new hz (.lst [.int 0]);refine ⟨_,rfl,p,C,dx,_,_,rfl,ez _ _ B.obj,T.cl,T.nI,rfl,ia,_,rfl,.inl (SqL.of (ez _ _ B.inn)),z,_,_,rfl,rfl,upd_same,(by lia),(by lia),(by rw [li,aV]; simp; lia),λ tl htl=>?_⟩;rw [li,aV,a4F];have htn:H tl=none:=by
  cases q1:H tl with
  | none=>rfl
  | some o=>rw [ez _ _ q1] at htl; cases htl
 have e0:Same H (upd (upd H z (.lst [.int 0])) tl (.lst ((aH m).map λ _=>V.int 0))):=ez.write htn;refine ⟨_,rfl,p,C,dx,_,_,rfl,e0 _ _ B.obj,T.cl,T.nO,rfl,oa,rfl,⟨_,SqL.of (e0 _ _ B.out)⟩,?_⟩;refine a4A (xs:=(K4 q S).map V.int) (i1:=2) (i2:=3) (λ j σ H'=>∃ o2 o3:Option V,σ=[some (.ref p),some (.ref tl),o2,o3]/\Same H H'/\H' tl=some (.lst ((aH m).map λ v=>V.int (a6W m S j (q+v)))))
  ⟨_,_,rfl,e0,by rw [upd_same]; rfl⟩ (λ j σ H' ⟨_,_,_,e,_⟩=>SqL.of (e _ _ B.out)) ?_ ?_
 ·rintro j x σ H1 qq hx ⟨o2,o3,rfl,e1,ht⟩ hqq
  have hj:j<q:=by rw [<- lo]; exact (aY.mp hx).1
  have hx':x=.int (S.outs j):=by
   have:=(v8 hx).symm.trans (a2C (S:=S) hj);exact aM this
  subst hx';have s1:=Same.new hqq (.tup [V.int (j:Int),.int (S.outs j)]);have e2:=e1.trans s1;have ht2:=s1 _ _ ht;refine ⟨_,rfl,_,rfl,p,C,dx,_,_,rfl,e2 _ _ B.obj,T.cl,T.nM,rfl,_,_,rfl,rfl,_,rfl,?_⟩;have st:∀ v,a6W m S (j+1) v=a6W m S j v+(if S.outs j=v then S.T m j else 0):=λ v=>rfl;have hob:=ob j hj;refine G5 (λ d=>?_) (λ d=>?_)
  ·have d':q<=S.outs j:=by have:=of_decide_eq_true d; lia
   obtain ⟨rm,erm,arm⟩:=B.rs_last;refine ⟨_,rfl,p,C,dx,_,_,rfl,e2 _ _ B.obj,T.cl,T.nC,rfl,_,rfl,ca,_,_,_,rfl,rfl,SqL.of (e2 _ _ B.cel),arm,_,rfl,rm,_,_,_,rfl,rfl,SqL.of (e2 _ _ (B.row m rm erm)),W2 (by lia),?_⟩;refine ⟨_,rfl,_,rfl,_,rfl,p,C,dx,_,_,rfl,e2 _ _ B.obj,T.cl,T.nM,rfl,_,_,rfl,rfl,tl,_,_,S.outs j - q,rfl,rfl,ht2,?_,?_⟩
   ·rw [show ((S.outs j:Int) - (q:Int))=((S.outs j - q:Nat):Int) by lia]
    exact a2b (by simp; lia)
   refine ⟨_,_,rfl,e2.write htn,?_⟩;rw [upd_same]
   congr 2
   refine b0i ?_ λ u hu hne=>?_
   ·rw [st,if_pos (by lia)]
    have:a6W m S j (q+(S.outs j - q))=0:=a2v λ i hi=>if_neg λ z=>absurd (inj i j (by lia) hj (by lia)) (by lia);rw [this]; lia
   ·rw [st,if_neg (by lia)]; lia
  ·have d':¬ q<=S.outs j:=λ z=>d (decide_eq_true (by lia))
   refine ⟨_,_,rfl,e2,?_⟩;rw [ht2]
   congr 2
   refine cZ λ v hv=>?_;rw [st,if_neg (by lia),dH]
 ·intro σ H1 hM_; refine C9 λ G_ hG_=>?_; obtain ⟨o2,o3,rfl,e1,ht⟩:=hM_; subst hG_
  rw [lo] at ht;refine ⟨_,rfl,k tl H1 e1 htn ?_⟩;rw [ht];unfold D0;rw [aS]; rfl
end
def S6 (rows:List (List Int)):Nat->Nat->Int:=λ i j=>(rows.getD i []).getD j 0
def G6 (l:List Int):Nat->Int:=λ i=>l.getD i 0
abbrev RowsL (K:W.Frag) (H:Hp):List V->List (List Int)->Prop:=bZ λ v row=>∃ a,v=.ref a/\SqL K H a (row.map V.int)
section
variable {P:Program} {w:World} {K:W.Frag} {mg:Str->Option Value} {base:Heap} {f g c Pt:Addr} {fd gd:FuncData} {n:Nat} {C:Addr}
def a9g (K:W.Frag) (C:Addr):Sp:=λ vs H Q _=>∃ (p dx ga ra ba:Addr) (goal:List Int) (rvs:List V) (rows:List (List Int)) (bounds:List Int) (m q:Nat),vs=[.ref p,.ref ga,.ref ra,.ref ba]/\H p=some (.ins C dx [])/\SqL K H ga (goal.map V.int)/\SqL K H ra rvs ∧
 RowsL K H rvs rows/\SqL K H ba (bounds.map V.int)/\rows.length=m/\bounds.length=m/\goal.length=q/\(∀ r∈rows,r.length=q)/\m<900/\q<900 ∧
 ∀ (H':Hp) (ca oa ia:Addr) (rs:List Addr),Bd C H' p dx ca oa ia rs m q (Lp.S0 m q (S6 rows) (G6 bounds) (G6 goal))->(∀ b o,b≠p->H b=some o->H' b=some o)->H oa=none->H ia=none->Q .non H'
theorem b2y:r8 ["self","goal","rows","bounds"] ["self","goal","rows","bounds"] (i9 a4s):=⟨rfl,rfl,rfl,by decide +kernel,rfl,by decide +kernel,by decide +kernel⟩
theorem b4Q:(["row","bound"]:List Str).Nodup:=by decide +kernel
theorem b5r:(["one"]:List Str).Nodup:=by decide +kernel
noncomputable def b4w {cdv:Value} {A:Around} {outer:List Env} {s:Shared} {H:Hp} {E:XK} (N:A3 mg) :
  { t:TS // PSs (J6 J7 P w K mg base ["self","goal","rows","bounds"] "Board.__init__" (i9 a4s) f cdv A outer s H E).nox (v4 a4s) t } :=
 ⟨_,j0 (Y4 (pv 0) (m9 j9 rfl N.len bQ (c5 (pv 1) c7)) rfl)
  (j0 (Y4 (pv 0) h8 rfl)
  (r6 (Y4 (pv 0) (M8 ["row","bound"] [] rfl (a4Y true true K rfl rfl N.zip (c5 (pv 2) (c5 (pv 3) c7)))
   (λ _ _ _ _=>K8 K (n:=2) rfl rfl (j7 (j3 (i:=0) b4Q rfl (aC rfl)) (j7 (j3 (i:=1) b4Q rfl (aC rfl)) x9)))
   (λ _ _ _ _=>j5 C2 (v9 (a6I K rfl) rfl N.list eL (c5 (pv 0) c7)) (u9 (c5 (pv 1) c7)))) rfl)
  (r6 (a0l (a7e iA iB iC N4 (v7 (pv 0) rfl)
   (c5 (j5 C2 (M8 ["one"] [] rfl (w8 (pv 1)) (λ _ _ _ _=>j3 (i:=0) b5r rfl (aC rfl)) (λ _ _ _ _=>K2 D6 (pv 0))) (u9 (c5 h8 c7))) c7)))
  (j0 (Y4 (pv 0) (v9 (Y0 rfl) rfl N.list eL (c5 (v9 a7Z rfl N.range lI (c5 (v7 (pv 0) rfl) c7)) c7)) rfl)
  (j8 (Y4 (pv 0) (v9 (Y0 rfl) rfl N.list eL (c5 (v9 a8b rfl N.range lI (c5 (v7 (pv 0) rfl) (c5 (j5 B9 (v7 (pv 0) rfl) (m9 j9 rfl N.len bQ (c5 (pv 2) c7))) c7))) c7)) rfl))))))⟩
end
theorem b2J {m q i:Nat} {rows:List (List Int)} {bounds goal row:List Int} {b:Int} (hr:rows[i]?=some row) (hb:bounds[i]?=some b) (hl:row.length=q) (hi:i<m) :
  row++[b]=x8 q (Lp.S0 m q (S6 rows) (G6 bounds) (G6 goal)) i:=by
 refine cC λ j=>?_;unfold x8
 by_cases hj:j<q+1
 ·rw [aE,bI hj,dW]
  have hT:(Lp.S0 m q (S6 rows) (G6 bounds) (G6 goal)).T i j=if j<q then S6 rows i j else G6 bounds i:=by
   show (if j<q then (if i<m then _ else _) else (if i<m then _ else _))=_
   rw [if_pos hi,if_pos hi]
  rw [hT]
  by_cases h:j<q
  ·rw [bF (by lia),if_pos h]
   unfold S6;rw [aG,aG,hr,iD,aD (by lia),iD]
  ·rw [bU (by lia),if_neg h,hl,show j - q=0 by lia]
   unfold G6;rw [aG,hb]; rfl
 ·rw [aW (by simp; lia),aW (by simp; lia)]
theorem b0G {m q:Nat} {rows:List (List Int)} {bounds goal:List Int} (hl:goal.length=q):goal.map (λ x=>-x)++[0]=x8 q (Lp.S0 m q (S6 rows) (G6 bounds) (G6 goal)) m:=by
 refine cC λ j=>?_;unfold x8
 by_cases hj:j<q+1
 ·rw [aE,bI hj,dW]
  have hT:(Lp.S0 m q (S6 rows) (G6 bounds) (G6 goal)).T m j=if j<q then - G6 goal j else 0:=by
   show (if j<q then (if m<m then _ else _) else (if m<m then _ else _))=_
   rw [if_neg (bR _),if_neg (bR _)]
  rw [hT]
  by_cases h:j<q
  ·rw [bF (by simp; lia),if_pos h,aE]
   unfold G6;rw [aG,aD (by lia),dW,iD]
  ·rw [bU (by simp; lia),if_neg h,aA,hl,show j - q=0 by lia]; rfl
 ·rw [aW (by simp; lia),aW (by simp; lia)]
theorem b1M {m q:Nat} {A:Nat->Nat->Int} {b c:Nat->Int}:((aH q).map λ (i:Nat)=>V.int (0+(i:Int)))=(K4 q (Lp.S0 m q A b c)).map V.int:=by
 unfold K4;rw [aS];refine cZ λ j hj=>?_;have h:(Lp.S0 m q A b c).outs j=j:=if_pos (dZ.mp hj);simp [h]
theorem b3r {m q:Nat} {A:Nat->Nat->Int} {b c:Nat->Int}:((aH m).map λ (i:Nat)=>V.int ((q:Int)+(i:Int)))=(O4 m (Lp.S0 m q A b c)).map V.int:=by
 unfold O4;rw [aS];refine cZ λ j hj=>?_;have h:(Lp.S0 m q A b c).ins j=q+j:=rfl;simp [h]
section
variable {P:Program} {w:World} {K:W.Frag} {mg:Str->Option Value} {base:Heap} {f g c Pt:Addr} {fd gd:FuncData} {n:Nat} {C:Addr}
theorem U7 {H H':Hp} {a p:Addr} {xs:List V} {C dx:Addr} {fs:List (Str×V)} (hp:H p=some (.ins C dx fs)) (e:∀ b o,b≠p->H b=some o->H' b=some o) (h:SqL K H a xs):SqL K H' a xs:=by
 rcases h with (h | ⟨o,h⟩) | h
 ·exact .inl (.inl (e _ _ (a1g h hp (by intro z; cases z)) h))
 ·exact .inl (.inr ⟨o,e _ _ (a1g h hp (by intro z; cases z)) h⟩)
 ·exact .inr h
theorem b0z (F:Fun K "__init__" "Board.__init__" a4s f fd) (N:A3 mg) (T:TB K C):FnOk P w K mg base J7 (n+1) f fd ["self","goal","rows","bounds"] (a9g K C):=by
 refine F.ok b2y (λ vs H Q E h=>?_) (λ cdv A outer s H vs Q E hr h=>?_)
 ·obtain ⟨p,dx,ga,ra,ba,goal,rvs,rows,bounds,m,q,rfl,_⟩:=h
  rfl
 obtain ⟨p,dx,ga,ra,ba,goal,rvs,rows,bounds,m,q,rfl,hp,hg,hra,hrw,hba,lr,lb,lg,hrl,hm,hq,k⟩:=h;refine ⟨_,(b4w N).2,?_⟩;have lv:rvs.length=m:=by rw [<- lr]; exact Paired.length hrw
 have k1:∀ b o,b≠p->H b=some o->upd (upd H p (.ins C dx [("many",.int q)])) p (.ins C dx [("many",.int q),("scale",.int 1)]) b=some o:=λ b o hb e=>by rw [d0 hb,d0 hb]; exact e
 refine ⟨_,rfl,ga,_,rfl,.inl hg,_,rfl,p,C,dx,_,rfl,hp,T.cl,T.nM,(by show 0<1000; decide),?_⟩;rw [aA,lg];refine ⟨_,rfl,p,C,dx,_,rfl,upd_same,T.cl,T.nS,(by show 1<1000; decide),?_⟩;refine ⟨λ σ' H4=>∃ (l:Addr) (rs:List Addr),σ'=[some (.ref p),some (.ref ga),some (.ref ra),some (.ref ba)]/\H4 p=some (.ins C dx [("many",.int q),("scale",.int 1),("cells",.ref l)])/\H4 l=some (.lst (rs.map V.ref))/\rs.length=m/\H l=none ∧
  (∀ i a,rs[i]?=some a->a≠l/\H4 a=some (.lst ((x8 q (Lp.S0 m q (S6 rows) (G6 bounds) (G6 goal)) i).map V.int)))/\∀ b o,b≠p->H b=some o->H4 b=some o,?_,?_⟩
 ·refine ⟨_,rfl,_,rfl,ra,ba,rfl,⟨_,U7 hp k1 hra⟩,⟨_,U7 hp k1 hba⟩,λ l hl=>?_⟩
  have nlp:p≠l:=i8 upd_same hl;have hl0:H l=none:=by
   rw [d0 nlp.symm,d0 nlp.symm] at hl; exact hl
  refine a3t (U7 hp k1 hra) (U7 hp k1 hba) hl (by rw [lv]; exact j4 (by lia)) (λ i y H2=>∃ a,y=.ref a/\a≠l/\H2 a=some (.lst ((x8 q (Lp.S0 m q (S6 rows) (G6 bounds) (G6 goal)) i).map V.int)))
   (λ i y H2 H3 ⟨a,h1,h2,h3⟩ e=>⟨a,h1,h2,e a _ h2 h3⟩) (λ i x y H2 zs N' hx hy e hl2 hN=>?_) (λ zs H2 e hl2 len pr=>?_)
  ·obtain ⟨row,hrow,⟨a,rfl,ha⟩⟩:=Paired.at hrw hx
   rw [aE] at hy
   cases hbi:bounds[i]? with
   | none=>rw [hbi] at hy; cases hy
   | some b =>
    rw [hbi] at hy;have hy':V.int b=y:=aM hy;subst hy';have hi:i<m:=by rw [<- lb]; exact (aY.mp hbi).1
    have hlen:=hrl row (aU hrow);have ha2:SqL K H2 a (row.map V.int):=e.seq (U7 hp k1 ha);refine ⟨_,rfl,a,_,rfl,.inl ha2,λ a1 h1=>?_⟩;have s1:=Same.new h1 (.lst (row.map V.int));refine ⟨_,rfl,(by show 1<=sizeLine; decide),λ a2 h2=>?_⟩;have s2:=s1.trans (Same.new h2 (.lst [.int b]));have n12:a1≠a2:=i8 upd_same h2;refine ⟨a1,a2,_,_,rfl,rfl,(by rw [d0 n12]; exact upd_same),upd_same,?_,λ a3 h3=>?_⟩
    ·rw [aA,hlen]
     have:=j4 (show q+1<=1000 by lia);simp;lia
    ·refine hN _ _ (s2.trans (Same.new h3 _)) ⟨a3,rfl,λ z=>?_,?_⟩
     ·rw [z,s2 _ _ hl2] at h3; cases h3
     ·rw [upd_same,<- b2J hrow hbi hlen hi,bN]; rfl
  ·have hp2:=e _ _ (upd_same (H:=upd H p (.ins C dx [("many",.int q)])) (a:=p) (o:=.ins C dx [("many",.int q),("scale",.int 1)]))
   refine ⟨_,rfl,p,C,dx,_,rfl,hp2,T.cl,T.nC,(by show 2<1000; decide),?_⟩;have hzs:zs=(zs.map a4y).map V.ref:=by
    rw [aS];refine cC λ i=>?_;rw [aE]
    cases qi:zs[i]? with
    | none=>rfl
    | some y =>
     obtain ⟨a,rfl,_⟩:=pr i y qi;rfl
   refine ⟨l,zs.map a4y,rfl,upd_same,by rw [d0 nlp.symm,hl2]; rw [<- hzs],by rw [aA,len,lv,aA,lb]; lia,hl0,λ i a hi=>?_,λ b o hb hbo=>by rw [d0 hb]; exact e _ _ (k1 b o hb hbo)⟩;rw [aE] at hi
   cases qi:zs[i]? with
   | none=>rw [qi] at hi; cases hi
   | some y =>
    obtain ⟨a',rfl,h2,h3⟩:=pr i y qi;rw [qi] at hi;have:a'=a:=aM hi;subst this;refine ⟨h2,?_⟩;rw [d0 (λ z=>by rw [z,hp2] at h3; cases h3)];exact h3
 intro σ' H4 hM_; refine C9 λ G_ hG_=>?_; obtain ⟨l,rs,rfl,hp4,hl4,hlen,hl0,hrs,hk⟩:=hM_; subst hG_;have nlp:l≠p:=(i8 hp hl0).symm;refine ⟨λ σ' H5=>∃ rs':List Addr,σ'=[some (.ref p),some (.ref ga),some (.ref ra),some (.ref ba)]/\H5 p=some (.ins C dx [("many",.int q),("scale",.int 1),("cells",.ref l)])/\H5 l=some (.lst (rs'.map V.ref))/\rs'.length=m+1 ∧
  (∀ i a,rs'[i]?=some a->a≠l/\H5 a=some (.lst ((x8 q (Lp.S0 m q (S6 rows) (G6 bounds) (G6 goal)) i).map V.int)))/\∀ b o,b≠p->H b=some o->H5 b=some o,?_,?_⟩
 ·refine ⟨_,rfl,p,C,dx,_,_,rfl,hp4,T.cl,T.nC,rfl,.inl ⟨rfl,_,SqL.of hl4⟩,?_⟩
  have hg4:=U7 hp hk hg;refine ⟨_,rfl,ga,rfl,⟨_,hg4⟩,λ a1 h1=>?_⟩;refine U1 (t8 hg4) h1 (by rw [aA,lg]; exact j4 (by lia)) (λ x=>.int (-(vI x))) (λ i x H' N' hx e hN=>?_) ?_
  ·obtain ⟨x',rfl,_⟩:=K9 hx
   exact ⟨Wk.set (by decide),_,rfl,_,rfl,hN⟩
  have eg:(goal.map V.int).map (λ x=>V.int (-(vI x)))=(goal.map λ x=>-x).map V.int:=by rw [aS,aS]; rfl
  rw [eg];have s1:=Same.new h1 (.lst ((goal.map λ x=>-x).map V.int));refine ⟨(by show 1<=sizeLine; decide),λ a2 h2=>?_⟩;have s2:=s1.trans (Same.new h2 (.lst [.int 0]));have n12:a1≠a2:=i8 upd_same h2;refine ⟨a1,a2,_,_,rfl,rfl,(by rw [d0 n12]; exact upd_same),upd_same,?_,λ a3 h3=>?_⟩
  ·rw [aA,aA,lg]
   have:=j4 (show q+1<=1000 by lia);simp;lia
  have s3:=s2.trans (Same.new h3 (.lst ((goal.map λ x=>-x).map V.int++[.int 0])));refine ⟨l,_,_,rfl,rfl,s3 _ _ hl4,(by rw [aA,hlen]; exact j4 (by lia)),?_⟩;have n3l:a3≠l:=λ z=>by rw [z,s2 _ _ hl4] at h3; cases h3
  have n3p:a3≠p:=λ z=>by rw [z,s2 _ _ hp4] at h3; cases h3
  refine ⟨rs++[a3],rfl,by rw [d0 nlp.symm]; exact s3 _ _ hp4,by rw [upd_same,bN]; rfl,by rw [aJ,hlen]; rfl,λ i a hi=>?_,λ b o hb hbo=>by rw [d0 (i8 hbo hl0)]; exact s3 _ _ (hk b o hb hbo)⟩
  by_cases him:i<m
  ·rw [bF (by lia)] at hi
   obtain ⟨g1,g2⟩:=hrs i a hi;exact ⟨g1,by rw [d0 g1]; exact s3 _ _ g2⟩
  ·rw [bU (by lia)] at hi
   have hi0:i - rs.length=0:=by
    cases z:i - rs.length with
    | zero=>rfl
    | succ j=>rw [z] at hi; simp at hi
   rw [hi0] at hi;have:a3=a:=aM hi;subst this;have:i=m:=by lia
   subst this;refine ⟨n3l,?_⟩;rw [d0 n3l,upd_same,<- b0G lg,bN]; rfl
 intro σ' H5 hM_; refine C9 λ G_ hG_=>?_; obtain ⟨rs',rfl,hp5,hl5,hlen5,hrs5,hk5⟩:=hM_; subst hG_;refine ⟨_,rfl,p,C,dx,_,_,rfl,hp5,T.cl,T.nM,rfl,q,rfl,λ r1 h1=>?_⟩;have s1:=Same.new h1 (.rng 0 (q:Int));refine ⟨r1,0,q,rfl,by rw [upd_same,fX],by lia,by lia,by lia,λ oa hoa=>?_⟩;have s2:=s1.trans (Same.new hoa (.lst ((aH q).map λ (i:Nat)=>V.int (0+(i:Int)))));have noa5:H5 oa=none:=by
  cases z:H5 oa with
  | none=>rfl
  | some o=>rw [s1 _ _ z] at hoa; cases hoa
 have nop:oa≠p:=(i8 hp5 noa5).symm;refine ⟨_,rfl,p,C,dx,_,rfl,s2 _ _ hp5,T.cl,T.nO,(by show 3<1000; decide),?_⟩;have hra5:=U7 hp hk5 hra;have lp5:SqL K (upd (upd (upd H5 r1 (.rng 0 (q:Int))) oa (.lst ((aH q).map λ (i:Nat)=>V.int (0+(i:Int))))) p (.ins C dx [("many",.int q),("scale",.int 1),("cells",.ref l),("outs",.ref oa)])) ra rvs :=
  U7 (s2 _ _ hp5) (λ b o hb e=>by rw [d0 hb]; exact e) (s2.seq hra5)
 refine ⟨_,rfl,p,C,dx,_,_,rfl,upd_same,T.cl,T.nM,rfl,_,rfl,p,C,dx,_,_,rfl,upd_same,T.cl,T.nM,rfl,_,rfl,ra,_,rfl,.inl lp5,_,_,rfl,rfl,_,_,rfl,λ r2 h2=>?_⟩;rw [lv];refine ⟨r2,(q:Int),m,rfl,upd_same,by lia,by lia,by lia,λ ia hia=>?_⟩;have n2p:r2≠p:=(i8 upd_same h2).symm;have nip:ia≠p:=by
  refine (i8 (H:=_) (o:=.ins C dx [("many",.int q),("scale",.int 1),("cells",.ref l),("outs",.ref oa)]) ?_ hia).symm;rw [d0 n2p.symm,upd_same]; rfl
 have oa6:∀ o,upd (upd (upd H5 r1 (.rng 0 (q:Int))) oa o) p (.ins C dx [("many",.int q),("scale",.int 1),("cells",.ref l),("outs",.ref oa)]) oa=some o:=λ o=>by rw [d0 nop,upd_same]
 have n2o:r2≠oa:=(i8 (oa6 _) h2).symm;have nio:ia≠oa:=by
  refine (i8 (H:=_) (o:=.lst ((aH q).map λ (i:Nat)=>V.int (0+(i:Int)))) ?_ hia).symm;rw [d0 n2o.symm]; exact oa6 _
 have up:∀ b o,b≠p->H5 b=some o->b≠ia/\b≠r2/\upd (upd H5 r1 (.rng 0 (q:Int))) oa (.lst ((aH q).map λ (i:Nat)=>V.int (0+(i:Int)))) b=some o:=λ b o hb e=>by
  have e2:=s2 _ _ e;have nb2:b≠r2:=by
   refine i8 (H:=_) (o:=o) ?_ h2;rw [d0 hb]; exact e2
  refine ⟨?_,nb2,e2⟩;refine i8 (H:=_) (o:=o) ?_ hia;rw [d0 nb2,d0 hb]; exact e2
 refine ⟨_,rfl,p,C,dx,_,rfl,(by rw [d0 nip.symm,d0 n2p.symm]; exact upd_same),T.cl,T.nI,(by show 4<1000; decide),?_⟩;have fin:∀ b o,b≠p->H5 b=some o->upd (upd (upd (upd (upd (upd H5 r1 (.rng 0 (q:Int))) oa (.lst ((aH q).map λ (i:Nat)=>V.int (0+(i:Int))))) p (.ins C dx [("many",.int q),("scale",.int 1),("cells",.ref l),("outs",.ref oa)])) r2 (.rng (q:Int) ((q:Int)+(m:Int)))) ia (.lst ((aH m).map λ (i:Nat)=>V.int ((q:Int)+(i:Int))))) p (.ins C dx [("many",.int q),("scale",.int 1),("cells",.ref l),("outs",.ref oa),("ins",.ref ia)]) b=some o:=λ b o hb e=>by
  obtain ⟨g1,g2,g3⟩:=up b o hb e;rw [d0 hb,d0 g1,d0 g2,d0 hb]; exact g3
 have ia5:H5 ia=none:=by
  cases z:H5 ia with
  | none=>rfl
  | some o=>exact absurd rfl (up ia o nip z).1
 have back:∀ b,b≠p->H5 b=none->H b=none:=λ b hb z=>by
  cases z2:H b with
  | none=>rfl
  | some o=>rw [hk5 b o hb z2] at z; cases z
 refine k _ l oa ia rs' ⟨upd_same,fin _ _ nlp hl5,hlen5,λ i a hi=>fin _ _ (λ z=>?_) (hrs5 i a hi).2,?_,?_,nio.symm⟩ (λ b o hb hbo=>fin b o hb (hk5 b o hb hbo)) (back _ nop noa5) (back _ nip ia5)
 ·have:=(hrs5 i a hi).2
  rw [z,hp5] at this; cases this
 ·rw [d0 nop,d0 nio.symm,d0 n2o.symm,d0 nop,upd_same,b1M]
 ·rw [d0 nip,upd_same,b3r]
end
section
variable {P:Program} {w:World} {K:W.Frag} {mg:Str->Option Value} {base:Heap} {f Pt:Addr} {fd:FuncData} {n:Nat} {C:Addr}
def N6 (K:W.Frag) (C Pt:Addr):Sp:=λ vs H Q _=>∃ (ga ra ba:Addr) (goal:List Int) (rvs:List V) (rows:List (List Int)) (bounds:List Int) (m q M:Nat),vs=[.ref ga,.ref ra,.ref ba]/\SqL K H ga (goal.map V.int)/\SqL K H ra rvs ∧
 RowsL K H rvs rows/\SqL K H ba (bounds.map V.int)/\rows.length=m/\bounds.length=m/\goal.length=q/\(∀ r∈rows,r.length=q)/\m<900/\q<900/\(∀ i,i<m->0<=G6 bounds i) ∧
 (∀ v,Lp.Fits M (m+1) (Lp.Vv m q (S6 rows) (G6 bounds) (G6 goal) v))/\Lp.bnd M (m+1)<2 ^ 4000/\LT Pt H ∧
 (∀ (S:Lp.Bo) (H':Hp) (t aa wa:Addr),Lp.Of m q (S6 rows) (G6 bounds) (G6 goal) S->(∀ j,j<q->¬ S.T m j<0)->Sz 4000 m q S->Same1 Pt H H'->LT Pt H'->H' t=some (.tup [.int (S.T m q),.ref aa,.ref wa,.int S.d]) →
  H' aa=some (.lst ((p7 m q S).map V.int))->H' wa=some (.lst ((D0 m q S).map V.int))->Q (.ref t) H') ∧
 ∀ (S:Lp.Bo) (H':Hp) (c:Nat),Lp.Of m q (S6 rows) (G6 bounds) (G6 goal) S->c<q->S.T m c<0->(∀ i,i<m->¬ 0<S.T i c)->Same1 Pt H H'->LT Pt H'->Q .non H'
theorem scGr:r8 ["goal","rows","bounds","board","column","row"] ["goal","rows","bounds"] (i9 K6):=⟨rfl,rfl,rfl,by decide +kernel,rfl,by decide +kernel,by decide +kernel⟩
structure b4d (P:Program) (w:World) (K:W.Frag) (mg:Str->Option Value) (base:Heap) (n:Nat) (C Pt:Addr) (f1 f2 f3 f4 f5 f6:Addr) (d1 d2 d3 d4 d5 d6:FuncData):Prop where
 mak:Mk K C f1
 ini:FnOk P w K mg base J7 n f1 d1 ["self","goal","rows","bounds"] (a9g K C)
 inb:Binds K d1 ["self","goal","rows","bounds"] []
 mC:mg "Board"=some (.ref C)
 com:a7K P w K mg base n C "coming" ["self"] (a1P C Pt) f2 d2
 goi:a7K P w K mg base n C "going" ["self","column"] (a6B C) f3 d3
 exc:a7K P w K mg base n C "exchange" ["self","row","column"] (a2c C) f4 d4
 amt:a7K P w K mg base n C "amounts" ["self"] (b0n C) f5 d5
 wts:a7K P w K mg base n C "weights" ["self"] (b2h C) f6 d6
noncomputable def grT {cdv:Value} {A:Around} {outer:List Env} {s:Shared} {H:Hp} {E:XK} {f1 f2 f3 f4 f5 f6:Addr} {d1 d2 d3 d4 d5 d6:FuncData} (T:TB K C) (G:b4d P w K mg base n C Pt f1 f2 f3 f4 f5 f6 d1 d2 d3 d4 d5 d6)
  (hr:Room (n+1) (A.deeper (dU "greatest" (i9 K6) s.heap.objs.size f cdv))) (hr0:Room n (A.deeper (dU "greatest" (i9 K6) s.heap.objs.size f cdv))) :
  { t:TS // PSs (J6 J7 P w K mg base ["goal","rows","bounds","board","column","row"] "greatest" (i9 K6) f cdv A outer s H E).nox (v4 K6) t } :=
 ⟨_,j0 (p6 (i:=3) scGr.nd rfl (aC rfl) (b1u G.mak G.ini hr rfl G.mC G.inb .nil u0 (c5 (pv 0) (c5 (pv 1) (c5 (pv 2) c7)))))
  (j0 (p6 (i:=4) scGr.nd rfl (aC rfl) (a0n (pv 3) T.cl G.com.me G.com.ok hr0 G.com.bd .nil u0))
  (j0 (a5k PassesOwn.never (r9 b1F (pv 4) R0 (t9 _))
   (j0 (p6 (i:=5) scGr.nd rfl (aC rfl) (a3E (pv 3) T.cl G.goi.me G.goi.ok hr0 G.goi.bd .nil u0 (c5 (pv 4) c7)))
   (j0 (E2 (r9 a5V (pv 5) R0 (t9 _)) (j8 (v5 R0)) y6)
   (j0 (a0l (a3E (pv 3) T.cl G.exc.me G.exc.ok hr0 G.exc.bd .nil u0 (c5 (pv 5) (c5 (pv 4) c7))))
   (j8 (p6 (i:=4) scGr.nd rfl (aC rfl) (a0n (pv 3) T.cl G.com.me G.com.ok hr0 G.com.bd .nil u0)))))))
  (j8 (v5 (O9 (c5 (m8 j6 (m8 j6 (v7 (pv 3) rfl) (K2 D6 h8) (λ _ _=>rfl)) (K2 D6 h8) (λ _ _=>rfl))
   (c5 (a0n (pv 3) T.cl G.amt.me G.amt.ok hr0 G.amt.bd .nil u0) (c5 (a0n (pv 3) T.cl G.wts.me G.wts.ok hr0 G.wts.bd .nil u0) (c5 (v7 (pv 3) rfl) c7)))))))))⟩
end
section
variable {P:Program} {w:World} {K:W.Frag} {mg:Str->Option Value} {base:Heap} {f Pt:Addr} {fd:FuncData} {n:Nat} {C:Addr}
theorem RowsL.same {H H':Hp} {vs:List V} {rs:List (List Int)} (e:Same H H') (x:RowsL K H vs rs):RowsL K H' vs rs:=Paired.imp' (λ _ _ ⟨a,z,q⟩=>⟨a,z,e.seq q⟩) x
theorem b4p {m q M:Nat} {A:Nat->Nat->Int} {b c:Nat->Int} {S:Lp.Bo} (O:Lp.Of m q A b c S) (hM:∀ v,Lp.Fits M (m+1) (Lp.Vv m q A b c v)) (hb:Lp.bnd M (m+1)<2 ^ 4000):Sz 4000 m q S :=
 ⟨λ i j hi hj=>eR (O.w.bndT hM hi hj) hb,eR (O.w.bndd hM) hb⟩
def Cv (m q:Nat) (S:Lp.Bo) (cv:V):Prop:=(cv=.non/\∀ j,j<q->¬ S.T m j<0)\/∃ c:Nat,cv=.int c/\c<q/\S.T m c<0/\∀ i,i<q->S.T m i<0->S.outs c<=S.outs i
theorem a4U {f1 f2 f3 f4 f5 f6:Addr} {d1 d2 d3 d4 d5 d6:FuncData} (F:Fun K "greatest" "greatest" K6 f fd) (T:TB K C) (G:b4d P w K mg base n C Pt f1 f2 f3 f4 f5 f6 d1 d2 d3 d4 d5 d6) :
  FnOk P w K mg base J7 (n+2) f fd ["goal","rows","bounds"] (N6 K C Pt):=by
 refine F.ok scGr (λ vs H Q E h=>?_) (λ cdv A outer s H vs Q E hr h=>?_)
 ·obtain ⟨ga,ra,ba,goal,rvs,rows,bounds,m,q,M,rfl,_⟩:=h
  rfl
 obtain ⟨ga,ra,ba,goal,rvs,rows,bounds,m,q,M,rfl,hg,hra,hrw,hba,lr,lb,lg,hrl,hm,hq,hbn,hM,hB,L,kT,kN⟩:=h;refine ⟨_,(grT T G hr (hr.mono (by lia))).2,?_⟩;refine ⟨_,rfl,_,rfl,_,rfl,λ p dx hp hdx hne=>?_⟩;have e0:Same H (upd (upd H dx (.own p)) p (.ins C dx [])):=λ b o q'=>by rw [d0 (i8 q' hp),d0 (i8 q' hdx)]; exact q'
 refine ⟨p,dx,ga,ra,ba,goal,rvs,rows,bounds,m,q,rfl,upd_same,e0.seq hg,e0.seq hra,hrw.same e0,e0.seq hba,lr,lb,lg,hrl,hm,hq,λ H1 ca oa ia rs B k1 hoa hia=>⟨rfl,?_⟩⟩;have nop:oa≠p:=a1g B.out B.obj (by intro z; cases z);have nip:ia≠p:=a1g B.inn B.obj (by intro z; cases z);have hoa0:H oa=none:=by
  cases z:H oa with
  | none=>rfl
  | some o=>rw [e0 _ _ z] at hoa; cases hoa
 have hia0:H ia=none:=by
  cases z:H ia with
  | none=>rfl
  | some o=>rw [e0 _ _ z] at hia; cases hia
 have s1:Same H H1:=λ b o z=>k1 b o (i8 z hp) (e0 _ _ z);have L1:LT Pt H1:=L.same s1;have O0:=Lp.of0 (A:=S6 rows) (c:=G6 goal) (q:=q) hbn;have come:∀ (S:Lp.Bo) (ca:Addr) (rs:List Addr) (H2:Hp) (R:V->Hp->Prop),Bd C H2 p dx ca oa ia rs m q S->LT Pt H2->Same1 Pt H H2->(∀ cv H3,Cv m q S cv->Bd C H3 p dx ca oa ia rs m q S->LT Pt H3->Same1 Pt H H3->R cv H3) →
   a1P C Pt [.ref p] H2 R E0:=λ S ca rs H2 R B2 L2 e2 hR=>by
  refine ⟨p,dx,ca,oa,ia,rs,m,q,S,rfl,B2,by lia,L2,λ H3 e3 L3=>?_⟩;have B3:=B2.lam L2 e3;have e4:Same1 Pt H H3:=λ b o hb z=>e3 b o hb (e2 b o hb z);exact ⟨λ hn=>hR _ _ (.inl ⟨rfl,hn⟩) B3 L3 e4,λ j hj hneg hmin=>hR _ _ (.inr ⟨j,rfl,hj,hneg,hmin⟩) B3 L3 e4⟩
 refine ⟨_,rfl,p,dx,_,rfl,B.obj,rfl,?_⟩;unfold b0W;refine come _ _ _ _ _ B L1 (λ b o _ z=>s1 b o z) λ cv H2 hcv B2 L2 e2=>?_;obtain ⟨kk,hkk⟩:=O0.w.ends hM;refine ⟨λ j σ H3=>∃ (S:Lp.Bo) (ca:Addr) (rs:List Addr) (cv:V) (o5:Option V),σ=[some (.ref ga),some (.ref ra),some (.ref ba),some (.ref p),some cv,o5]/\Lp.Of m q (S6 rows) (G6 bounds) (G6 goal) S/\Lp.Ends m q S j/\Cv m q S cv/\Bd C H3 p dx ca oa ia rs m q S/\LT Pt H3/\Same1 Pt H H3,
  ⟨kk,_,ca,rs,cv,_,rfl,O0,hkk,hcv,B2,L2,e2⟩,?_⟩
 rintro j σ H3 ⟨S,ca,rs,cv,o5,rfl,O,hE,hcv,B3,L3,e3⟩;have sz:=b4p O hM hB;refine ⟨_,rfl,rfl,_,rfl,?_⟩;rcases hcv with ⟨rfl,hn⟩ | ⟨c,rfl,hc,hneg,hmin⟩
 ·refine G5 (λ z=>?_) (λ _=>?_)
  ·exact absurd z (by decide)
  obtain ⟨rm,em,am⟩:=B3.rs_last;refine ⟨_,rfl,p,C,dx,_,_,rfl,B3.obj,T.cl,T.nC,rfl,_,rfl,ca,_,_,_,rfl,rfl,SqL.of B3.cel,am,_,rfl,rm,_,_,_,rfl,rfl,SqL.of (B3.row m rm em),V3,?_⟩;refine ⟨_,rfl,p,dx,_,rfl,B3.obj,rfl,?_⟩;refine ⟨p,dx,ca,oa,ia,rs,m,q,S,rfl,B3,hm,hq,O.w.ii,λ aa H4 e4 haa h4=>?_⟩;have B4:Bd C H4 p dx ca oa ia rs m q S:=B3.same1 (P:=Pt) λ b o z _=>e4 b o z;refine ⟨_,rfl,p,dx,_,rfl,B4.obj,rfl,?_⟩;refine ⟨p,dx,ca,oa,ia,rs,m,q,S,rfl,B4,hm,hq,O.w.oo,O.w.ob,λ wa H5 e5 hwa h5=>?_⟩;have B5:Bd C H5 p dx ca oa ia rs m q S:=B4.same1 (P:=Pt) λ b o z _=>e5 b o z;refine ⟨_,rfl,p,C,dx,_,_,rfl,B5.obj,T.cl,T.nS,rfl,(by show 4<=sizeLine; decide),λ t ht=>?_⟩;have e6:=(e4.trans e5).trans (Same.new ht (.tup [.int (S.T m q),.ref aa,.ref wa,.int S.d]));refine kT S _ t aa wa O hn sz (λ b o hb z=>e6 b o (e3 b o hb z)) (L3.same e6) upd_same ?_ ?_
  ·rw [d0 (i8 (e5 _ _ h4) ht)]; exact e5 _ _ h4
  ·rw [d0 (i8 h5 ht)]; exact h5
 ·refine G5 (λ _=>?_) (λ z=>absurd rfl z)
  refine ⟨λ σ' H'=>∃ j',j'<j/\∃ (S:Lp.Bo) (ca:Addr) (rs:List Addr) (cv:V) (o5:Option V),σ'=[some (.ref ga),some (.ref ra),some (.ref ba),some (.ref p),some cv,o5]/\Lp.Of m q (S6 rows) (G6 bounds) (G6 goal) S/\Lp.Ends m q S j'/\Cv m q S cv/\Bd C H' p dx ca oa ia rs m q S/\LT Pt H'/\Same1 Pt H H',λ σ' H' z=>z,?_⟩;refine ⟨_,rfl,p,dx,_,rfl,B3.obj,rfl,_,rfl,?_⟩;refine ⟨p,dx,ca,oa,ia,rs,m,q,S,c,rfl,B3,sz,by lia,by lia,λ hnone=>?_,λ r hrm hpos hbet=>?_⟩
  ·refine ⟨_,rfl,rfl,_,rfl,?_⟩
   refine G5 (λ _=>?_) (λ z=>absurd (decide_eq_true rfl) z);exact kN S H3 c O hc hneg hnone e3 L3
  ·have Ch:Lp.Choice m q S r c:=⟨hc,hneg,hmin,hrm,hpos,λ i hi hp'=>(hbet i hi hp').1,λ i hi hp'=>(hbet i hi hp').2⟩
   refine ⟨_,rfl,rfl,_,rfl,?_⟩;refine G5 (λ z=>absurd (of_decide_eq_true z) (by nofun)) (λ _=>?_);refine ⟨_,rfl,p,dx,_,rfl,B3.obj,rfl,_,rfl,_,rfl,?_⟩;refine ⟨p,dx,ca,oa,ia,rs,m,q,S,r,c,rfl,B3,sz,hrm,hc,hm,hq,O.w.pos,λ H4 ca' rs' B4 k4=>?_⟩;have e4:Same1 Pt H H4:=λ b o hb z=>k4 b o (i8 z hp) (i8 z hoa0) (i8 z hia0) (e3 b o hb z);have tk:∀ b o,H3 b=some o->(∀ C dx fs,o≠.ins C dx fs)->(∀ xs,o≠.lst xs)->H4 b=some o:=λ b o z n1 n2=>k4 b o (λ y=>by subst y; rw [B3.obj] at z; exact n1 _ _ _ (aM z).symm) (λ y=>by subst y; rw [B3.out] at z; exact n2 _ (aM z).symm) (λ y=>by subst y; rw [B3.inn] at z; exact n2 _ (aM z).symm) z;have L4:LT Pt H4:=by
    rcases L3 with t | ⟨c',t1,t2⟩
    ·exact .inl (tk _ _ t (λ _ _ _=>nofun) λ _=>nofun)
    ·exact .inr ⟨c',tk _ _ t1 (λ _ _ _=>nofun) λ _=>nofun,tk _ _ t2 (λ _ _ _=>nofun) λ _=>nofun⟩
   refine ⟨_,rfl,p,dx,_,rfl,B4.obj,rfl,?_⟩;refine come _ _ _ _ _ B4 L4 e4 λ cv' H5 hcv' B5 L5 e5=>?_;obtain ⟨j',hj',hE'⟩:=hE.next O.w Ch;exact ⟨j',hj',_,ca',rs',cv',_,rfl,O.piv Ch,hE',hcv',B5,L5,e5⟩
end
section
variable {P:Program} {w:World} {K:W.Frag} {mg:Str->Option Value} {base:Heap} {f g:Addr} {fd gd:FuncData}
def a3J (K:W.Frag):Sp:=λ vs H Q _=>∃ (a:Addr) (ns:List Int) (k:Int),vs=[.ref a,.int k]/\SqL K H a (ns.map V.int)/\0<=k/\∀ c:Int,Q (.int c) H
theorem b3x:r8 ["script","k"] ["script","k"] (i9 b0q):=⟨rfl,rfl,rfl,by decide +kernel,rfl,by decide +kernel,by decide +kernel⟩
theorem b2z {ns:List Int} {k:Int} (h0:0<=k) (h:k<((ns.map V.int).length:Int)):∃ v:Int,S8 (ns.map V.int) k=some (.int v):=by
 have hl:(ns.map V.int).length=ns.length:=aA _;have hk:k.toNat<ns.length:=by lia
 have ek:k=((k.toNat:Nat):Int):=by lia
 have q:S8 (ns.map V.int) ((k.toNat:Nat):Int)=some (.int ns[k.toNat]):=v8 (by rw [aE,aD hk]; rfl);rw [<- ek] at q;exact ⟨_,q⟩
theorem b1v {n:Nat} (F:Fun K "_law_cell_at" "_law_cell_at" b0q f fd) (T:A3 mg):FnOk P w K mg base J7 (n+1) f fd ["script","k"] (a3J K):=by
 refine F.ok b3x (λ vs H Q E h=>?_) (λ cdv A outer s H vs Q E hr h=>?_)
 ·obtain ⟨a,ns,k,rfl,_⟩:=h
  rfl
 obtain ⟨a,ns,k,rfl,hS,h0,q⟩:=h;refine ⟨_,j0 (E2 (r9 Z6 (pv 1) (m9 j9 rfl T.len bQ (c5 (pv 0) c7)) (t9 _)) (j8 (v5 (m8 j6 (pv 0) (pv 1) (λ _ _=>rfl)))) y6)
  (j8 (v5 h8)),?_⟩
 refine ⟨_,rfl,_,rfl,a,_,rfl,.inl hS,_,_,rfl,rfl,_,rfl,?_⟩;refine G5 (λ c=>?_) (λ c=>?_)
 ·obtain ⟨v,hv⟩:=b2z h0 (of_decide_eq_true c)
  exact ⟨_,rfl,_,rfl,a,_,_,_,rfl,rfl,hS,hv,q v⟩
 ·exact q 0
def a1w (K:W.Frag):Sp:=λ vs H Q _=>∃ (c:Int) (many:Nat) (b:Int),vs=[.int c,.int (many:Int),.int b]/\many<=900/\0<b/\b<1073741824 ∧
 ∀ (r:Addr) (H':Hp) (ds:List Int),Same H H'->H' r=some (.lst (ds.map V.int))->ds.length=many->(∀ d∈ds,0<=d/\d<b)->Q (.ref r) H'
theorem scDraws:r8 ["cell","many","base","found","rest","stirred","k"] ["cell","many","base"] (i9 a5L):=⟨rfl,rfl,rfl,by decide +kernel,rfl,by decide +kernel,by decide +kernel⟩
theorem a9v {n:Nat} (F:Fun K "_law_draws" "_law_draws" a5L f fd) (T:A3 mg):FnOk P w K mg base J7 (n+1) f fd ["cell","many","base"] (a1w K):=by
 refine F.ok scDraws (λ vs H Q E h=>?_) (λ cdv A outer s H vs Q E hr h=>?_)
 ·obtain ⟨a,ns,k,rfl,_⟩:=h
  rfl
 obtain ⟨c,many,b,rfl,hm,hb0,hb1,q⟩:=h;refine ⟨_,j0 (p6 (i:=3) scDraws.nd rfl (aC rfl) (u9 c7))
  (j0 (p6 (i:=4) scDraws.nd rfl (aC rfl) (j5 T4 (pv 0) (v9 a2U rfl T.int lJ (c5 (R5 b1Q (pv 0) (j5 a3k h8 h8) (t9 _)) c7))))
  (j0 (p6 (i:=5) scDraws.nd rfl (aC rfl) (j5 A2 (pv 0) h8))
  (j0 (Y2 PassesOwn.never rfl (J5 rfl T.range (c5 (j5 B9 (pv 1) h8) c7)) (j3 (i:=6) scDraws.nd rfl (aC rfl))
   (j0 (p6 (i:=5) scDraws.nd rfl (aC rfl) (j5 A2 (j5 B9 (j5 B9 (j5 B9 (j5 T4 (pv 5) (pv 5)) (j5 T4 h8 (pv 5))) (pv 6)) h8) h8))
    (j8 (E2 (PW.pt (a3Z (r9 a1d (pv 6) h8 (t9 _)) (a1p (r9 a1d (pv 4) h8 (t9 _)))))
     (j0 (a0l (a7e iA iB iC N4 (pv 3) (c5 (j5 A2 (pv 4) (pv 2)) c7))) (j8 (p6 (i:=4) scDraws.nd rfl (aC rfl) (j5 W9 (pv 4) (pv 2)))))
     (j8 (E2 (r9 a1d (pv 6) h8 (t9 _)) (j8 (a0l (a7e iA iB iC N4 (pv 3) (c5 (j5 A2 (j5 W9 (pv 5) h8) (pv 2)) c7)))) y6))))))
  (j8 (v5 (pv 3)))))),?_⟩
 refine ⟨(by show 0<=sizeLine; decide),λ fl hfl=>?_⟩;refine ⟨_,rfl,_,rfl,_,_,rfl,rfl,⟨by decide,by decide,by decide⟩,_,_,rfl,rfl,.inr ⟨_,rfl,_,_,rfl,rfl,.inr ?_,?_⟩⟩
 ·constructor <;> (split <;> decide)
 refine ⟨_,rfl,_,_,rfl,rfl,(by show (0:Int)<2305843009213693951; decide),?_⟩;refine ⟨_,rfl,_,_,rfl,rfl,((many:Int)+3),rfl,by lia,by lia,?_⟩;have e3:((many:Int)+3).toNat=many+3:=by lia
 rw [e3];refine a0z (n:=many+3) (λ i σ H'=>∃ (r st:Int) (ds:List Int) (ks:Option V),σ=[some (.int c),some (.int (many:Int)),some (.int b),some (.ref fl),some (.int r),some (.int st),ks]/\H'=upd H fl (.lst (ds.map V.int))/\ds.length=i - 3/\(∀ d∈ds,0<=d/\d<b)/\0<=st/\st<2305843009213693951)
  ⟨_,_,[],none,rfl,rfl,rfl,λ d hd=>(by cases hd),eM _ (by decide),cX _ (by decide)⟩ ?_ ?_
 ·rintro i σ H' hi ⟨r,st,ds,ks,rfl,rfl,hl,hd,hs0,hs1⟩
  refine ⟨_,rfl,_,rfl,_,_,rfl,rfl,.inl ⟨by lia,by lia⟩,_,rfl,_,_,rfl,rfl,.inl ⟨by decide,by decide⟩,_,_,rfl,rfl,_,rfl,_,_,rfl,rfl,_,_,rfl,rfl,_,_,rfl,rfl,(by show (0:Int)<2305843009213693951; decide),?_⟩;have hs0':0<=(st*st+48271*st+(0+(i:Int))+1) % 2305843009213693951:=eM _ (by decide);have hs1':(st*st+48271*st+(0+(i:Int))+1) % 2305843009213693951<2305843009213693951:=cX _ (by decide);refine ⟨_,rfl,_,_,rfl,rfl,_,rfl,?_⟩;have hz:(ds.map V.int).length<sizeLine:=by rw [aA]; exact j4 (by lia)
  have more:∀ d:Int,(ds.map V.int)++[V.int d]=(ds++[d]).map V.int:=λ d=>by rw [bN]; rfl
  have mem:∀ d:Int,0<=d->d<b->∀ d'∈ds++[d],0<=d'/\d'<b:=λ d h0 h1 d' hd'=>by
   rcases aT.mp hd' with z | z
   ·exact hd d' z
   ·rw [bH.mp z]; exact ⟨h0,h1⟩
  refine G5 (λ c1=>?_) (λ c1=>?_)
  ·have c1':2<0+(i:Int):=of_decide_eq_true c1
   refine ⟨_,rfl,_,_,rfl,rfl,_,rfl,?_⟩;refine G5 (λ c2=>?_) (λ c2=>?_)
   ·refine ⟨_,rfl,.inl ⟨rfl,_,SqL.of upd_same⟩,_,rfl,_,rfl,_,_,rfl,rfl,hb0,fl,_,_,rfl,rfl,upd_same,hz,?_⟩
    refine ⟨_,rfl,_,rfl,_,_,rfl,rfl,⟨hb0,hb1⟩,?_⟩;refine ⟨_,_,ds++[r % b],_,rfl,?_,?_,mem _ (eM _ (by lia)) (cX _ hb0),hs0',hs1'⟩
    ·rw [a1y,more]
    ·rw [aJ,cY]; lia
   ·refine ⟨_,rfl,_,_,rfl,rfl,_,rfl,?_⟩
    refine G5 (λ c3=>?_) (λ c3=>absurd c1 c3);refine ⟨_,rfl,.inl ⟨rfl,_,SqL.of upd_same⟩,_,rfl,_,_,rfl,rfl,⟨by decide,by decide⟩,_,rfl,_,_,rfl,rfl,hb0,fl,_,_,rfl,rfl,upd_same,hz,?_⟩;refine ⟨_,_,ds++[(st*st+48271*st+(0+(i:Int))+1) % 2305843009213693951 / 4096 % b],_,rfl,?_,?_,mem _ (eM _ (by lia)) (cX _ hb0),hs0',hs1'⟩
    ·rw [a1y,more]
    ·rw [aJ,cY]; lia
  ·have c1':¬ 2<0+(i:Int):=of_decide_eq_false (fY.mpr c1)
   refine a3o ?_;refine ⟨_,rfl,_,_,rfl,rfl,_,rfl,?_⟩;refine G5 (λ c3=>absurd c3 c1) (λ c3=>?_);exact ⟨_,_,ds,_,rfl,rfl,by lia,hd,hs0',hs1'⟩
 ·intro σ H' hM_; refine C9 λ G_ hG_=>?_; obtain ⟨r,st,ds,ks,rfl,rfl,hl,hd,_⟩:=hM_; subst hG_
  exact ⟨_,rfl,q fl _ ds (Same.new hfl _) upd_same (by lia) hd⟩
end
theorem W8 {n:Nat} {k:Int} (h0:0<=k) (h1:k<(n:Int)):ixN n k=some k.toNat:=by
 unfold ixN;rw [if_pos h0,if_pos h1]
theorem b0N {α:Type} {xs:List α} {k:Int} (h0:0<=k) (h1:k<(xs.length:Int)):∃ v,v∈xs/\S8 xs k=some v:=by
 have hk:k.toNat<xs.length:=by lia
 refine ⟨xs[k.toNat],cS hk,?_⟩;unfold S8;rw [W8 h0 h1];exact aD hk
theorem M0 {ns:List Int} {k:Int} (h0:0<=k) (h1:k<(ns.length:Int)):∃ v,v∈ns/\S8 (ns.map V.int) k=some (.int v):=by
 obtain ⟨v,hv,e⟩:=b0N (xs:=ns.map V.int) h0 (by rw [aA]; exact h1);obtain ⟨n,hn,rfl⟩:=aK.mp hv;exact ⟨n,hn,e⟩
theorem map_set {ns:List Int} {j:Nat} {v:Int}:(ns.map V.int).set j (.int v)=(ns.set j v).map V.int:=by rw [jI]
structure HG (far:Int) (kt kg:Nat) (h:i7):Prop where
 lt:h.1.length=kt
 lg:h.2.length=kg
 t:∀ x∈h.1,1<=x/\x<=far
 g:∀ x∈h.2,0<=x/\x<=far
 p:∃ x∈h.2,0<x
section
variable {P:Program} {w:World} {K:W.Frag} {mg:Str->Option Value} {base:Heap} {f g:Addr} {fd gd:FuncData}
def a5A (K:W.Frag):Sp:=λ vs H Q _=>∃ (v:V) (p:Addr) (far:Int) (h:i7) (ds:List Int) (kt kg:Nat),vs=[v,.ref p,.int far]/\HS K H v h/\HG far kt kg h/\1<=kt/\kt<=4/\1<=kg/\kg<=4/\1<=far ∧
 SqL K H p (ds.map V.int)/\10<=ds.length/\(∀ d∈ds,0<=d)/\∀ (r:V) (H':Hp) (h':i7),Same H H'->HS K H' r h'->HG far kt kg h'->Q r H'
theorem scNear:r8 ["house","picks","far","takes","gives","by","at"] ["house","picks","far"] (i9 b0o):=⟨rfl,rfl,rfl,by decide +kernel,rfl,by decide +kernel,by decide +kernel⟩
theorem b1E:(["take","by"]:List Str).Nodup:=by decide +kernel
theorem b0E:(["give","by"]:List Str).Nodup:=by decide +kernel
theorem b0J {n:Nat} (F:Fun K "_law_near" "_law_near" b0o f fd) (T:A3 mg):FnOk P w K mg base J7 (n+1) f fd ["house","picks","far"] (a5A K):=by
 refine F.ok scNear (λ vs H Q E h=>?_) (λ cdv A outer s H vs Q E hr h=>?_)
 ·obtain ⟨v,p,far,h,ds,kt,kg,rfl,_⟩:=h
  rfl
 obtain ⟨v,pk,far,h,ds,kt,kg,rfl,⟨a,t,gv,rfl,h0,h1,h2⟩,hG,kt1,kt4,kg1,kg4,hfar,hP,hd12,hd0,q⟩:=h;refine ⟨_,j0 (E4 (pv 0) (O2 rfl (j7 (j3 (i:=3) scNear.nd rfl (aC rfl)) (j7 (j3 (i:=4) scNear.nd rfl (aC rfl)) x9))))
  (j0 (p6 (i:=5) scNear.nd rfl (cI rfl) (m8 j6 (u9 (c5 h8 (c5 h8 (c5 h8 (c5 h8 c7))))) (j5 A2 (m8 j6 (pv 1) h8 (λ _ _=>rfl)) h8) (λ _ _=>rfl)))
  (r6 (E2 (r9 a1d (j5 T4 (m9 (a0M rfl) rfl T.max jJ (c5 (j5 a7d (pv 3) (pv 4)) c7)) (pv 5)) (pv 2) (t9 _)) (j8 (p6 (i:=5) scNear.nd rfl (cI rfl) h8)) y6)
  (j0 (P5 (i:=3) ["take"] [5] scNear.nd rfl rfl rfl (a5T (pv 3)) (λ _ _ _ _=>j3 (i:=0) b1E rfl (aC rfl)) (λ _ _ _ _=>j5 T4 (pv 0) (pv 1)))
  (j0 (P5 (i:=4) ["give"] [5] scNear.nd rfl rfl rfl (a5T (pv 4)) (λ _ _ _ _=>j3 (i:=0) b0E rfl (aC rfl)) (λ _ _ _ _=>j5 T4 (pv 0) (pv 1)))
  (r6 (E2 (r9 a1c (j5 A2 (j5 W9 (m8 j6 (pv 1) h8 (λ _ _=>rfl)) h8) h8) h8 (t9 _))
   (j0 (p6 (i:=6) scNear.nd rfl (aC rfl) (j5 A2 (m8 j6 (pv 1) h8 (λ _ _=>rfl)) (m9 j9 rfl T.len bQ (c5 (pv 3) c7))))
    (j8 (E4 (m9 (U9 rfl) rfl T.min gE (c5 (pv 2) (c5 (j5 B9 (j5 B9 (m8 j6 (pv 3) (pv 6) (λ _ _=>rfl)) (j5 A2 (j5 W9 (m8 j6 (pv 1) h8 (λ _ _=>rfl)) h8) h8)) h8) c7))) (P0 (pv 3) (pv 6) E8)))) y6)
  (r6 (E2 (r9 a1c (j5 A2 (j5 W9 (m8 j6 (pv 1) h8 (λ _ _=>rfl)) h8) h8) h8 (t9 _))
   (j0 (p6 (i:=6) scNear.nd rfl (aC rfl) (j5 A2 (m8 j6 (pv 1) h8 (λ _ _=>rfl)) (m9 j9 rfl T.len bQ (c5 (pv 4) c7))))
    (j8 (E4 (m9 (U9 rfl) rfl T.min gE (c5 (pv 2) (c5 (j5 B9 (m8 j6 (pv 4) (pv 6) (λ _ _=>rfl)) h8) c7))) (P0 (pv 4) (pv 6) E8)))) y6)
  (j8 (v5 (O9 (c5 (v9 E9 rfl T.tuple gF (c5 (pv 3) c7)) (c5 (v9 E9 rfl T.tuple gF (c5 (pv 4) c7)) c7))))))))))),?_⟩
 obtain ⟨d9,hd9,a9⟩:=M0 (ns:=ds) (k:=9) (by decide) (by lia);obtain ⟨d8,hd8,a8⟩:=M0 (ns:=ds) (k:=8) (by decide) (by lia);have p9:=hd0 d9 hd9;have p8:=hd0 d8 hd8;refine ⟨_,rfl,a,_,rfl,h0,rfl,_,_,rfl,_,_,rfl,rfl,?_⟩;refine ⟨(by show 4<=sizeLine; decide),λ lp hlp=>?_⟩;have s1:=Same.new hlp (.lst [V.int 1,V.int 1,V.int 2,V.int 3]);obtain ⟨bv,hbv,abv⟩:=M0 (ns:=[1,1,2,3]) (k:=d9 % 4) (by lia) (by show d9 % 4<4; lia);have hb:1<=bv/\bv<=3:=by
  simp at hbv;rcases hbv with rfl | rfl | rfl <;> decide
 refine ⟨_,rfl,pk,_,9,_,rfl,rfl,s1.seq hP,a9,_,_,rfl,rfl,(by show (0:Int)<4; decide),lp,_,_,_,rfl,rfl,SqL.of upd_same,abv,?_⟩;have l1:(h.1.map V.int).length=kt:=by rw [aA]; exact hG.lt
 have l2:(h.2.map V.int).length=kg:=by rw [aA]; exact hG.lg
 have hne:h.1++h.2≠[]:=λ z=>by
  have:=congrArg fD z;rw [aJ,hG.lt] at this;simp at this;lia
 refine ⟨λ σ' H'=>∃ b:Int,σ'=[some (.ref a),some (.ref pk),some (.int far),some (.ref t),some (.ref gv),some (.int b),none]/\Same H H'/\(1<=b/\b<=3)/\∀ x∈h.1++h.2,x*b<=far,?_,?_⟩
 ·refine ⟨_,rfl,_,rfl,t,gv,_,_,rfl,rfl,s1.tseq h1,s1.tseq h2,?_,?_,?_,?_⟩
  ·intro z; rw [z] at l1; simp at l1; lia
  ·rw [l1,l2]; exact cP (j4 (by lia))
  ·intro z; rw [z] at l2; simp at l2; lia
  ·intro _ pc hpc
   have s2:=Same.new hpc (.tup (h.1.map V.int++h.2.map V.int));refine ⟨pc,h.1++h.2,rfl,.inr (SqT.of (by rw [upd_same,bN])),hne,λ M hM hMx=>?_⟩;refine ⟨_,rfl,_,_,rfl,rfl,.inr ⟨by lia,by lia⟩,_,rfl,_,_,rfl,rfl,_,rfl,?_⟩;refine G5 (λ c=>?_) (λ c=>?_)
   ·refine ⟨1,rfl,s1.trans s2,by decide,λ x hx=>?_⟩
    rcases aT.mp hx with z | z
    ·have:=hG.t x z; lia
    ·have:=hG.g x z; lia
   ·have c':¬ far<M*bv:=of_decide_eq_false (fY.mpr c)
    refine ⟨bv,rfl,s1.trans s2,hb,λ x hx=>?_⟩;have:=dA (hMx x hx) (show 0<=bv by lia);lia
 intro σ' H2 hM_; refine C9 λ G_ hG_=>?_; obtain ⟨b,rfl,e2,hb,hbx⟩:=hM_; subst hG_;have mulok:CMul=CMul:=rfl;refine ⟨_,rfl,t,rfl,⟨_,e2.tseq h1⟩,λ tl htl=>?_⟩;refine U1 (a2u (e2.tseq h1)) htl (by rw [l1]; exact j4 (by lia)) (λ x=>.int (vI x*b)) (λ i x H' N hx e hN=>?_) ?_
 ·obtain ⟨k,rfl⟩:=S1 hx
  exact ⟨Wk.set (by decide),_,rfl,_,rfl,_,_,rfl,rfl,.inr ⟨by lia,by lia⟩,hN⟩
 have e3:=e2.write (o:=.lst ((h.1.map V.int).map λ x=>.int (vI x*b))) (e2.free htl);refine ⟨_,rfl,gv,rfl,⟨_,e3.tseq h2⟩,λ gl hgl=>?_⟩;refine U1 (a2u (e3.tseq h2)) hgl (by rw [l2]; exact j4 (by lia)) (λ x=>.int (vI x*b)) (λ i x H' N hx e hN=>?_) ?_
 ·obtain ⟨k,rfl⟩:=S1 hx
  exact ⟨Wk.set (by decide),_,rfl,_,rfl,_,_,rfl,rfl,.inr ⟨by lia,by lia⟩,hN⟩
 have eA:(h.1.map V.int).map (λ x=>V.int (vI x*b))=(h.1.map (·*b)).map V.int:=by rw [aS,aS]; rfl
 have eB:(h.2.map V.int).map (λ x=>V.int (vI x*b))=(h.2.map (·*b)).map V.int:=by rw [aS,aS]; rfl
 have ftl:H tl=none:=e2.free htl;have fgl:H gl=none:=e3.free hgl;have ne1:tl≠gl:=λ z=>by rw [<- z,upd_same] at hgl; cases hgl
 rw [eA,eB];rw [eA] at e3;have e4:=e3.write (o:=.lst ((h.2.map (·*b)).map V.int)) fgl;have at4:upd (upd H2 tl (.lst ((h.1.map (·*b)).map V.int))) gl (.lst ((h.2.map (·*b)).map V.int)) tl=some (.lst ((h.1.map (·*b)).map V.int)):=by rw [d0 ne1,upd_same]
 have ag4:upd (upd H2 tl (.lst ((h.1.map (·*b)).map V.int))) gl (.lst ((h.2.map (·*b)).map V.int)) gl=some (.lst ((h.2.map (·*b)).map V.int)):=upd_same;generalize upd (upd H2 tl (.lst ((h.1.map (·*b)).map V.int))) gl (.lst ((h.2.map (·*b)).map V.int))=H4 at e4 at4 ag4 ⊢;have tA:∀ x∈h.1.map (·*b),1<=x/\x<=far:=λ x hx=>by
  obtain ⟨y,hy,rfl⟩:=aK.mp hx;have y1:=(hG.t y hy).1;have y2:=hbx y (cQ _ hy);have y3:=lG y1 hb.1 (by decide) (by lia);exact ⟨by simpa using y3,y2⟩
 have tB:∀ x∈h.2.map (·*b),0<=x/\x<=far:=λ x hx=>by
  obtain ⟨y,hy,rfl⟩:=aK.mp hx;exact ⟨Int.mul_nonneg (hG.g y hy).1 (by lia),hbx y (cF _ hy)⟩
 have tP:∃ x∈h.2.map (·*b),0<x:=by
  obtain ⟨y,hy,y0⟩:=hG.p;exact ⟨y*b,aK.mpr ⟨y,hy,rfl⟩,dR y0 (by lia)⟩
 have lA:(h.1.map (·*b)).length=kt:=by rw [aA]; exact hG.lt
 have lB:(h.2.map (·*b)).length=kg:=by rw [aA]; exact hG.lg
 generalize h.1.map (·*b)=A0 at tA lA at4;generalize h.2.map (·*b)=B0 at tB lB tP ag4;refine ⟨λ σ' H'=>∃ (A1:List Int) (ks:Option V),σ'=[some (.ref a),some (.ref pk),some (.int far),some (.ref tl),some (.ref gl),some (.int b),ks]/\Same H H'/\H' tl=some (.lst (A1.map V.int))/\H' gl=some (.lst (B0.map V.int))/\A1.length=kt/\∀ x∈A1,1<=x/\x<=far,?_,?_⟩
 ·refine ⟨_,rfl,pk,_,9,_,rfl,rfl,e4.seq hP,a9,_,_,rfl,rfl,⟨by decide,by decide⟩,_,_,rfl,rfl,(by show (0:Int)<3; decide),rfl,_,rfl,?_⟩
  refine G5 (λ c=>?_) (λ c=>⟨A0,none,rfl,e4,at4,ag4,lA,tA⟩);have lA':(A0.map V.int).length=kt:=by rw [aA]; exact lA
  refine ⟨_,rfl,pk,_,8,_,rfl,rfl,e4.seq hP,a8,_,rfl,tl,_,rfl,.inl (SqL.of at4),_,_,rfl,rfl,(by show (0:Int)<((A0.map V.int).length:Int); rw [lA']; lia),?_⟩;have r0:0<=d8 % ((A0.map V.int).length:Int):=eM _ (by rw [lA']; lia);have r1:d8 % ((A0.map V.int).length:Int)<((A0.map V.int).length:Int):=cX _ (by rw [lA']; lia);obtain ⟨x,hx,ax⟩:=M0 (ns:=A0) (k:=d8 % ((A0.map V.int).length:Int)) r0 (by rw [aA] at r1 ⊢; exact r1);have hx1:=tA x hx;refine ⟨_,rfl,_,rfl,_,rfl,tl,_,_,_,rfl,rfl,SqL.of at4,ax,_,rfl,pk,_,9,_,rfl,rfl,e4.seq hP,a9,_,_,rfl,rfl,⟨by decide,by decide⟩,_,_,rfl,rfl,(by show (0:Int)<2; decide),_,_,rfl,rfl,_,_,rfl,rfl,_,_,rfl,?_⟩;refine ⟨_,rfl,_,rfl,tl,_,_,_,rfl,rfl,at4,W8 r0 r1,?_⟩;refine ⟨A0.set (d8 % ((A0.map V.int).length:Int)).toNat _,_,rfl,e4.write ftl,by rw [upd_same,map_set],by rw [d0 (aO ne1)]; exact ag4,by rw [bY]; exact lA,λ y hy=>?_⟩;rcases hV hy with z | z
  ·exact tA y z
  ·rw [z]
   split <;> lia
 intro σ' H5 hM_; refine C9 λ G_ hG_=>?_; obtain ⟨A1,ks,rfl,e5,at5,ag5,lA1,tA1⟩:=hM_; subst hG_;refine ⟨λ σ' H'=>∃ (B1:List Int) (ks:Option V),σ'=[some (.ref a),some (.ref pk),some (.int far),some (.ref tl),some (.ref gl),some (.int b),ks]/\Same H H'/\H' tl=some (.lst (A1.map V.int))/\H' gl=some (.lst (B1.map V.int))/\B1.length=kg/\(∀ x∈B1,0<=x/\x<=far)/\∃ x∈B1,0<x,?_,?_⟩
 ·refine ⟨_,rfl,pk,_,9,_,rfl,rfl,e5.seq hP,a9,_,_,rfl,rfl,⟨by decide,by decide⟩,_,_,rfl,rfl,(by show (0:Int)<3; decide),rfl,_,rfl,?_⟩
  refine G5 (λ c=>?_) (λ c=>⟨B0,ks,rfl,e5,at5,ag5,lB,tB,tP⟩);have lB':(B0.map V.int).length=kg:=by rw [aA]; exact lB
  refine ⟨_,rfl,pk,_,8,_,rfl,rfl,e5.seq hP,a8,_,rfl,gl,_,rfl,.inl (SqL.of ag5),_,_,rfl,rfl,(by show (0:Int)<((B0.map V.int).length:Int); rw [lB']; lia),?_⟩;have r0:0<=d8 % ((B0.map V.int).length:Int):=eM _ (by rw [lB']; lia);have r1:d8 % ((B0.map V.int).length:Int)<((B0.map V.int).length:Int):=cX _ (by rw [lB']; lia);obtain ⟨x,hx,ax⟩:=M0 (ns:=B0) (k:=d8 % ((B0.map V.int).length:Int)) r0 (by rw [aA] at r1 ⊢; exact r1);have hx1:=tB x hx;refine ⟨_,rfl,_,rfl,_,rfl,gl,_,_,_,rfl,rfl,SqL.of ag5,ax,_,_,rfl,rfl,_,_,rfl,?_⟩;refine ⟨_,rfl,_,rfl,gl,_,_,_,rfl,rfl,ag5,W8 r0 r1,?_⟩;have rn:(d8 % ((B0.map V.int).length:Int)).toNat<B0.length:=by rw [aA] at r1 ⊢; lia
  refine ⟨B0.set (d8 % ((B0.map V.int).length:Int)).toNat _,_,rfl,e5.write fgl,by rw [d0 ne1]; exact at5,by rw [upd_same,map_set],by rw [bY]; exact lB,λ y hy=>?_,_,lK rn _,?_⟩
  ·rcases hV hy with z | z
   ·exact tB y z
   ·rw [z]
    split <;> lia
  ·split <;> lia
 intro σ' H6 hM_; refine C9 λ G_ hG_=>?_; obtain ⟨B1,ks,rfl,e6,at6,ag6,lB1,tB1,tP1⟩:=hM_; subst hG_;refine ⟨_,rfl,tl,_,rfl,.inl ⟨SqL.of at6,λ pt hpt=>?_⟩⟩;have f1:=Same.new hpt (.tup (A1.map V.int));refine ⟨_,rfl,gl,_,rfl,.inl ⟨SqL.of (f1 _ _ ag6),λ pg hpg=>?_⟩⟩;have f2:=Same.new hpg (.tup (B1.map V.int));refine ⟨(by show 2<=sizeLine; decide),λ pr hpr=>?_⟩;have f3:=Same.new hpr (.tup [V.ref pt,V.ref pg]);exact q _ _ (A1,B1) (e6.trans (f1.trans (f2.trans f3))) ⟨pr,pt,pg,rfl,SqT.of upd_same,SqT.of (f3 _ _ (f2 _ _ upd_same)),SqT.of (f3 _ _ upd_same)⟩ ⟨lA1,lB1,tA1,tB1,tP1⟩
end
end Rim
namespace L2
open PySem
def Keep (H H':Hp):Prop:=∀ b o,H b=some o->(∀ xs,o≠.lst xs)->H' b=some o
theorem Keep.upd {H:Hp} {b:Addr} {ys:List V} {o:HO} (h:H b=some (.lst ys)):Keep H (upd H b o):=λ c u q n=>by
 have:c≠b:=λ z=>by rw [z,h] at q; exact n ys (aM q).symm
 rw [d0 this]; exact q
theorem Keep.tseq {K:W.Frag} {H H':Hp} {a:Addr} {xs:List V} (e:Keep H H') (h:SqT K H a xs):SqT K H' a xs:=by
 rcases h with (h | ⟨o,h⟩) | h
 ·exact .inl (.inl (e _ _ h (λ _ z=>nomatch z)))
 ·exact .inl (.inr ⟨o,e _ _ h (λ _ z=>nomatch z)⟩)
 ·exact .inr h
end L2
namespace Rim
open PySem L2
theorem HS.keep {K:W.Frag} {H H':Hp} {v:V} {h:i7} (e:Keep H H') (x:HS K H v h):HS K H' v h:=by
 obtain ⟨a,t,g,h0,h1,h2,h3⟩:=x;exact ⟨a,t,g,h0,e.tseq h1,e.tseq h2,e.tseq h3⟩
theorem Bk.keep {K:W.Frag} {H H':Hp} {vs:List V} {hs:List i7} (e:Keep H H') (x:Bk K H vs hs):Bk K H' vs hs:=Paired.imp' (λ _ _ r=>HS.keep e r) x
def a9h (ns:List Int):PyData:=.tuple (ns.map PyData.int)
def a0L (h:i7):PyData:=.tuple [a9h h.1,a9h h.2]
theorem a2r {K:W.Frag} {H:Hp}:∀ ns:List Int,Dps K H (ns.map V.int) (ns.map PyData.int)
 | []=>.nil
 | n::r=>.cons (.int n) (a2r r)
theorem HS.dp {K:W.Frag} {H:Hp} {v:V} {h:i7} (x:HS K H v h):Dp K H v (a0L h):=by
 obtain ⟨a,t,g,rfl,h1,h2,h3⟩:=x;exact .tup h1 (.cons (.tup h2 (a2r _)) (.cons (.tup h3 (a2r _)) .nil))
theorem Bk.dps {K:W.Frag} {H:Hp}:∀ {vs:List V} {hs:List i7},Bk K H vs hs->Dps K H vs (hs.map a0L)
 | _,_,.nil=>.nil
 | _,_,.cons x r=>.cons x.dp (Bk.dps r)
theorem a2t:∀ ns:List Int,PyData.canLayAll0 (ns.map PyData.int)=true
 | []=>by rw [eI,PyData.canLayAll0]
 | n::r=>by rw [aQ,PyData.canLayAll0,a2t r,PyData.canLay0]; rfl
theorem a7E (h:i7):(a0L h).canLay0=true:=by
 unfold a0L a9h;rw [PyData.canLay0,PyData.canLayAll0,PyData.canLay0,a2t,PyData.canLayAll0,PyData.canLay0,a2t,PyData.canLayAll0]; rfl
theorem a4B:∀ hs:List i7,PyData.canLayAll0 (hs.map a0L)=true
 | []=>by rw [eI,PyData.canLayAll0]
 | h::r=>by rw [aQ,PyData.canLayAll0,a7E,a4B r]; rfl
section
variable {P:Program} {w:World} {K:W.Frag} {mg:Str->Option Value} {base:Heap} {f g:Addr} {fd gd:FuncData}
def a7h (K:W.Frag):Sp:=λ vs H Q _=>∃ (a:Addr) (ns:List Int) (at' most far:Int),vs=[.ref a,.int at',.int most,.int far]/\SqL K H a (ns.map V.int)/\0<=at'/\1<=most/\most<=900/\1<=far ∧
 ∀ (r:Addr) (H':Hp) (xs:List V) (hs:List i7) (kt kg:Nat),Same H H'->H' r=some (.lst xs)->Bk K H' xs hs->1<=hs.length->(hs.length:Int)<=most->1<=kt->kt<=4->1<=kg->kg<=4->(∀ h∈hs,HG far kt kg h)->Q (.ref r) H'
theorem scABook:r8 ["script","at","most","far","heads","kinds","many","size","book","k","picks","takes","some","gives","house"] ["script","at","most","far"] (i9 a0D):=⟨rfl,rfl,rfl,by decide +kernel,rfl,by decide +kernel,by decide +kernel⟩
theorem a7f:(["pick","size"]:List Str).Nodup:=by decide +kernel
noncomputable def abT {n:Nat} {fc fw fn:Addr} {dc dw dn:FuncData} {cdv:Value} {A:Around} {outer:List Env} {s:Shared} {H:Hp} {E:XK} (T:A3 mg)
  (Gc:FnOk P w K mg base J7 n fc dc ["script","k"] (a3J K)) (bc:Binds K dc ["script","k"] []) (kc:W.keepIn K (.ref fc)=true) (mc:mg "_law_cell_at"=some (.ref fc))
  (Gw:FnOk P w K mg base J7 n fw dw ["cell","many","base"] (a1w K)) (bw:Binds K dw ["cell","many","base"] []) (kw:W.keepIn K (.ref fw)=true) (mw:mg "_law_draws"=some (.ref fw))
  (Gn:FnOk P w K mg base J7 n fn dn ["house","picks","far"] (a5A K)) (bn:Binds K dn ["house","picks","far"] []) (kn:W.keepIn K (.ref fn)=true) (mn:mg "_law_near"=some (.ref fn))
  (hr:Room n (A.deeper (dU "_law_a_book" (i9 a0D) s.heap.objs.size f cdv))) :
  { t:TS // PSs (J6 J7 P w K mg base ["script","at","most","far","heads","kinds","many","size","book","k","picks","takes","some","gives","house"] "_law_a_book" (i9 a0D) f cdv A outer s H E).nox (v4 a0D) t } :=
 ⟨_,j0 (p6 (i:=4) scABook.nd rfl (aC rfl) (m6 Gw hr rfl mw kw bw .nil u0 (c5 (m6 Gc hr rfl mc kc bc .nil u0 (c5 (pv 0) (c5 (pv 1) c7))) (c5 h8 (c5 h8 c7)))))
  (r6 (p6 (i:=5) scABook.nd rfl (aC rfl) (u9 (c5 (j5 B9 h8 (j5 A2 (m8 j6 (pv 4) h8 (λ _ _=>rfl)) (m8 j6 (u9 (c5 h8 (c5 h8 c7))) (j5 A2 (m8 j6 (pv 4) h8 (λ _ _=>rfl)) h8) (λ _ _=>rfl))))
   (c5 (j5 B9 h8 (j5 A2 (m8 j6 (pv 4) h8 (λ _ _=>rfl)) (m8 j6 (u9 (c5 h8 (c5 h8 c7))) (j5 A2 (m8 j6 (pv 4) h8 (λ _ _=>rfl)) h8) (λ _ _=>rfl)))) c7))))
  (r6 (p6 (i:=6) scABook.nd rfl (aC rfl) (j5 B9 h8 (j5 A2 (m8 j6 (pv 4) h8 (λ _ _=>rfl)) (m8 j6 (u9 (c5 (pv 2) (c5 (m9 (U9 rfl) rfl T.min gE (c5 (pv 2) (c5 h8 c7))) c7))) (j5 W9 (j5 A2 (m8 j6 (pv 4) h8 (λ _ _=>rfl)) h8) h8) (λ _ _=>rfl)))))
  (r6 (p6 (i:=7) scABook.nd rfl (cI rfl) (m9 (U9 rfl) rfl T.min gE (c5 (pv 3) (c5 (m8 j6 (u9 (c5 h8 (c5 h8 (c5 h8 (c5 h8 (c5 (j5 a3k h8 h8) c7)))))) (j5 A2 (m8 j6 (pv 4) h8 (λ _ _=>rfl)) h8) (λ _ _=>rfl)) c7))))
  (j0 (p6 (i:=8) scABook.nd rfl (aC rfl) (u9 c7))
  (j0 (Y2 PassesOwn.never rfl (J5 rfl T.range (c5 (pv 6) c7)) (j3 (i:=9) scABook.nd rfl (aC rfl))
   (r6 (p6 (i:=10) scABook.nd rfl (aC rfl) (m6 Gw hr rfl mw kw bw .nil u0 (c5 (j5 B9 (m6 Gc hr rfl mc kc bc .nil u0 (c5 (pv 0) (c5 (j5 B9 (pv 1) h8) c7))) (j5 T4 (pv 9) (j5 B9 (m8 j6 (pv 4) h8 (λ _ _=>rfl)) h8))) (c5 h8 (c5 (j5 a3k h8 h8) c7)))))
   (r6 (p6 (i:=11) scABook.nd rfl (aC rfl) (v9 E9 rfl T.tuple gF (c5 (M8 ["pick"] [7] rfl (w8 (C8 G4 (pv 10) O8 (B8 (m8 j6 (pv 5) h8 (λ _ _=>rfl))))) (λ _ _ _ _=>j3 (i:=0) a7f rfl (aC rfl)) (λ _ _ _ _=>j5 B9 h8 (j5 A2 (pv 0) (pv 1)))) c7)))
   (j0 (p6 (i:=12) scABook.nd rfl (aC rfl) (C8 G4 (pv 10) (B8 h8) (B8 (j5 B9 h8 (m8 j6 (pv 5) h8 (λ _ _=>rfl))))))
   (r6 (P5 (i:=13) ["pick"] [7] scABook.nd rfl rfl rfl (w8 (pv 12)) (λ _ _ _ _=>j3 (i:=0) a7f rfl (aC rfl)) (λ _ _ _ _=>j5 T4 (j5 A2 (pv 0) (j5 B9 (pv 1) h8)) (v9 a2U rfl T.int lJ (c5 (R5 a1d (j5 A2 (pv 0) h8) h8 (t9 _)) c7))))
   (r6 (E2 (r9 a1c (m9 (a0M rfl) rfl T.max jJ (c5 (pv 13) c7)) h8 (t9 _)) (j8 (E4 (j5 B9 h8 (j5 A2 (m8 j6 (pv 10) h8 (λ _ _=>rfl)) (pv 7))) (P0 (pv 13) (j5 A2 (m8 j6 (pv 10) h8 (λ _ _=>rfl)) (m8 j6 (pv 5) h8 (λ _ _=>rfl))) E8))) y6)
   (r6 (p6 (i:=14) scABook.nd rfl (aC rfl) (O9 (c5 (pv 11) (c5 (v9 E9 rfl T.tuple gF (c5 (pv 13) c7)) c7))))
   (r6 (E2 (PW.pt (a3Z (r9 (Y8 hr) (pv 8) (u9 c7) (t9 _)) (a1p (r9 a1c (j5 A2 (m8 j6 (pv 10) h8 (λ _ _=>rfl)) h8) h8 (t9 _)))))
    (j8 (p6 (i:=14) scABook.nd rfl (aC rfl) (m6 Gn hr rfl mn kn bn .nil u0 (c5 (m8 j6 (pv 8) (j5 A2 (m8 j6 (pv 10) h8 (λ _ _=>rfl)) (m9 j9 rfl T.len bQ (c5 (pv 8) c7))) (λ _ _=>rfl)) (c5 (pv 10) (c5 (pv 3) c7)))))) y6)
   (j8 (a0l (a7e iA iB iC N4 (pv 8) (c5 (pv 14) c7))))))))))))
  (j8 (v5 (pv 8))))))))⟩
end
section
variable {P:Program} {w:World} {K:W.Frag} {mg:Str->Option Value} {base:Heap} {f g:Addr} {fd gd:FuncData}
theorem b0e {n:Nat} {fc fw fn:Addr} {dc dw dn:FuncData} (F:Fun K "_law_a_book" "_law_a_book" a0D f fd) (T:A3 mg)
  (Gc:FnOk P w K mg base J7 n fc dc ["script","k"] (a3J K)) (bc:Binds K dc ["script","k"] []) (kc:W.keepIn K (.ref fc)=true) (mc:mg "_law_cell_at"=some (.ref fc))
  (Gw:FnOk P w K mg base J7 n fw dw ["cell","many","base"] (a1w K)) (bw:Binds K dw ["cell","many","base"] []) (kw:W.keepIn K (.ref fw)=true) (mw:mg "_law_draws"=some (.ref fw))
  (Gn:FnOk P w K mg base J7 n fn dn ["house","picks","far"] (a5A K)) (bn:Binds K dn ["house","picks","far"] []) (kn:W.keepIn K (.ref fn)=true) (mn:mg "_law_near"=some (.ref fn)) :
  FnOk P w K mg base J7 (n+1) f fd ["script","at","most","far"] (a7h K):=by
 refine F.ok scABook (λ vs H Q E h=>?_) (λ cdv A outer s H vs Q E hr h=>?_)
 ·obtain ⟨a,ns,at',most,far,rfl,_⟩:=h
  rfl
 obtain ⟨a,ns,at',most,far,rfl,hS,hat,hm1,hm2,hfar,q⟩:=h;refine ⟨_,(abT T Gc bc kc mc Gw bw kw mw Gn bn kn mn hr).2,?_⟩;refine ⟨_,rfl,_,rfl,a,ns,at',rfl,hS,hat,λ c=>⟨c,8,1000,rfl,by decide,by decide,by decide,λ hl H1 hd e1 hH1 hlen hb=>?_⟩⟩;have hd':∀ k:Int,0<=k->k<8->∃ v,v∈hd/\S8 (hd.map V.int) k=some (.int v):=λ k k0 k1=>M0 k0 (by lia);obtain ⟨x0,m0,a0⟩:=hd' 0 (by decide) (by decide);obtain ⟨x1,m1,a1⟩:=hd' 1 (by decide) (by decide);obtain ⟨x2,m2,a2⟩:=hd' 2 (by decide) (by decide);obtain ⟨x3,m3,a3⟩:=hd' 3 (by decide) (by decide);obtain ⟨x4,m4,a4⟩:=hd' 4 (by decide) (by decide);obtain ⟨x5,m5,a5⟩:=hd' 5 (by decide) (by decide);obtain ⟨x7,m7,a7⟩:=hd' 7 (by decide) (by decide);have b0:=hb x0 m0; have b1:=hb x1 m1; have b2:=hb x2 m2; have b3:=hb x3 m3; have b4:=hb x4 m4; have b5:=hb x5 m5; have b7:=hb x7 m7;refine ⟨λ σ' H'=>∃ (kl:Addr) (kt kg:Nat),σ'=[some (.ref a),some (.int at'),some (.int most),some (.int far),some (.ref hl),some (.ref kl),none,none,none,none,none,none,none,none,none]/\Same H1 H'/\H' kl=some (.lst [.int (kt:Int),.int (kg:Int)])/\1<=kt/\kt<=4/\1<=kg/\kg<=4,?_,?_⟩
 ·have two:∀ y:Int,0<=y->∃ z:Int,(z=4\/z=2)/\S8 [V.int 4,V.int 2] (y % 2)=some (.int z):=λ y hy=>by
   obtain ⟨z,hz,az⟩:=M0 (ns:=[4,2]) (k:=y % 2) (by lia) (by show y % 2<2; lia);exact ⟨z,by simpa using hz,az⟩
  obtain ⟨z1,hz1,az1⟩:=two x2 b2.1;refine ⟨_,rfl,hl,_,0,_,rfl,rfl,SqL.of hH1,a0,(by show 2<=sizeLine; decide),λ l1 hl1=>?_⟩;have s1:=Same.new hl1 (.lst [V.int 4,V.int 2]);refine ⟨_,rfl,hl,_,2,_,rfl,rfl,SqL.of (s1 _ _ hH1),a2,_,_,rfl,rfl,(by show (0:Int)<2; decide),l1,_,_,_,rfl,rfl,SqL.of upd_same,az1,_,_,rfl,rfl,(by show (0:Int)<z1; lia),_,_,rfl,rfl,?_⟩;refine ⟨_,rfl,hl,_,1,_,rfl,rfl,SqL.of (s1 _ _ hH1),a1,(by show 2<=sizeLine; decide),λ l2 hl2=>?_⟩;have s2:=Same.new hl2 (.lst [V.int 4,V.int 2]);refine ⟨_,rfl,hl,_,2,_,rfl,rfl,SqL.of (s2 _ _ (s1 _ _ hH1)),a2,_,_,rfl,rfl,(by show (0:Int)<2; decide),l2,_,_,_,rfl,rfl,SqL.of upd_same,az1,_,_,rfl,rfl,(by show (0:Int)<z1; lia),_,_,rfl,rfl,?_⟩;refine ⟨(by show 2<=sizeLine; decide),λ kl hkl=>?_⟩;have s3:=Same.new hkl (.lst [V.int (1+x0 % z1),V.int (1+x1 % z1)]);have p0:0<=x0 % z1/\x0 % z1<z1:=⟨Int.emod_nonneg _ (by lia),cX _ (by lia)⟩;have p1:0<=x1 % z1/\x1 % z1<z1:=⟨Int.emod_nonneg _ (by lia),cX _ (by lia)⟩;refine ⟨kl,(1+x0 % z1).toNat,(1+x1 % z1).toNat,rfl,s1.trans (s2.trans s3),?_,by lia,by lia,by lia,by lia⟩;rw [upd_same,gG (by lia),gG (by lia)]
 intro σ' H2 hM_; refine C9 λ G_ hG_=>?_; obtain ⟨kl,kt,kg,rfl,e2,hkl,kt1,kt4,kg1,kg4⟩:=hM_; subst hG_;have hh2:=e2 _ _ hH1;refine ⟨λ σ' H'=>∃ (many:Nat),σ'=[some (.ref a),some (.int at'),some (.int most),some (.int far),some (.ref hl),some (.ref kl),some (.int (many:Int)),none,none,none,none,none,none,none,none]/\Same H2 H'/\1<=many/\(many:Int)<=most,?_,?_⟩
 ·refine ⟨_,rfl,hl,_,3,_,rfl,rfl,SqL.of hh2,a3,_,rfl,_,rfl,_,_,rfl,(by show 2<=sizeLine; decide),λ l1 hl1=>?_⟩
  have s1:=Same.new hl1 (.lst [V.int most,V.int (if 4<most then 4 else most)]);obtain ⟨z,hz,az⟩:=M0 (ns:=[most,if 4<most then 4 else most]) (k:=x4 % 3 / 2) (by lia) (by show x4 % 3 / 2<2; lia);have hz':1<=z/\z<=most:=by
   simp only [aL,bV,or_false] at hz;rcases hz with rfl | rfl
   ·lia
   ·split <;> lia
  refine ⟨_,rfl,hl,_,4,_,rfl,rfl,SqL.of (s1 _ _ hh2),a4,_,_,rfl,rfl,(by show (0:Int)<3; decide),_,_,rfl,rfl,⟨by decide,by decide⟩,l1,_,_,_,rfl,rfl,SqL.of upd_same,az,_,_,rfl,rfl,(by show (0:Int)<z; lia),_,_,rfl,rfl,?_⟩;have p0:0<=x3 % z/\x3 % z<z:=⟨Int.emod_nonneg _ (by lia),cX _ (by lia)⟩;refine ⟨(1+x3 % z).toNat,?_,s1,by lia,by lia⟩;rw [gG (by lia)];rfl
 intro σ' H3 hM_; refine C9 λ G_ hG_=>?_; obtain ⟨many,rfl,e3,mn1,mn2⟩:=hM_; subst hG_;have hh3:=e3 _ _ hh2;have hk3:=e3 _ _ hkl;refine ⟨λ σ' H'=>∃ (size:Int),σ'=[some (.ref a),some (.int at'),some (.int most),some (.int far),some (.ref hl),some (.ref kl),some (.int (many:Int)),some (.int size),none,none,none,none,none,none,none]/\Same H3 H'/\1<=size/\size<=far/\size<=1000000000,?_,?_⟩
 ·refine ⟨_,rfl,_,_,rfl,rfl,⟨by decide,by decide,by decide⟩,(by show 5<=sizeLine; decide),λ l1 hl1=>?_⟩
  have s1:=Same.new hl1 (.lst [V.int 4,V.int 9,V.int 50,V.int 1000,V.int (10 ^ (9:Int).toNat)]);obtain ⟨z,hz,az⟩:=M0 (ns:=[4,9,50,1000,10 ^ (9:Int).toNat]) (k:=x5 % 5) (by lia) (by show x5 % 5<5; lia);have hz':1<=z/\z<=1000000000:=by
   have e9:(10:Int) ^ (9:Int).toNat=1000000000:=by decide
   rw [e9] at hz;simp only [aL,bV,or_false] at hz;rcases hz with rfl | rfl | rfl | rfl | rfl <;> decide
  refine ⟨_,rfl,hl,_,5,_,rfl,rfl,SqL.of (s1 _ _ hh3),a5,_,_,rfl,rfl,(by show (0:Int)<5; decide),l1,_,_,_,rfl,rfl,SqL.of upd_same,az,_,_,rfl,?_⟩;refine ⟨_,rfl,s1,?_,?_,?_⟩ <;> (split <;> lia)
 intro σ' H4 hM_; refine C9 λ G_ hG_=>?_; obtain ⟨size,rfl,e4,sz1,szf,sz9⟩:=hM_; subst hG_;have hh4:=e4 _ _ hh3;have hk4:=e4 _ _ hk3;have e14:Same H H4:=e1.trans (e2.trans (e3.trans e4));refine ⟨(by show 0<=sizeLine; decide),λ bl hbl=>?_⟩;refine ⟨_,rfl,(many:Int),rfl,by lia,by lia,?_⟩;rw [aV];refine a0z (n:=many) (λ i σ H'=>∃ (xs:List V) (hs:List i7) (o9 o10 o11 o12 o13 o14:Option V),σ=[some (.ref a),some (.int at'),some (.int most),some (.int far),some (.ref hl),some (.ref kl),some (.int (many:Int)),some (.int size),some (.ref bl),o9,o10,o11,o12,o13,o14] ∧
   Same H4 H'/\H' bl=some (.lst xs)/\Bk K H' xs hs/\hs.length=i/\∀ h∈hs,HG far kt kg h)
  ⟨[],[],_,_,_,_,_,_,rfl,Same.new hbl _,upd_same,.nil,rfl,λ h hh=>(by cases hh)⟩ ?_ ?_
 ·rintro i σ H5 hi ⟨xs,hs,o9,o10,o11,o12,o13,o14,rfl,e5,hb5,hB,hlen5,hG⟩
  have hh5:=e5 _ _ hh4;have hk5:=e5 _ _ hk4;have xlen:xs.length=hs.length:=Paired.length hB;have ak0:S8 [V.int (kt:Int),V.int (kg:Int)] 0=some (.int (kt:Int)):=v8 (j:=0) rfl;have ak1:S8 [V.int (kt:Int),V.int (kg:Int)] 1=some (.int (kg:Int)):=v8 (j:=1) rfl;refine ⟨λ σ' H'=>∃ (pl:Addr) (ds:List Int),σ'=[some (.ref a),some (.int at'),some (.int most),some (.int far),some (.ref hl),some (.ref kl),some (.int (many:Int)),some (.int size),some (.ref bl),some (.int (0+(i:Int))),some (.ref pl),o11,o12,o13,o14]/\Same H5 H'/\H' pl=some (.lst (ds.map V.int))/\ds.length=12/\∀ d∈ds,0<=d,?_,?_⟩
  ·refine ⟨_,rfl,_,rfl,_,_,rfl,rfl,a,ns,at'+1,rfl,(e14.trans e5).seq hS,by lia,λ c=>?_⟩
   refine ⟨_,rfl,_,rfl,hl,_,7,_,rfl,rfl,SqL.of hh5,a7,_,_,rfl,rfl,_,_,rfl,rfl,.inl ⟨by lia,by lia⟩,_,_,rfl,rfl,_,_,rfl,rfl,⟨by decide,by decide,by decide⟩,?_⟩;exact ⟨_,12,_,rfl,by decide,by decide,by decide,λ pl H6 ds e6 hp6 l6 d6=>⟨pl,ds,rfl,e6,hp6,l6,λ d hd=>(d6 d hd).1⟩⟩
  intro σ' H6 hM_; refine C9 λ G_ hG_=>?_; obtain ⟨pl,ds,rfl,e6,hp6,l6,d6⟩:=hM_; subst hG_;have hh6:=e6 _ _ hh5;have hk6:=e6 _ _ hk5;have hb6:=e6 _ _ hb5;have pk:∀ k:Int,0<=k->k<12->∃ v,v∈ds/\S8 (ds.map V.int) k=some (.int v):=λ k k0 k1=>M0 k0 (by lia);obtain ⟨y8,n8,c8⟩:=pk 8 (by decide) (by decide);obtain ⟨y9,n9,c9⟩:=pk 9 (by decide) (by decide);obtain ⟨y10,n10,c10⟩:=pk 10 (by decide) (by decide);obtain ⟨y11,n11,c11⟩:=pk 11 (by decide) (by decide);have g8:=d6 _ n8; have g9:=d6 _ n9; have g10:=d6 _ n10; have g11:=d6 _ n11;have dl:(ds.map V.int).length=12:=by rw [aA]; exact l6
  refine ⟨λ σ' H'=>∃ (tp:Addr) (At:List Int),σ'=[some (.ref a),some (.int at'),some (.int most),some (.int far),some (.ref hl),some (.ref kl),some (.int (many:Int)),some (.int size),some (.ref bl),some (.int (0+(i:Int))),some (.ref pl),some (.ref tp),o12,o13,o14]/\Same H6 H'/\H' tp=some (.tup (At.map V.int))/\At.length=kt/\∀ x∈At,1<=x/\x<=far,?_,?_⟩
  ·have ec:A7 (ds.map V.int) none (some (kt:Int))=(ds.take kt).map V.int:=by
    unfold A7;rw [HT.sIx_none,HT.sIx_nat,dl,gZ,fZ]
    congr 1
    lia
   refine ⟨_,rfl,_,rfl,kl,_,0,_,rfl,rfl,SqL.of hk6,ak0,_,rfl,pl,_,rfl,SqL.of hp6,λ cp hcp=>?_⟩;rw [ec];have s1:=Same.new hcp (.lst ((ds.take kt).map V.int));refine ⟨cp,rfl,⟨_,SqL.of upd_same⟩,λ lp hlp=>?_⟩;refine U1 (t8 (SqL.of upd_same)) hlp (by rw [aA,bX]; exact j4 (by lia)) (λ x=>.int (1+vI x % size)) (λ j x H' N hx e hN=>?_) ?_
   ·obtain ⟨k,rfl⟩:=S1 hx
    exact ⟨Wk.set (by decide),_,rfl,_,rfl,_,_,rfl,rfl,(by show (0:Int)<size; lia),_,_,rfl,rfl,hN⟩
   ·have eA:((ds.take kt).map V.int).map (λ x=>V.int (1+vI x % size))=((ds.take kt).map λ d=>1+d % size).map V.int:=by rw [aS,aS]; rfl
    rw [eA];have s2:=Same.new hlp (.lst (((ds.take kt).map λ d=>1+d % size).map V.int));refine ⟨lp,_,rfl,.inl ⟨SqL.of upd_same,λ tp htp=>?_⟩⟩;refine ⟨tp,(ds.take kt).map λ d=>1+d % size,rfl,s1.trans (s2.trans (Same.new htp _)),upd_same,by rw [aA,bX]; lia,λ x hx=>?_⟩;obtain ⟨d,_,rfl⟩:=aK.mp hx;have p0:0<=d % size/\d % size<size:=⟨Int.emod_nonneg _ (by lia),cX _ (by lia)⟩;lia
  intro σ' H7 hM_; refine C9 λ G_ hG_=>?_; obtain ⟨tp,At,rfl,e7,ht7,lAt,tAt⟩:=hM_; subst hG_;have hp7:=e7 _ _ hp6;have hk7:=e7 _ _ hk6;have hb7:=e7 _ _ hb6;have ec:A7 (ds.map V.int) (some 4) (some (4+(kg:Int)))=((ds.drop 4).take kg).map V.int:=by
   unfold A7;have z1:HT.sIx (ds.map V.int).length 0 (some 4)=4:=by
    have:=HT.sIx_nat (ds.map V.int).length 0 4;rw [dl] at this ⊢;exact this
   have z2:HT.sIx (ds.map V.int).length (ds.map V.int).length (some (4+(kg:Int)))=4+kg:=by
    have:=HT.sIx_nat (ds.map V.int).length (ds.map V.int).length (4+kg);rw [dl] at this ⊢;rw [show (4:Int)+(kg:Int)=((4+kg:Nat):Int) by lia,this];lia
   rw [z1,z2,fZ,iE]
   congr 1
   lia
  refine ⟨_,rfl,_,rfl,_,rfl,kl,_,1,_,rfl,rfl,SqL.of hk7,ak1,_,_,rfl,rfl,_,rfl,pl,_,rfl,SqL.of hp7,λ sp hsp=>?_⟩;rw [ec];have s7:=Same.new hsp (.lst (((ds.drop 4).take kg).map V.int));refine ⟨λ σ' H'=>∃ (gp:Addr) (Bs:List Int) (o12:Option V),σ'=[some (.ref a),some (.int at'),some (.int most),some (.int far),some (.ref hl),some (.ref kl),some (.int (many:Int)),some (.int size),some (.ref bl),some (.int (0+(i:Int))),some (.ref pl),some (.ref tp),o12,some (.ref gp),o14]/\Same H7 H'/\H7 gp=none/\H' gp=some (.lst (Bs.map V.int))/\Bs.length=kg/\∀ x∈Bs,0<=x/\x<=far,?_,?_⟩
  ·refine ⟨_,rfl,sp,rfl,⟨_,SqL.of upd_same⟩,λ gp hgp=>?_⟩
   refine U1 (t8 (SqL.of upd_same)) hgp (by rw [aA,bX]; exact j4 (by lia)) (λ x=>.int (vI x % (size+1)*(if decide (0<vI x % 7)=true then 1 else 0))) (λ j x H' N hx e hN=>?_) ?_
   ·obtain ⟨k,rfl⟩:=S1 hx
    refine ⟨Wk.set (by decide),_,rfl,_,rfl,_,_,rfl,rfl,_,_,rfl,rfl,(by show (0:Int)<size+1; lia),_,rfl,_,_,rfl,rfl,(by show (0:Int)<7; decide),_,_,rfl,rfl,.inr ⟨_,rfl,_,_,rfl,rfl,.inr ?_,hN⟩⟩;constructor <;> (split <;> decide)
   ·have eB:(((ds.drop 4).take kg).map V.int).map (λ x=>V.int (vI x % (size+1)*(if decide (0<vI x % 7)=true then 1 else 0)))=(((ds.drop 4).take kg).map λ d=>d % (size+1)*(if decide (0<d % 7)=true then 1 else 0)).map V.int:=by rw [aS,aS]; rfl
    rw [eB];refine ⟨gp,_,_,rfl,s7.trans (Same.new hgp _),s7.free hgp,upd_same,by rw [aA,bX,dL]; lia,λ x hx=>?_⟩;obtain ⟨d,_,rfl⟩:=aK.mp hx;have p0:0<=d % (size+1)/\d % (size+1)<size+1:=⟨Int.emod_nonneg _ (by lia),cX _ (by lia)⟩
    split <;> lia
  intro σ' H8 hM_; refine C9 λ G_ hG_=>?_; obtain ⟨gp,Bs,o12',rfl,e8,f8,hg8,lBs,tBs⟩:=hM_; subst hG_;have hp8:=e8 _ _ hp7;have hk8:=e8 _ _ hk7;have lB':(Bs.map V.int).length=kg:=by rw [aA]; exact lBs
  refine ⟨λ σ' H'=>∃ (Bs:List Int) (o12:Option V),σ'=[some (.ref a),some (.int at'),some (.int most),some (.int far),some (.ref hl),some (.ref kl),some (.int (many:Int)),some (.int size),some (.ref bl),some (.int (0+(i:Int))),some (.ref pl),some (.ref tp),o12,some (.ref gp),o14]/\Same H7 H'/\H' gp=some (.lst (Bs.map V.int))/\Bs.length=kg/\(∀ x∈Bs,0<=x/\x<=far)/\∃ x∈Bs,0<x,?_,?_⟩
  ·refine ⟨_,rfl,gp,Bs,rfl,.inl (SqL.of hg8),(λ z=>by rw [z] at lBs; simp at lBs; lia),λ M hM hMx=>⟨rfl,_,rfl,?_⟩⟩
   refine G5 (λ c=>?_) (λ c=>?_)
   ·refine ⟨_,rfl,pl,_,9,_,rfl,rfl,SqL.of hp8,c9,_,rfl,_,_,rfl,rfl,(by show (0:Int)<size; lia),_,_,rfl,rfl,?_⟩
    refine ⟨_,rfl,_,rfl,pl,_,8,_,rfl,rfl,SqL.of hp8,c8,_,rfl,kl,_,1,_,rfl,rfl,SqL.of hk8,ak1,_,_,rfl,rfl,(by show (0:Int)<(kg:Int); lia),?_⟩;have r0:0<=y8 % (kg:Int):=eM _ (by lia);have r1:y8 % (kg:Int)<((Bs.map V.int).length:Int):=by rw [lB']; exact cX _ (by lia)
    have rn:(y8 % (kg:Int)).toNat<Bs.length:=by rw [lB'] at r1; lia
    have p0:0<=y9 % size/\y9 % size<size:=⟨Int.emod_nonneg _ (by lia),cX _ (by lia)⟩;refine ⟨gp,_,_,_,rfl,rfl,hg8,W8 r0 r1,?_⟩;refine ⟨Bs.set (y8 % (kg:Int)).toNat _,_,rfl,e8.write f8,by rw [upd_same,map_set],by rw [bY]; exact lBs,λ x hx=>?_,_,lK rn _,by lia⟩;rcases hV hx with z | z
    ·exact tBs x z
    ·lia
   ·have c':¬ M=0:=λ z=>c (decide_eq_true (by rw [z]))
    have:=tBs M hM;exact ⟨Bs,_,rfl,e8,hg8,lBs,tBs,M,hM,by lia⟩
  intro σ' H9 hM_; refine C9 λ G_ hG_=>?_; obtain ⟨Bt,o12'',rfl,e9,hg9,lBt,tBt,tPt⟩:=hM_; subst hG_;refine ⟨λ σ' H'=>∃ (v:V) (h:i7) (o12:Option V),σ'=[some (.ref a),some (.int at'),some (.int most),some (.int far),some (.ref hl),some (.ref kl),some (.int (many:Int)),some (.int size),some (.ref bl),some (.int (0+(i:Int))),some (.ref pl),some (.ref tp),o12,some (.ref gp),some v]/\Same H7 H'/\HS K H' v h/\HG far kt kg h,?_,?_⟩
  ·refine ⟨_,rfl,_,rfl,gp,_,rfl,.inl ⟨SqL.of hg9,λ pg hpg=>?_⟩⟩
   have f1:=Same.new hpg (.tup (Bt.map V.int));refine ⟨(by show 2<=sizeLine; decide),λ pr hpr=>?_⟩;have f2:=Same.new hpr (.tup [V.ref tp,V.ref pg]);exact ⟨_,(At,Bt),_,rfl,e9.trans (f1.trans f2),⟨pr,tp,pg,rfl,SqT.of upd_same,SqT.of (f2 _ _ (f1 _ _ (e9 _ _ ht7))),SqT.of (f2 _ _ upd_same)⟩,⟨lAt,lBt,tAt,tBt,tPt⟩⟩
  intro σ' H10 hM_; refine C9 λ G_ hG_=>?_; obtain ⟨v,h,o12'',rfl,e10,hv,hvG⟩:=hM_; subst hG_;have e57:Same H5 H7:=e6.trans e7;have e510:Same H5 H10:=e57.trans e10;refine ⟨λ σ' H'=>∃ (v:V) (h:i7) (o12:Option V),σ'=[some (.ref a),some (.int at'),some (.int most),some (.int far),some (.ref hl),some (.ref kl),some (.int (many:Int)),some (.int size),some (.ref bl),some (.int (0+(i:Int))),some (.ref pl),some (.ref tp),o12,some (.ref gp),some v]/\Same H5 H'/\HS K H' v h/\HG far kt kg h,?_,?_⟩
  ·refine ⟨_,rfl,(by show 0<=sizeLine; decide),λ ep hep=>?_⟩
   have f1:=Same.new hep (.lst []);have e511:=e510.trans f1;refine ⟨.list (hs.map a0L),.list [],.lst (SqL.of (e511 _ _ hb5)) (Bk.dps (Bk.same e511 hB)),.lst (SqL.of upd_same) .nil,a4B hs,rfl,bA (Nat.min_le_right _ _) (by decide),_,rfl,?_⟩;refine G5 (λ c=>?_) (λ c=>a3o ⟨v,h,_,rfl,e511,hv.same f1,hvG⟩);have hpos:0<hs.length:=by
    cases hs with
    | nil=>exact absurd c (by simp [PyData.eqv,PyData.eqvAll])
    | cons _ _=>simp
   have hp11:upd H10 ep (.lst []) pl=some (.lst (ds.map V.int)):=f1 _ _ (e10 _ _ hp7);have hb11:=e511 _ _ hb5;refine ⟨_,rfl,pl,_,10,_,rfl,rfl,SqL.of hp11,c10,_,_,rfl,rfl,(by show (0:Int)<4; decide),rfl,_,rfl,?_⟩;refine G5 (λ c=>?_) (λ c=>⟨v,h,_,rfl,e511,hv.same f1,hvG⟩);have r0:0<=y11 % (xs.length:Int):=eM _ (by lia);have r1:y11 % (xs.length:Int)<(xs.length:Int):=cX _ (by lia);have hk:(y11 % (xs.length:Int)).toNat<xs.length:=by lia
   have ax:S8 xs (y11 % (xs.length:Int))=some xs[(y11 % (xs.length:Int)).toNat]:=by
    unfold S8;rw [W8 r0 r1];exact aD hk
   obtain ⟨h',hh',hs'⟩:=Paired.at hB (aD hk);refine ⟨_,rfl,_,rfl,pl,_,11,_,rfl,rfl,SqL.of hp11,c11,_,rfl,bl,_,rfl,.inl (SqL.of hb11),_,_,rfl,rfl,(by show (0:Int)<(xs.length:Int); lia),bl,_,_,_,rfl,rfl,SqL.of hb11,ax,_,rfl,_,rfl,?_⟩;refine ⟨_,pl,far,h',ds,kt,kg,rfl,hs'.same e511,hG h' (aU hh'),kt1,kt4,kg1,kg4,hfar,SqL.of hp11,(by omega),d6,λ r H12 h'' e12 hs'' hg''=>⟨r,h'',_,rfl,e511.trans e12,hs'',hg''⟩⟩
  intro σ' H11 hM_; refine C9 λ G_ hG_=>?_; obtain ⟨v,h,o12'',rfl,e11,hv,hvG⟩:=hM_; subst hG_;have hb11:=e11 _ _ hb5;refine ⟨_,rfl,.inl ⟨rfl,_,SqL.of hb11⟩,_,rfl,bl,xs,v,rfl,rfl,hb11,j4 (by lia),?_⟩;have kp:Keep H11 (upd H11 bl (.lst (xs++[v]))):=Keep.upd hb11;refine ⟨xs++[v],hs++[h],_,_,_,_,_,_,rfl,(e5.trans e11).write hbl,upd_same,Paired.app (Bk.keep kp (Bk.same e11 hB)) (.cons (HS.keep kp hv) .nil),by rw [aJ,hlen5]; rfl,λ h' hm=>?_⟩;rcases aT.mp hm with z | z
  ·exact hG h' z
  ·rw [bH.mp z]; exact hvG
 ·intro σ H' hM_; refine C9 λ G_ hG_=>?_; obtain ⟨xs,hs,o9,o10,o11,o12,o13,o14,rfl,e5,hb5,hB,hlen5,hG⟩:=hM_; subst hG_
  exact ⟨_,rfl,q bl H' xs hs kt kg (e14.trans e5) hb5 hB (by lia) (by lia) kt1 kt4 kg1 kg4 hG⟩
end
end Rim
namespace Rim
open PySem L2 Fr
def b5n (K:W.Frag):List V->Hp->VK->Prop:=λ vs H Q=>∃ (a:Addr) (ns:List Int),vs=[.ref a]/\SqA K H a (ns.map V.int)/\Q (.int ns.sum) H
theorem a6k (K:W.Frag) {X:Cx} (h:X.K=K) (hc:X.calm=true):M2 X (.builtin "sum") (b5n K):=by subst h; exact a4E hc
theorem a3r (K:W.Frag) {X:Cx} (h:X.K=K):IxR X (b4W K):=by subst h; exact a0v
def FrV (K:W.Frag) (H:Hp) (v:V) (f:Q2):Prop:=∃ a,v=.ref a/\SqT K H a [.int f.1,.int f.2]
def FrT (H:Hp) (v:V) (f:Q2):Prop:=∃ a,v=.ref a/\H a=some (.tup [.int f.1,.int f.2])
theorem FrT.v {K:W.Frag} {H:Hp} {v:V} {f:Q2} (h:FrT H v f):FrV K H v f:=by
 obtain ⟨a,e,q⟩:=h;exact ⟨a,e,SqT.of q⟩
theorem FrT.same {H H':Hp} {v:V} {f:Q2} (e:Same H H') (h:FrT H v f):FrT H' v f:=by
 obtain ⟨a,z,q⟩:=h;exact ⟨a,z,e _ _ q⟩
section
variable {P:Program} {w:World} {K:W.Frag} {mg:Str->Option Value} {base:Heap} {f g:Addr} {fd gd:FuncData}
structure Cal (P:Program) (w:World) (K:W.Frag) (mg:Str->Option Value) (base:Heap) (n:Nat) (x:Str) (ps:List Str) (sp:Sp) (fa:Addr) (d:FuncData):Prop where
 ok:FnOk P w K mg base J7 n fa d ps sp
 b:Binds K d ps []
 k:W.keepIn K (.ref fa)=true
 m:mg x=some (.ref fa)
def a9D:Sp:=λ vs H Q _=>∃ a b:Int,vs=[.int a,.int b]/\0<=b/\Q (.int (gI a b)) H
theorem scDiv:r8 ["one","other"] ["one","other"] (i9 b3q):=⟨rfl,rfl,rfl,by decide +kernel,rfl,by decide +kernel,by decide +kernel⟩
def b5t:St->Nat:=λ σ=>match σ with | [_,some (.int y)]=>y.toNat | _=>0
theorem b2I (x:Int):(if x<0 then -x else x)=gI x 0:=by
 rw [b0K]
 split <;> lia
theorem b3b {n:Nat} (F:Fun K "common_divisor" "common_divisor" b3q f fd) (T:A3 mg):FnOk P w K mg base J7 (n+1) f fd ["one","other"] a9D:=by
 refine F.ok scDiv (λ vs H Q E h=>?_) (λ cdv A outer s H vs Q E hr h=>?_)
 ·obtain ⟨a,b,rfl,_⟩:=h
  rfl
 obtain ⟨a,b,rfl,hb,q⟩:=h;refine ⟨_,j0 (a5k PassesOwn.never (r9 b4v (pv 1) h8 (t9 _)) (j8 (b3f (i:=0) (j:=1) rfl scDiv.nd rfl rfl (by decide) rfl rfl (c5 (pv 1) (c5 (j5 A2 (pv 0) (pv 1)) c7)) rfl)))
  (j8 (v5 (m9 b0r rfl T.abs (nY) (c5 (pv 0) c7)))),?_⟩
 refine a9I (λ σ H'=>∃ x y:Int,σ=[some (.int x),some (.int y)]/\H'=H/\0<=y/\gI x y=gI a b) (λ σ _=>b5t σ) ⟨a,b,rfl,rfl,hb,rfl⟩ ?_ (λ σ H Q Q' hq ⟨v,h1,h2,k,h3,q⟩=>⟨v,h1,h2,k,h3,hq _ _ q⟩);rintro σ H' ⟨x,y,rfl,rfl,hy,hg⟩;refine ⟨_,rfl,rfl,_,rfl,?_⟩;refine G5 (λ c=>?_) (λ c=>?_)
 ·have hy0:0<y:=by
   by_cases z:y=0
   ·subst z; simp at c
   ·lia
  have hm:=eM x (show y≠0 by lia);have hl:=cX x hy0;refine ⟨_,rfl,_,rfl,_,rfl,_,_,rfl,rfl,hy0,_,_,rfl,⟨y,x % y,rfl,rfl,hm,?_⟩,?_⟩
  ·rw [b1y]; exact hg
  ·show (x % y).toNat<y.toNat
   lia
 ·have hy0:y=0:=by
   by_cases z:y=0
   ·exact z
   ·exact absurd (by simp [z]) c
  subst hy0;refine ⟨_,rfl,_,rfl,?_⟩;rw [b2I,hg];exact q
end
theorem Big.mono {n m:Nat} {i:Int} (h:Big n i) (hn:n<=m):Big m i:=aZ h (hX (by decide) hn)
theorem Big.mul {n m:Nat} {i j:Int} (h:Big n i) (k:Big m j):Big (n+m) (i*j):=by
 unfold Big at *;rw [fR,lL];exact Nat.mul_lt_mul_of_lt_of_lt h k
theorem Big.add {n:Nat} {i j:Int} (h:Big n i) (k:Big n j):Big (n+1) (i+j):=by
 unfold Big at *;have:=lM i j;rw [lF];lia
theorem a1u {i:Int} {n:Nat} (h0:0<=i) (h1:i<2 ^ n):Big n i:=by
 have e:((2 ^ n:Nat):Int)=2 ^ n:=by simp
 unfold Big;lia
theorem Big.lt {i:Int} {n:Nat} (h:Big n i):i<2 ^ n:=by
 have e:((2 ^ n:Nat):Int)=2 ^ n:=by simp
 unfold Big at h;lia
section
variable {P:Program} {w:World} {K:W.Frag} {mg:Str->Option Value} {base:Heap} {f g:Addr} {fd gd:FuncData} {n:Nat}
def a0W:Sp:=λ vs H Q _=>∃ t b:Int,vs=[.int t,.int b]/\0<b/\b<2 ^ 8000/\∀ (v:V) (H':Hp),Same H H'->FrT H' v (low t b)->Q v H'
theorem scLow:r8 ["top","bottom","divisor"] ["top","bottom"] (i9 b2H):=⟨rfl,rfl,rfl,by decide +kernel,rfl,by decide +kernel,by decide +kernel⟩
theorem b2S {fa:Addr} {da:FuncData} (F:Fun K "lowest" "lowest" b2H f fd) (T:A3 mg) (C:Cal P w K mg base n "common_divisor" ["one","other"] a9D fa da):FnOk P w K mg base J7 (n+1) f fd ["top","bottom"] a0W:=by
 refine F.ok scLow (λ vs H Q E h=>?_) (λ cdv A outer s H vs Q E hr h=>?_)
 ·obtain ⟨a,b,rfl,_⟩:=h
  rfl
 obtain ⟨t,b,rfl,hb,hb2,q⟩:=h;refine ⟨_,j0 (E2 (r9 a1c (pv 1) h8 (t9 _)) a3g y6)
  (j0 (p6 (i:=2) scLow.nd rfl (aC rfl) (m6 C.ok hr rfl C.m C.k C.b .nil u0 (c5 (pv 0) (c5 (pv 1) c7))))
  (j0 (E2 (r9 Z6 (pv 1) h8 (t9 _)) a3g y6)
  (j8 (v5 (O9 (c5 (j5 T5 (pv 0) (pv 2)) (c5 (j5 T5 (pv 1) (pv 2)) c7))))))),?_⟩
 refine ⟨_,rfl,rfl,_,rfl,?_⟩;refine G5 (λ c=>?_) (λ _=>?_)
 ·have:=V.int.inj (of_decide_eq_true c); lia
 refine ⟨_,rfl,_,rfl,t,b,rfl,aN hb,?_⟩;refine ⟨_,rfl,_,_,rfl,rfl,_,rfl,?_⟩;refine G5 (λ c=>?_) (λ _=>?_)
 ·have:b<0:=of_decide_eq_true c; lia
 have hg:=S9 (a:=t) hb;have hgl:=b2m (a:=t) hb;refine ⟨_,rfl,_,rfl,_,_,rfl,rfl,⟨hg,eY hgl hb2⟩,_,rfl,_,rfl,_,_,rfl,rfl,⟨hg,eY hgl hb2⟩,(by show 2<=sizeLine; decide),λ p hp=>?_⟩;exact q _ _ (Same.new hp _) ⟨p,rfl,upd_same⟩
theorem a9u {α:Type} (a b:α):S8 [a,b] 0=some a:=v8 (j:=0) rfl
theorem a9C {α:Type} (a b:α):S8 [a,b] 1=some b:=v8 (j:=1) rfl
def a3K (K:W.Frag):Sp:=λ vs H Q _=>∃ (u v:V) (x y:Q2),vs=[u,v]/\FrV K H u x/\FrV K H v y/\(Big 1000000 x.1/\Big 1000000 x.2/\Big 1000000 y.1/\Big 1000000 y.2)/\Q (.bl (decide (x.1*y.2<y.1*x.2))) H
end
section
variable {P:Program} {w:World} {K:W.Frag} {mg:Str->Option Value} {base:Heap} {f g:Addr} {fd gd:FuncData} {n:Nat}
def a1m (k:Nat) (m:Int):Prop:=0<=m/\m<(k:Int)
def a5j (K:W.Frag) (CN:Addr):Sp:=λ vs H Q E=>∃ (a:Addr) (xs:List V) (m:Int),vs=[.ref a,.int m]/\SqL K H a xs/\m.natAbs.log2<1920/\(∀ (i:Nat) x,m=(i:Int)->xs[i]?=some x->Q x H)/\(¬ a1m xs.length m->E (.ref CN) none H)
theorem b4J:r8 ["book","number"] ["book","number"] (i9 b2B):=⟨rfl,rfl,rfl,by decide +kernel,rfl,by decide +kernel,by decide +kernel⟩
theorem b3w {CN:Addr} (F:Fun K "house_of" "house_of" b2B f fd) (T:A3 mg) (kN:a4t K CN) (mN:mg "NoHouse"=some (.ref CN)):FnOk P w K mg base (CX1 P w) (n+1) f fd ["book","number"] (a5j K CN):=by
 refine F.ok1 b4J (λ vs H Q E h=>?_) (λ cdv A outer s H vs Q E hr h=>?_)
 ·obtain ⟨a,xs,m,rfl,_⟩:=h
  rfl
 obtain ⟨a,xs,m,rfl,hS,hm,q,hE⟩:=h;refine ⟨_,j0 (E2 (a1Z (a8K b4H Z6 h8 (pv 1) (m9 j9 rfl T.len bQ (c5 (pv 0) c7)))) (j8 (a4q kN rfl mN hr.hd (c5 (b1d (pv 1) (by decide)) c7))) y6)
  (j8 (v5 (m8 j6 (pv 0) (pv 1) (λ _ _=>rfl)))),?_⟩
 refine ⟨_,rfl,_,_,rfl,rfl,_,rfl,?_⟩;have bad:¬ a1m xs.length m->a9T (b2e (tFs (a8e 1)) b0W) CN E { nx:=λ _ H'=>Q .non H',rt:=Q } (T0 ["book","number"] [.ref a,.int m]) H:=λ hb=>⟨_,rfl,m,rfl,hm,λ x=>⟨(by show 1<=1000; decide),hE hb⟩⟩;refine G5 (λ c=>?_) (λ c=>?_)
 ·have c':0<=m:=of_decide_eq_true c
  refine ⟨_,rfl,a,_,rfl,.inl hS,_,_,rfl,rfl,_,rfl,?_⟩;refine G5 (λ d=>?_) (λ d=>?_)
  ·have d':¬ m<(xs.length:Int):=of_decide_eq_false (by simpa using d)
   exact bad λ z=>d' z.2
  ·have d':m<(xs.length:Int):=of_decide_eq_true (by simpa using d)
   obtain ⟨j,rfl⟩:∃ j:Nat,m=(j:Int):=⟨m.toNat,by lia⟩;have hi:j<xs.length:=by lia
   exact ⟨_,rfl,_,rfl,a,_,_,_,rfl,rfl,hS,v8 (aD hi),q j xs[j] rfl (aD hi)⟩
 ·have c':¬ 0<=m:=of_decide_eq_false (fY.mpr c)
  exact ⟨_,rfl,b1B (bad λ z=>c' z.1)⟩
end
end Rim
namespace L2
open PySem PySem.Spec PyProof.Rows
structure b1P (K:W.Frag) (P:Params) (d:Addr):Prop where
 ex:∃ es n,K.lookup d=some ⟨.type "dict",none,.dict es n,#[]⟩/\W.KeysLit P es.toList
def b5O (K:W.Frag) (P:Params):R2:=λ x y H Q=>∃ d z t,x=.ref d/\y=.str z/\b1P K P d/\W.nsIn K d z=some (some (.ref t))/\Q (.ref t) H
theorem a5r (K:W.Frag) (P:Params) {X:Cx} (hK:X.K=K) (hP:X.w.params=P):IxR X (b5O K P):=by
 subst hK;subst hP;intro value slice pins s σ H x y v u Q I rx ry h hs;obtain ⟨d,z,t,rfl,rfl,⟨es,n,hl,hk⟩,e,q⟩:=h
 cases rx;obtain ⟨tk,rfl⟩:=ry;obtain ⟨m,hm⟩:=I.fr;exact W.topItem_K hm I.mod.kin hl hk e ⟨.ref t,H,I.tok _,rfl,q⟩ (by first | exact hs | exact hs _ _)
end L2
namespace L2
open PySem
theorem b2G (K:W.Frag) {X:Cx} {tg l:Expr} {tl:TE} (h:X.K=K) (hl:PE X l tl):PI X tg l (b4x K tl):=by subst h; exact a5T hl
end L2
namespace Rim
open PySem L2 Fr
def Szw (z:Str):Prop:=z="any"\/z="one"\/z="less"\/z="more"
def K1 (z:Str):List Int:=if z="any" then [] else if z="one" then [1,-1] else if z="less" then [-1] else [1]
structure Sg (K:W.Frag) (Pm:Params) (mg:Str->Option Value) (d:Addr):Prop where
 m:mg "SIZE_SIGNS"=some (.ref d)
 k:b1P K Pm d
 tt:∀ z,Szw z->∃ t,W.nsIn K d z=some (some (.ref t))/\∀ H,SqT K H t ((K1 z).map V.int)
def A5 (z:Str) (h:i7):List Int:=h.1.map (λ x=>-x)++h.2++K1 z
section
variable {P:Program} {w:World} {K:W.Frag} {mg:Str->Option Value} {base:Heap} {f Pt d:Addr} {fd:FuncData} {n:Nat} {C:Addr}
def M4 (K:W.Frag):Sp:=λ vs H Q _=>∃ (ba:Addr) (xs:List V) (hs:List i7) (z:Str) (kt kg:Nat),vs=[.ref ba,.str z]/\Szw z/\SqL K H ba xs/\Bk K H xs hs/\hs.length<=100/\kt<=100/\kg<=100/\(∀ h∈hs,h.1.length=kt/\h.2.length=kg) ∧
 ∀ (r:Addr) (H':Hp) (rs:List Addr),Same H H'->H' r=some (.lst (rs.map V.ref))->rs.length=hs.length->(∀ (i:Nat) a h,rs[i]?=some a->hs[i]?=some h->H' a=some (.lst ((A5 z h).map V.int)))->Q (.ref r) H'
theorem scHr:r8 ["houses","sizes","signs"] ["houses","sizes"] (i9 N8):=⟨rfl,rfl,rfl,by decide +kernel,rfl,by decide +kernel,by decide +kernel⟩
theorem b2u:(["takes","gives","signs"]:List Str).Nodup:=by decide +kernel
theorem b3O:(["take"]:List Str).Nodup:=by decide +kernel
theorem V4 (z:Str):(K1 z).length<=2:=by
 unfold K1
 by_cases h1:z="any"
 ·rw [if_pos h1]; decide
 by_cases h2:z="one"
 ·rw [if_neg h1,if_pos h2]; decide
 by_cases h3:z="less"
 ·rw [if_neg h1,if_neg h2,if_pos h3]; decide
 ·rw [if_neg h1,if_neg h2,if_neg h3]; decide
noncomputable def hrT {cdv:Value} {A:Around} {outer:List Env} {s:Shared} {H:Hp} {E:XK} (N:A3 mg) (G:Sg K w.params mg d) :
  { t:TS // PSs (J6 J7 P w K mg base ["houses","sizes","signs"] "house_rows" (i9 N8) f cdv A outer s H E).nox (v4 N8) t } :=
 ⟨_,j0 (p6 (i:=2) scHr.nd rfl (cI rfl) (v9 E5 rfl N.list eL (c5 (m8 (a5r K w.params rfl rfl) (a1q (v:=.ref d) rfl G.m rfl) (pv 1) (λ _ _=>rfl)) c7)))
  (j8 (v5 (M8 ["takes","gives"] [2] rfl (w8 (pv 0))
   (λ _ _ _ _=>K8 K (n:=2) rfl rfl (j7 (j3 (i:=0) b2u rfl (aC rfl)) (j7 (j3 (i:=1) b2u rfl (aC rfl)) x9)))
   (λ _ _ _ _=>j5 C2 (j5 C2 (M8 ["take"] [] rfl (b2G K rfl (pv 0)) (λ _ _ _ _=>j3 (i:=0) b3O rfl (aC rfl)) (λ _ _ _ _=>K2 D6 (pv 0))) (v9 (a6I K rfl) rfl N.list eL (c5 (pv 1) c7))) (pv 2)))))⟩
theorem a3Y (F:Fun K "house_rows" "house_rows" N8 f fd) (N:A3 mg) (G:Sg K w.params mg d):FnOk P w K mg base J7 (n+1) f fd ["houses","sizes"] (M4 K):=by
 refine F.ok scHr (λ vs H Q E h=>?_) (λ cdv A outer s H vs Q E hr h=>?_)
 ·obtain ⟨ba,xs,hs,z,kt,kg,rfl,_⟩:=h
  rfl
 obtain ⟨ba,xs,hs,z,kt,kg,rfl,hz,hB,hBk,hl,hkt,hkg,hlen,k⟩:=h;refine ⟨_,(hrT N G).2,?_⟩;obtain ⟨t,ht,hT⟩:=G.tt z hz;have xl:xs.length=hs.length:=Paired.length hBk;refine ⟨_,rfl,d,z,t,rfl,rfl,G.k,ht,t,_,rfl,.inr (hT _),λ sl hsl=>?_⟩;have e0:=Same.new hsl (.lst ((K1 z).map V.int));have hS0:upd H sl (.lst ((K1 z).map V.int)) sl=some (.lst ((K1 z).map V.int)):=upd_same;refine ⟨_,rfl,ba,rfl,⟨_,e0.seq hB⟩,λ l hl'=>?_⟩;refine D3 (t8 (e0.seq hB)) hl' (by rw [xl]; exact j4 (by lia)) (λ i y H2=>∃ a h,y=.ref a/\a≠l/\hs[i]?=some h/\H2 a=some (.lst ((A5 z h).map V.int)))
  (λ i y H2 H3 ⟨a,h,h1,h2,h3,h4⟩ e=>⟨a,h,h1,h2,h3,e a _ h2 h4⟩) (λ i x H2 ys N' hx e hl2 hN=>?_) (λ ys H2 e hl2 len pr=>?_)
 ·obtain ⟨h,hh,hHS⟩:=Paired.at hBk hx
  have hH2:=hHS.same (e0.trans e);obtain ⟨a,ta,ga,rfl,p1,p2,p3⟩:=hH2;have lh:=hlen h (aU hh);refine ⟨a,_,rfl,p1,rfl,_,_,rfl,_,_,rfl,rfl,?_,?_⟩
  ·refine ⟨by simp,λ k w ek=>?_⟩
   have:¬ k<2:=λ hk=>by
    unfold blkσ at ek;rw [bF (by simpa using hk),dI] at ek
    split at ek <;> cases ek
   rw [bS (by lia),bS (by lia)]; exact ek
  refine ⟨_,rfl,ta,rfl,⟨_,p2⟩,λ a1 h1=>?_⟩;refine U1 (a2u p2) h1 (by rw [aA,lh.1]; exact j4 (by lia)) (λ x=>.int (-(vI x))) (λ j x H' N2 hx2 e2 hN2=>?_) ?_
  ·obtain ⟨x',rfl,_⟩:=K9 hx2
   exact ⟨Wk.set (by decide),_,rfl,_,rfl,hN2⟩
  have eg:(h.1.map V.int).map (λ x=>V.int (-(vI x)))=(h.1.map λ x=>-x).map V.int:=by rw [aS,aS]; rfl
  rw [eg];have s1:=Same.new h1 (.lst ((h.1.map λ x=>-x).map V.int));refine ⟨_,rfl,ga,_,rfl,.inr (s1.tseq p3),λ a2 h2=>?_⟩;have s2:=s1.trans (Same.new h2 (.lst (h.2.map V.int)));have n12:a1≠a2:=i8 upd_same h2;have sz:=j4 (show kt+kg+2<=1000 by lia);have sg:=V4 z;refine ⟨a1,a2,_,_,rfl,rfl,(by rw [d0 n12]; exact upd_same),upd_same,?_,λ a3 h3=>?_⟩
  ·rw [aA,aA,aA,lh.1,lh.2]; lia
  have s3:=s2.trans (Same.new h3 (.lst ((h.1.map λ x=>-x).map V.int++h.2.map V.int)));have sl3:=s3 _ _ (e _ _ hS0);refine ⟨_,rfl,a3,sl,_,_,rfl,rfl,upd_same,sl3,?_,λ a4 h4=>?_⟩
  ·rw [aJ,aA,aA,aA,aA,lh.1,lh.2]; lia
  refine hN _ _ (s3.trans (Same.new h4 _)) ⟨a4,h,rfl,λ z'=>?_,hh,?_⟩
  ·rw [z',s3 _ _ hl2] at h4; cases h4
  ·rw [upd_same]
   unfold A5;rw [bN,bN]
 ·have hys:ys=(ys.map a4y).map V.ref:=by
   rw [aS];refine cC λ i=>?_;rw [aE]
   cases qi:ys[i]? with
   | none=>rfl
   | some y =>
    obtain ⟨a,_,rfl,_⟩:=pr i y qi;rfl
  refine k l H2 (ys.map a4y) (e0.trans e) (by rw [hl2]; rw [<- hys]) (by rw [aA,len,xl]) λ i a h hi hh=>?_;rw [aE] at hi
  cases qi:ys[i]? with
  | none=>rw [qi] at hi; cases hi
  | some y =>
   obtain ⟨a',h',rfl,_,h3,h4⟩:=pr i y qi;rw [qi] at hi;have:a'=a:=aM hi;subst this;rw [hh] at h3
   cases h3;exact h4
end
def K3 (z:Str) (h:i7):List Int:=aI h.1.length 0++h.2++K1 z
def M9 (z:Str) (h:i7):List Int:=h.1++aI h.2.length 0++aI (K1 z).length 0
def D7 (z:Str) (hs:List i7) (h:i7):List (List Int):=hs.map (A5 z)++[M9 z h]
def Y9 (hs:List i7):List Int:=aI hs.length 0++[1]
theorem Q0 (k:Nat):(aI k [V.int 0]).flatten=(aI k (0:Int)).map V.int:=by
 induction k with
 | zero=>rfl
 | succ k ih=>rw [eJ,gD,ih,eJ,aQ]; rfl
section
variable {P:Program} {w:World} {K:W.Frag} {mg:Str->Option Value} {base:Heap} {f Pt d:Addr} {fd:FuncData} {n:Nat} {C:Addr}
abbrev OfE (z:Str) (hs:List i7) (h:i7) (S:Lp.Bo):Prop:=Lp.Of (hs.length+1) (h.1.length+h.2.length+(K1 z).length) (S6 (D7 z hs h)) (G6 (Y9 hs)) (G6 (K3 z h)) S
def a1Y (K:W.Frag) (Pt:Addr):Sp:=λ vs H Q _=>∃ (ba:Addr) (hv:V) (xs:List V) (hs:List i7) (h:i7) (z:Str) (far:Int) (kt kg m q:Nat),vs=[.ref ba,hv,.str z]/\Szw z/\SqL K H ba xs/\Bk K H xs hs/\HS K H hv h/\HG far kt kg h/\(∀ h∈hs,HG far kt kg h)/\far<=2 ^ 60 ∧
 hs.length<=16/\kt<=20/\kg<=20/\m=hs.length+1/\q=h.1.length+h.2.length+(K1 z).length/\LT Pt H ∧
 (∀ (S:Lp.Bo) (H':Hp) (t aa wa:Addr),OfE z hs h S->(∀ j,j<q->¬ S.T m j<0)->Sz 4000 m q S->Same1 Pt H H'->LT Pt H'->H' t=some (.tup [.int (S.T m q),.ref aa,.ref wa,.int S.d]) →
  H' aa=some (.lst ((p7 m q S).map V.int))->H' wa=some (.lst ((D0 m q S).map V.int))->Q (.ref t) H') ∧
 ∀ (S:Lp.Bo) (H':Hp) (c:Nat),OfE z hs h S->c<q->S.T m c<0->(∀ i,i<m->¬ 0<S.T i c)->Same1 Pt H H'->LT Pt H'->Q .non H'
theorem scEa:r8 ["houses","house","sizes","takes","gives","signs","earned","paid"] ["houses","house","sizes"] (i9 V8):=⟨rfl,rfl,rfl,by decide +kernel,rfl,by decide +kernel,by decide +kernel⟩
noncomputable def eaT {cdv:Value} {A:Around} {outer:List Env} {s:Shared} {H:Hp} {E:XK} {f1 f2:Addr} {d1 d2:FuncData} (N:A3 mg) (G:Sg K w.params mg d) (Cg:SCal P w K mg base n "greatest" ["goal","rows","bounds"] (N6 K C Pt) f1 d1) (Ch:SCal P w K mg base n "house_rows" ["houses","sizes"] (M4 K) f2 d2)
  (hr:Room n (A.deeper (dU "greatest_earned" (i9 V8) s.heap.objs.size f cdv))) :
  { t:TS // PSs (J6 J7 P w K mg base ["houses","house","sizes","takes","gives","signs","earned","paid"] "greatest_earned" (i9 V8) f cdv A outer s H E).nox (v4 V8) t } :=
 ⟨_,j0 (E4 (pv 1) (O2 rfl (j7 (j3 (i:=3) scEa.nd rfl (aC rfl)) (j7 (j3 (i:=4) scEa.nd rfl (aC rfl)) x9))))
  (j0 (p6 (i:=5) scEa.nd rfl (aC rfl) (v9 E5 rfl N.list eL (c5 (m8 (a5r K w.params rfl rfl) (a1q (v:=.ref d) rfl G.m rfl) (pv 2) (λ _ _=>rfl)) c7)))
  (r6 (p6 (i:=6) scEa.nd rfl (aC rfl) (j5 C2 (j5 C2 (j5 R8 (u9 (c5 h8 c7)) (m9 j9 rfl N.len bQ (c5 (pv 3) c7))) (v9 E5 rfl N.list eL (c5 (pv 4) c7))) (pv 5)))
  (r6 (p6 (i:=7) scEa.nd rfl (aC rfl) (j5 C2 (j5 C2 (v9 E5 rfl N.list eL (c5 (pv 3) c7)) (j5 R8 (u9 (c5 h8 c7)) (m9 j9 rfl N.len bQ (c5 (pv 4) c7)))) (j5 R8 (u9 (c5 h8 c7)) (m9 j9 rfl N.len bQ (c5 (pv 5) c7)))))
  (j8 (v5 (m6 Cg.ok hr rfl Cg.m Cg.k Cg.b .nil u0 (c5 (pv 6) (c5 (j5 C2 (m6 Ch.ok hr rfl Ch.m Ch.k Ch.b .nil u0 (c5 (pv 0) (c5 (pv 2) c7))) (u9 (c5 (pv 7) c7)))
   (c5 (j5 C2 (j5 R8 (u9 (c5 h8 c7)) (m9 j9 rfl N.len bQ (c5 (pv 0) c7))) (u9 (c5 h8 c7))) c7)))))))))⟩
theorem b1O:∀ k,k<20->Lp.bnd (2 ^ 60) (k+1)<2 ^ 4000:=by decide +kernel
theorem V9 {rows:List (List Int)} {i j:Nat} {row:List Int} (h:rows[i]?=some row):S6 rows i j=row.getD j 0:=by
 have e:rows.getD i []=row:=by rw [aG,h]; rfl
 unfold S6;rw [e]
theorem Q5 {l:List Int} {M:Nat} (h:∀ x∈l,x.natAbs<=M) (j:Nat):(l.getD j 0).natAbs<=M:=by
 rw [aG]
 cases e:l[j]? with
 | none=>exact bW _
 | some x=>exact h x (aU e)
theorem a0p (z:Str):∀ x∈K1 z,x.natAbs<=2 ^ 60:=by
 unfold K1
 by_cases h1:z="any"
 ·rw [if_pos h1]; decide
 by_cases h2:z="one"
 ·rw [if_neg h1,if_pos h2]; decide
 by_cases h3:z="less"
 ·rw [if_neg h1,if_neg h2,if_pos h3]; decide
 ·rw [if_neg h1,if_neg h2,if_neg h3]; decide
theorem b4M {z:Str} {hs:List i7} {h:i7} {far:Int} {kt kg:Nat} (hh:HG far kt kg h) (hhs:∀ h∈hs,HG far kt kg h) (hf:far<=2 ^ 60) (q:Nat) :
  ∀ v,Lp.Fits (2 ^ 60) (hs.length+1+1) (Lp.Vv (hs.length+1) q (S6 (D7 z hs h)) (G6 (Y9 hs)) (G6 (K3 z h)) v):=by
 have ht:∀ g:i7,HG far kt kg g->∀ x∈g.1,x.natAbs<=2 ^ 60:=λ g hg x hx=>by have:=hg.t x hx; lia
 have hg':∀ g:i7,HG far kt kg g->∀ x∈g.2,x.natAbs<=2 ^ 60:=λ g hg x hx=>by have:=hg.g x hx; lia
 have z0:∀ k:Nat,∀ x∈List.replicate k (0:Int),x.natAbs<=2 ^ 60:=λ k x hx=>by rw [(iF.mp hx).2]; decide
 have rows:∀ r∈D7 z hs h,∀ x∈r,x.natAbs<=2 ^ 60:=λ r hr x hx=>by
  unfold D7 at hr;rcases aT.mp hr with hr | hr
  ·obtain ⟨g,hg,rfl⟩:=aK.mp hr
   unfold A5 at hx;rcases aT.mp hx with hx | hx
   ·rcases aT.mp hx with hx | hx
    ·obtain ⟨y,hy,rfl⟩:=aK.mp hx
     have:=ht g (hhs g hg) y hy;rw [gH]; exact this
    ·exact hg' g (hhs g hg) x hx
   ·exact a0p z x hx
  ·rw [bH.mp hr] at hx
   unfold M9 at hx;rcases aT.mp hx with hx | hx
   ·rcases aT.mp hx with hx | hx
    ·exact ht h hh x hx
    ·exact z0 _ x hx
   ·exact z0 _ x hx
 have goal:∀ x∈K3 z h,x.natAbs<=2 ^ 60:=λ x hx=>by
  unfold K3 at hx;rcases aT.mp hx with hx | hx
  ·rcases aT.mp hx with hx | hx
   ·exact z0 _ x hx
   ·exact hg' h hh x hx
  ·exact a0p z x hx
 have bnds:∀ x∈Y9 hs,x.natAbs<=2 ^ 60:=λ x hx=>by
  unfold Y9 at hx;rcases aT.mp hx with hx | hx
  ·exact z0 _ x hx
  ·rw [bH.mp hx]; decide
 intro v i _;unfold Lp.Vv
 split
 ·split
  ·unfold S6
   refine Q5 (λ x hx=>?_) v;rw [aG] at hx
   cases e:(D7 z hs h)[i]? with
   | none=>rw [e] at hx; cases hx
   | some r=>rw [e] at hx; exact rows r (aU e) x hx
  ·split
   ·rw [gH]; exact Q5 goal v
   ·exact bW _
 ·split
  ·split <;> decide
  ·split
   ·exact Q5 bnds i
   ·exact bW _
end
section
variable {P:Program} {w:World} {K:W.Frag} {mg:Str->Option Value} {base:Heap} {f Pt d:Addr} {fd:FuncData} {n:Nat} {C:Addr}
theorem b1b {H':Hp} {rs:List Addr} {hs:List i7} {z:Str} (hl:rs.length=hs.length) (h:∀ (i:Nat) a g,rs[i]?=some a->hs[i]?=some g->H' a=some (.lst ((A5 z g).map V.int))):RowsL K H' (rs.map V.ref) (hs.map (A5 z)):=by
 induction hs generalizing rs with
 | nil =>
  cases rs with
  | nil=>exact .nil
  | cons a r=>simp at hl
 | cons g hs ih =>
  cases rs with
  | nil=>simp at hl
  | cons a r=>exact .cons ⟨a,rfl,SqL.of (h 0 a g rfl rfl)⟩ (ih (by simpa using hl) λ i b g' h1 h2=>h (i+1) b g' (by simpa using h1) (by simpa using h2))
theorem a7A {f1 f2:Addr} {d1 d2:FuncData} (F:Fun K "greatest_earned" "greatest_earned" V8 f fd) (N:A3 mg) (G:Sg K w.params mg d) (Cg:SCal P w K mg base n "greatest" ["goal","rows","bounds"] (N6 K C Pt) f1 d1) (Ch:SCal P w K mg base n "house_rows" ["houses","sizes"] (M4 K) f2 d2) :
  FnOk P w K mg base J7 (n+1) f fd ["houses","house","sizes"] (a1Y K Pt):=by
 refine F.ok scEa (λ vs H Q E h=>?_) (λ cdv A outer s H vs Q E hr h=>?_)
 ·obtain ⟨ba,hv,xs,hs,h,z,far,kt,kg,m,q,rfl,_⟩:=h
  rfl
 obtain ⟨ba,hv,xs,hs,h,z,far,kt,kg,m,q,rfl,hz,hB,hBk,hHS,hh,hhs,hfar,h16,hkt,hkg,rfl,rfl,L,kT,kN⟩:=h;refine ⟨_,(eaT N G Cg Ch hr).2,?_⟩;obtain ⟨ha,ta,ga,rfl,p1,p2,p3⟩:=id hHS;obtain ⟨t,ht,hT⟩:=G.tt z hz;have xl:xs.length=hs.length:=Paired.length hBk;have sg:=V4 z;have s1k:=j4 (show (1000:Nat)<=1000 from aF _);have l1:=hh.lt;have l2:=hh.lg;refine ⟨_,rfl,ha,_,rfl,p1,rfl,_,_,rfl,_,_,rfl,rfl,?_⟩;refine ⟨_,rfl,d,z,t,rfl,rfl,G.k,ht,t,_,rfl,.inr (hT _),λ sl hsl=>?_⟩;have e0:=Same.new hsl (.lst ((K1 z).map V.int));have hS0:upd H sl (.lst ((K1 z).map V.int)) sl=some (.lst ((K1 z).map V.int)):=upd_same;refine ⟨λ σ' H1=>∃ ea:Addr,σ'=[some (.ref ba),some (.ref ha),some (.str z),some (.ref ta),some (.ref ga),some (.ref sl),some (.ref ea),none]/\Same (upd H sl (.lst ((K1 z).map V.int))) H1/\H1 ea=some (.lst ((K3 z h).map V.int)),?_,?_⟩
 ·refine ⟨(by show 1<=sizeLine; decide),λ a1 h1=>?_⟩
  have s1:=Same.new h1 (.lst [.int 0]);refine ⟨_,rfl,ta,_,rfl,.inr (s1.tseq (e0.tseq p2)),a1,_,_,rfl,rfl,upd_same,by lia,by rw [aA,l1]; lia,by rw [aA,l1,aV]; simp; lia,λ a2 h2=>?_⟩;rw [aA,aV,Q0];have s2:=s1.trans (Same.new h2 (.lst ((aI h.1.length (0:Int)).map V.int)));refine ⟨_,rfl,ga,_,rfl,.inr (s2.tseq (e0.tseq p3)),λ a3 h3=>?_⟩;have s3:=s2.trans (Same.new h3 (.lst (h.2.map V.int)));have n23:a2≠a3:=i8 upd_same h3;refine ⟨a2,a3,_,_,rfl,rfl,(by rw [d0 n23]; exact upd_same),upd_same,?_,λ a4 h4=>?_⟩
  ·rw [aA,aA,cA,l1,l2]; lia
  have s4:=s3.trans (Same.new h4 (.lst ((aI h.1.length (0:Int)).map V.int++h.2.map V.int)));refine ⟨_,rfl,a4,sl,_,_,rfl,rfl,upd_same,s4 _ _ hS0,?_,λ a5 h5=>?_⟩
  ·rw [aJ,aA,aA,aA,cA,l1,l2]; lia
  refine ⟨a5,rfl,s4.trans (Same.new h5 _),?_⟩;rw [upd_same];unfold K3;rw [bN,bN]
 intro σ1 H1 hM_; refine C9 λ G_ hG_=>?_; obtain ⟨ea,rfl,e1,he⟩:=hM_; subst hG_;have e01:=e0.trans e1;refine ⟨λ σ' H2=>∃ pa:Addr,σ'=[some (.ref ba),some (.ref ha),some (.str z),some (.ref ta),some (.ref ga),some (.ref sl),some (.ref ea),some (.ref pa)]/\Same H1 H2/\H2 pa=some (.lst ((M9 z h).map V.int)),?_,?_⟩
 ·refine ⟨_,rfl,ta,_,rfl,.inr (e01.tseq p2),λ a1 h1=>?_⟩
  have s1:=Same.new h1 (.lst (h.1.map V.int));refine ⟨(by show 1<=sizeLine; decide),λ a2 h2=>?_⟩;have s2:=s1.trans (Same.new h2 (.lst [.int 0]));have n12:a1≠a2:=i8 upd_same h2;refine ⟨_,rfl,ga,_,rfl,.inr (s2.tseq (e01.tseq p3)),a2,_,_,rfl,rfl,upd_same,by lia,by rw [aA,l2]; lia,by rw [aA,l2,aV]; simp; lia,λ a3 h3=>?_⟩;rw [aA,aV,Q0];have s3:=s2.trans (Same.new h3 (.lst ((aI h.2.length (0:Int)).map V.int)));have c1:=(Same.new h3 (.lst ((aI h.2.length (0:Int)).map V.int))) a1 _ ((Same.new h2 (.lst [.int 0])) a1 _ upd_same);refine ⟨a1,a3,_,_,rfl,rfl,c1,upd_same,?_,λ a4 h4=>?_⟩
  ·rw [aA,aA,cA,l1,l2]; lia
  have s4:=s3.trans (Same.new h4 (.lst (h.1.map V.int++(aI h.2.length (0:Int)).map V.int)));refine ⟨(by show 1<=sizeLine; decide),λ a5 h5=>?_⟩;have s5:=s4.trans (Same.new h5 (.lst [.int 0]));have lz:((K1 z).map V.int).length=(K1 z).length:=aA _;refine ⟨_,rfl,sl,_,rfl,.inl (SqL.of (s5 _ _ (e1 _ _ hS0))),a5,_,_,rfl,rfl,upd_same,by lia,by rw [lz]; lia,by rw [lz,aV]; simp; lia,λ a6 h6=>?_⟩;rw [lz,aV,Q0];have c4:=(Same.new h6 (.lst ((aI (K1 z).length (0:Int)).map V.int))) a4 _ ((Same.new h5 (.lst [.int 0])) a4 _ upd_same);refine ⟨a4,a6,_,_,rfl,rfl,c4,upd_same,?_,λ a7 h7=>?_⟩
  ·rw [aJ,aA,aA,aA,cA,cA,l1,l2]; lia
  refine ⟨a7,rfl,(s5.trans (Same.new h6 _)).trans (Same.new h7 _),?_⟩;rw [upd_same];unfold M9;rw [bN,bN]
 intro σ2 H2 hM_; refine C9 λ G_ hG_=>?_; obtain ⟨pa,rfl,e2,hp⟩:=hM_; subst hG_;have e02:=e01.trans e2;refine ⟨_,rfl,_,rfl,_,rfl,?_⟩;refine ⟨ba,xs,hs,z,kt,kg,rfl,hz,e02.seq hB,hBk.same e02,by lia,by lia,by lia,λ g hg=>⟨(hhs g hg).lt,(hhs g hg).lg⟩,λ r H3 rs e3 hr3 lr hrs=>?_⟩;refine ⟨_,rfl,(by show 1<=sizeLine; decide),λ a1 h1=>?_⟩;have s1:=e3.trans (Same.new h1 (.lst [.ref pa]));have nr1:r≠a1:=i8 hr3 h1;refine ⟨r,a1,_,_,rfl,rfl,(by rw [d0 nr1]; exact hr3),upd_same,?_,λ a2 h2=>?_⟩
 ·rw [aA,lr]; simp; lia
 have t2:=(Same.new h1 (.lst [.ref pa])).trans (Same.new h2 (.lst (rs.map V.ref++[.ref pa])));have s2:=s1.trans (Same.new h2 (.lst (rs.map V.ref++[.ref pa])));refine ⟨(by show 1<=sizeLine; decide),λ a3 h3=>?_⟩;have t3:=t2.trans (Same.new h3 (.lst [.int 0]));have s3:=s2.trans (Same.new h3 (.lst [.int 0]));refine ⟨_,rfl,ba,_,rfl,.inl ((e02.trans s3).seq hB),a3,_,_,rfl,rfl,upd_same,by lia,by rw [xl]; lia,by rw [xl,aV]; simp; lia,λ a4 h4=>?_⟩;rw [xl,aV,Q0];have t4:=t3.trans (Same.new h4 (.lst ((aI hs.length (0:Int)).map V.int)));have s4:=s3.trans (Same.new h4 (.lst ((aI hs.length (0:Int)).map V.int)));refine ⟨(by show 1<=sizeLine; decide),λ a5 h5=>?_⟩;have t5:=t4.trans (Same.new h5 (.lst [.int 1]));have s5:=s4.trans (Same.new h5 (.lst [.int 1]));have n45:a4≠a5:=i8 upd_same h5;refine ⟨a4,a5,_,_,rfl,rfl,(by rw [d0 n45]; exact upd_same),upd_same,?_,λ a6 h6=>?_⟩
 ·rw [aA,cA]; simp; lia
 have t6:=t5.trans (Same.new h6 (.lst ((aI hs.length (0:Int)).map V.int++[.int 1])));have s6:=s5.trans (Same.new h6 (.lst ((aI hs.length (0:Int)).map V.int++[.int 1])));have g3:∀ b o,upd (upd H3 a1 (.lst [.ref pa])) a2 (.lst (rs.map V.ref++[.ref pa])) b=some o->upd (upd (upd (upd (upd (upd H3 a1 (.lst [.ref pa])) a2 (.lst (rs.map V.ref++[.ref pa]))) a3 (.lst [.int 0])) a4 (.lst ((aI hs.length (0:Int)).map V.int))) a5 (.lst [.int 1])) a6 (.lst ((aI hs.length (0:Int)).map V.int++[.int 1])) b=some o :=
  (((Same.new h3 (.lst [.int 0])).trans (Same.new h4 (.lst ((aI hs.length (0:Int)).map V.int)))).trans (Same.new h5 (.lst [.int 1]))).trans (Same.new h6 (.lst ((aI hs.length (0:Int)).map V.int++[.int 1])))
 have eb:(aI hs.length (0:Int)).map V.int++[.int 1]=(Y9 hs).map V.int:=by unfold Y9; rw [bN]; rfl
 have hA:Same H (upd (upd (upd (upd (upd (upd H3 a1 (.lst [.ref pa])) a2 (.lst (rs.map V.ref++[.ref pa]))) a3 (.lst [.int 0])) a4 (.lst ((aI hs.length (0:Int)).map V.int))) a5 (.lst [.int 1])) a6 (.lst ((aI hs.length (0:Int)).map V.int++[.int 1]))):=e02.trans s6;refine ⟨ea,a2,a6,K3 z h,rs.map V.ref++[.ref pa],D7 z hs h,Y9 hs,hs.length+1,h.1.length+h.2.length+(K1 z).length,2 ^ 60,rfl,SqL.of (s6 _ _ (e2 _ _ he)),SqL.of (g3 _ _ upd_same),?_,?_,?_,?_,?_,?_,by lia,by lia,?_,b4M hh hhs hfar _,b1O _ (by lia),L.same hA,λ S H' t' aa wa O hn sz e' L' g1 g2 g4=>kT S H' t' aa wa O hn sz (λ b o hb q'=>e' b o hb (hA b o q')) L' g1 g2 g4,λ S H' c O hc hneg hno e' L'=>kN S H' c O hc hneg hno (λ b o hb q'=>e' b o hb (hA b o q')) L'⟩
 ·unfold D7
  refine Paired.app ((b1b (K:=K) lr hrs).same t6) (.cons ⟨pa,rfl,SqL.of (s6 _ _ hp)⟩ .nil)
 ·rw [<- eb]; exact SqL.of upd_same
 ·unfold D7; simp
 ·unfold Y9; simp
 ·unfold K3; simp [lN]
 ·intro r hr
  unfold D7 at hr;rcases aT.mp hr with hr | hr
  ·obtain ⟨g,hg,rfl⟩:=aK.mp hr
   unfold A5;rw [aJ,aJ,aA,(hhs g hg).lt,(hhs g hg).lg,l1,l2]
  ·rw [bH.mp hr]
   unfold M9;simp;lia
 ·intro i hi
  unfold G6 Y9;rw [aG]
  by_cases h':i<hs.length
  ·rw [bF (by simpa using h'),dI,if_pos h']; exact bO _
  ·rw [bU (by simp; lia)]
   have:i - (aI hs.length (0:Int)).length=0:=by simp; lia
   rw [this]; decide
end
section
variable {P:Program} {w:World} {K:W.Frag} {mg:Str->Option Value} {base:Heap} {f Pt d:Addr} {fd:FuncData} {n:Nat} {C:Addr}
def a2z (K:W.Frag):Sp:=λ vs H Q _=>∃ (a t:Addr) (xs ys:List Int),vs=[.ref a,.ref t]/\SqL K H a (xs.map V.int)/\SqT K H t (ys.map V.int)/\xs.length<=1000/\(∀ x∈xs,Big 4000 x)/\(∀ y∈ys,Big 4000 y)/\∀ H',Same H H'->Q (.int (bB (·*·) xs ys).sum) H'
theorem scTp:r8 ["house","sizes","amounts","bottom","takes","gives","behind_gives","for_takes","for_gives"] ["house","sizes","amounts","bottom"] (i9 E1):=⟨rfl,rfl,rfl,by decide +kernel,rfl,by decide +kernel,by decide +kernel⟩
theorem b5s:r8 ["book","number","sizes"] ["book","number","sizes"] (i9 a5w):=⟨rfl,rfl,rfl,by decide +kernel,rfl,by decide +kernel,by decide +kernel⟩
theorem scHa:r8 ["houses","house","sizes","found","top","amounts","weights","bottom"] ["houses","house","sizes"] (i9 b0k):=⟨rfl,rfl,rfl,by decide +kernel,rfl,by decide +kernel,by decide +kernel⟩
theorem scSs:r8 ["book","number","sizes","house","top","amounts","weights","bottom","mix"] ["book","number","sizes"] (i9 a6i):=⟨rfl,rfl,rfl,by decide +kernel,rfl,by decide +kernel,by decide +kernel⟩
theorem b4U:(["amount","bottom"]:List Str).Nodup:=by decide +kernel
theorem b5A:(["weight","bottom"]:List Str).Nodup:=by decide +kernel
end
end Rim
namespace Lp
section
variable {m q:Nat} {A:Nat->Nat->Int} {b c:Nat->Int} {S:Bo}
theorem Of.way (O:Of m q A b c S) {cc:Nat} (hc:cc<q) (neg:S.T m cc<0) (no:∀ i,i<m->¬ 0<S.T i cc):∃ y:Nat->Int,(∀ j,j<q->0<=y j)/\(∀ i,i<m->sumTo (λ j=>A i j*y j) q<=0)/\0<sumTo (λ j=>c j*y j) q:=by
 have K0:=(O.k _).mp (O.w.ray_ker (c:=cc) (by lia));obtain ⟨rows,goal⟩:=ker0.mp K0;have zc:ray m S cc (q+m+1)=0:=by
  rw [<- O.w.oq];exact O.w.ray_out (by lia) (by lia) (by lia)
 have zg:ray m S cc (q+m) = - S.T m cc:=by
  rw [<- O.w.im];exact O.w.ray_in (by lia) (by lia)
 have nn:∀ v,v<q+m->0<=ray m S cc v:=λ v hv=>by
  rcases O.w.all v hv with ⟨i,hi,e⟩ | ⟨j,hj,e⟩
  ·rw [<- e,O.w.ray_in (by lia) (by lia)]
   have:=no i hi;lia
  ·rw [<- e]
   by_cases hjc:j=cc
   ·subst hjc
    rw [Wf.ray_c];exact aN O.w.pos
   ·rw [O.w.ray_out (by lia) (by lia) hjc]; exact bO _
 refine ⟨ray m S cc,λ j hj=>nn j (by lia),λ i hi=>?_,by rw [<- goal,zg]; lia⟩;have r0:=rows i hi;rw [zc,bJ,dH] at r0;have n0:=nn (q+i) (by lia);lia
theorem Of.bounded (O:Of m q A b c S) {i0 l cc:Nat} (h0:i0<m) (hl:l<m) (hA:∀ j,j<q->A i0 j+A l j=c j) (hc:cc<q) (neg:S.T m cc<0) (no:∀ i,i<m->¬ 0<S.T i cc):False:=by
 obtain ⟨y,_,rows,goal⟩:=O.way hc neg no;have r0:=rows i0 h0;have rl:=rows l hl;have e:sumTo (λ j=>c j*y j) q=sumTo (λ j=>A i0 j*y j) q+sumTo (λ j=>A l j*y j) q:=by
  rw [<- O5];refine sum_congr λ j hj=>?_;rw [<- hA j hj,cD]
 lia
end
end Lp
namespace Rim
open PySem L2 Fr
section
variable {P:Program} {w:World} {K:W.Frag} {mg:Str->Option Value} {base:Heap} {f Pt d:Addr} {fd:FuncData} {n:Nat} {C:Addr}
def FrsAt (H:Hp) (ys:List V) (xs:List Int) (D:Int):Prop:=ys.length=xs.length/\∀ (i:Nat) y,ys[i]?=some y->FrT H y (low (xs.getD i 0) D)
theorem FrsAt.same {H H':Hp} {ys:List V} {xs:List Int} {D:Int} (e:Same H H') (h:FrsAt H ys xs D):FrsAt H' ys xs D:=⟨h.1,λ i y hy=>(h.2 i y hy).same e⟩
def a1O (K:W.Frag):Sp:=λ vs H Q _=>∃ (hv:V) (h:i7) (z:Str) (aa:Addr) (D:Int) (xs:List Int),vs=[hv,.str z,.ref aa,.int D]/\Szw z/\HS K H hv h/\SqL K H aa (xs.map V.int)/\xs.length=h.1.length+h.2.length+(K1 z).length/\h.1.length<=100/\h.2.length<=100 ∧
 (∀ x∈xs,Big 4000 x)/\0<D/\D<2 ^ 8000 ∧
 ∀ (t fa ga:Addr) (v:V) (H':Hp) (fts gts:List V),Same H H'->H' t=some (.tup [.ref fa,.ref ga,v])->H' fa=some (.lst fts)->FrsAt H' fts (xs.take h.1.length) D->H' ga=some (.lst gts)->FrsAt H' gts ((xs.drop h.1.length).take h.2.length) D →
  FrT H' v (low (bB (·*·) (xs.drop (h.1.length+h.2.length)) (K1 z)).sum D)->Q (.ref t) H'
noncomputable def tpT {cdv:Value} {A:Around} {outer:List Env} {s:Shared} {H:Hp} {E:XK} {f1 f2:Addr} {d1 d2:FuncData} (N:A3 mg) (G:Sg K w.params mg d) (Cl:Cal P w K mg base n "lowest" ["top","bottom"] a0W f1 d1) (Cc:SCal P w K mg base n "come_to" ["amounts","tops"] (a2z K) f2 d2)
  (hr:Room n (A.deeper (dU "told_prices" (i9 E1) s.heap.objs.size f cdv))) :
  { t:TS // PSs (J6 J7 P w K mg base ["house","sizes","amounts","bottom","takes","gives","behind_gives","for_takes","for_gives"] "told_prices" (i9 E1) f cdv A outer s H E).nox (v4 E1) t } :=
 ⟨_,j0 (E4 (pv 0) (O2 rfl (j7 (j3 (i:=4) scTp.nd rfl (aC rfl)) (j7 (j3 (i:=5) scTp.nd rfl (aC rfl)) x9))))
  (j0 (p6 (i:=6) scTp.nd rfl (aC rfl) (j5 B9 (m9 j9 rfl N.len bQ (c5 (pv 4) c7)) (m9 j9 rfl N.len bQ (c5 (pv 5) c7))))
  (r6 (P5 (i:=7) ["amount"] [3] scTp.nd rfl rfl rfl (w8 (C8 G4 (pv 2) O8 (B8 (m9 j9 rfl N.len bQ (c5 (pv 4) c7))))) (λ _ _ _ _=>j3 (i:=0) b4U rfl (aC rfl))
   (λ _ _ _ _=>m6 Cl.ok hr rfl Cl.m Cl.k Cl.b .nil u0 (c5 (pv 0) (c5 (pv 1) c7))))
  (r6 (P5 (i:=8) ["amount"] [3] scTp.nd rfl rfl rfl (w8 (C8 G4 (pv 2) (B8 (m9 j9 rfl N.len bQ (c5 (pv 4) c7))) (B8 (pv 6)))) (λ _ _ _ _=>j3 (i:=0) b4U rfl (aC rfl))
   (λ _ _ _ _=>m6 Cl.ok hr rfl Cl.m Cl.k Cl.b .nil u0 (c5 (pv 0) (c5 (pv 1) c7))))
  (j8 (v5 (O9 (c5 (pv 7) (c5 (pv 8) (c5 (m6 Cl.ok hr rfl Cl.m Cl.k Cl.b .nil u0
   (c5 (m6 Cc.ok hr rfl Cc.m Cc.k Cc.b .nil u0 (c5 (C8 G4 (pv 2) (B8 (pv 6)) O8) (c5 (m8 (a5r K w.params rfl rfl) (a1q (v:=.ref d) rfl G.m rfl) (pv 1) (λ _ _=>rfl)) c7))) (c5 (pv 3) c7))) c7)))))))))⟩
end
section
variable {P:Program} {w:World} {K:W.Frag} {mg:Str->Option Value} {base:Heap} {f Pt d:Addr} {fd:FuncData} {n:Nat} {C:Addr}
def a2x (p:Addr) (xs:List Int) (D:Int) (i:Nat) (y:V) (H:Hp):Prop:=∃ a,y=.ref a/\a≠p/\H a=some (.tup [.int (low (xs.getD i 0) D).1,.int (low (xs.getD i 0) D).2])
theorem a0P {H:Hp} {p:Addr} {ys:List V} {xs:List Int} {D:Int} (hl:ys.length=(xs.map V.int).length) (h:∀ i y,ys[i]?=some y->a2x p xs D i y H):FrsAt H ys xs D :=
 ⟨by rw [hl,aA],λ i y hy=>by obtain ⟨a,h1,_,h3⟩:=h i y hy; exact ⟨a,h1,h3⟩⟩
theorem Z1 {p:Addr} {xs:List Int} {D:Int}:∀ i y H H',a2x p xs D i y H->(∀ b o,b≠p->H b=some o->H' b=some o)->a2x p xs D i y H':=λ i y H H' ⟨a,h1,h2,h3⟩ e=>⟨a,h1,h2,e a _ h2 h3⟩
theorem a2f {H H3:Hp} {p:Addr} {ys:List V} {xs:List Int} {D:Int} {i:Nat} {x:Int} {v:V} (hp:H p=some (.lst ys)) (e:Same H H3) (hx:(xs.map V.int)[i]?=some (.int x)) (h:FrT H3 v (low x D)):a2x p xs D i v H3:=by
 obtain ⟨a,rfl,ha⟩:=h;have hg:xs.getD i 0=x:=by
  rw [aE] at hx;rw [aG]
  cases q:xs[i]? with
  | none=>rw [q] at hx; cases hx
  | some y=>rw [q] at hx; cases hx; rfl
 refine ⟨a,rfl,λ z=>?_,by rw [hg]; exact ha⟩;rw [z,e _ _ hp] at ha; cases ha
theorem a6Z (xs:List V) (a b:Nat) (h:a<=b) (hb:b<=xs.length):A7 xs (some (a:Int)) (some (b:Int))=(xs.drop a).take (b - a):=by
 unfold A7;rw [HT.sIx_nat,HT.sIx_nat,fU hb,fU (by lia)]
theorem a7V {f1 f2:Addr} {d1 d2:FuncData} (F:Fun K "told_prices" "told_prices" E1 f fd) (N:A3 mg) (G:Sg K w.params mg d) (Cl:Cal P w K mg base n "lowest" ["top","bottom"] a0W f1 d1) (Cc:SCal P w K mg base n "come_to" ["amounts","tops"] (a2z K) f2 d2) :
  FnOk P w K mg base J7 (n+1) f fd ["house","sizes","amounts","bottom"] (a1O K):=by
 refine F.ok scTp (λ vs H Q E h=>?_) (λ cdv A outer s H vs Q E hr h=>?_)
 ·obtain ⟨hv,h,z,aa,D,xs,rfl,_⟩:=h
  rfl
 obtain ⟨hv,h,z,aa,D,xs,rfl,hz,hHS,haa,hlen,k1,k2,hbig,hD,hD2,k⟩:=h;refine ⟨_,(tpT N G Cl Cc hr).2,?_⟩;obtain ⟨ha,ta,ga,rfl,p1,p2,p3⟩:=id hHS;obtain ⟨t,ht,hT⟩:=G.tt z hz;have sg:=V4 z;have lx:(xs.map V.int).length=h.1.length+h.2.length+(K1 z).length:=by rw [aA]; exact hlen
 have l1:(h.1.map V.int).length=h.1.length:=aA _;have l2:(h.2.map V.int).length=h.2.length:=aA _;have s1k:=j4 (show (1000:Nat)<=1000 from aF _);refine ⟨_,rfl,ha,_,rfl,p1,rfl,_,_,rfl,_,_,rfl,rfl,?_⟩;refine ⟨_,rfl,ta,_,rfl,.inr p2,_,rfl,ga,_,rfl,.inr p3,_,_,rfl,rfl,?_⟩;rw [l1,l2];refine ⟨λ σ' H1=>∃ (fa:Addr) (fts:List V),σ'=[some (.ref ha),some (.str z),some (.ref aa),some (.int D),some (.ref ta),some (.ref ga),some (.int ((h.1.length:Int)+(h.2.length:Int))),some (.ref fa),none]/\Same H H1/\H1 fa=some (.lst fts)/\FrsAt H1 fts (xs.take h.1.length) D,?_,?_⟩
 ·refine ⟨_,rfl,_,rfl,ta,_,rfl,.inr p2,_,rfl,aa,_,rfl,haa,λ a1 h1=>?_⟩
  rw [l1,a3j _ _ (by rw [lx]; lia),<- fZ];have s1:=Same.new h1 (.lst ((xs.take h.1.length).map V.int));refine ⟨a1,rfl,⟨_,SqL.of upd_same⟩,λ l hl=>?_⟩;refine D3 (t8 (SqL.of upd_same)) hl (by rw [aA,bX]; lia) (a2x l (xs.take h.1.length) D) Z1 (λ i x H2 ys N' hx e hl2 hN=>?_) (λ ys H2 e hl2 len pr=>?_)
  ·obtain ⟨x',rfl,_⟩:=K9 hx
   exact ⟨Wk.set (by decide),_,rfl,_,rfl,x',D,rfl,hD,hD2,λ v H3 e3 hv=>hN _ _ e3 (a2f hl2 e3 hx hv)⟩
  ·exact ⟨l,ys,rfl,s1.trans e,hl2,a0P len pr⟩
 intro σ1 H1 hM_; refine C9 λ G_ hG_=>?_; obtain ⟨fa,fts,rfl,e1,hfa,hft⟩:=hM_; subst hG_;refine ⟨λ σ' H2=>∃ (ga':Addr) (gts:List V),σ'=[some (.ref ha),some (.str z),some (.ref aa),some (.int D),some (.ref ta),some (.ref ga),some (.int ((h.1.length:Int)+(h.2.length:Int))),some (.ref fa),some (.ref ga')]/\Same H1 H2/\H2 ga'=some (.lst gts)/\FrsAt H2 gts ((xs.drop h.1.length).take h.2.length) D,?_,?_⟩
 ·refine ⟨_,rfl,_,rfl,ta,_,rfl,.inr (e1.tseq p2),_,rfl,_,rfl,_,rfl,aa,_,rfl,e1.seq haa,λ a1 h1=>?_⟩
  have ec:A7 (xs.map V.int) (some (((h.1.map V.int).length:Nat):Int)) (some ((h.1.length:Int)+(h.2.length:Int)))=((xs.drop h.1.length).take h.2.length).map V.int:=by
   have:=a6Z (xs.map V.int) h.1.length (h.1.length+h.2.length) (by lia) (by rw [lx]; lia);rw [l1,show ((h.1.length:Int)+(h.2.length:Int))=((h.1.length+h.2.length:Nat):Int) by lia,this,eN,<- iE,<- fZ]
  rw [ec];have s1:=Same.new h1 (.lst (((xs.drop h.1.length).take h.2.length).map V.int));refine ⟨a1,rfl,⟨_,SqL.of upd_same⟩,λ l hl=>?_⟩;refine D3 (t8 (SqL.of upd_same)) hl (by rw [aA,bX]; lia) (a2x l ((xs.drop h.1.length).take h.2.length) D) Z1 (λ i x H2 ys N' hx e hl2 hN=>?_) (λ ys H2 e hl2 len pr=>?_)
  ·obtain ⟨x',rfl,_⟩:=K9 hx
   exact ⟨Wk.set (by decide),_,rfl,_,rfl,x',D,rfl,hD,hD2,λ v H3 e3 hv=>hN _ _ e3 (a2f hl2 e3 hx hv)⟩
  ·exact ⟨l,ys,rfl,s1.trans e,hl2,a0P len pr⟩
 intro σ2 H2 hM_; refine C9 λ G_ hG_=>?_; obtain ⟨ga',gts,rfl,e2,hga,hgt⟩:=hM_; subst hG_;have e02:=e1.trans e2;refine ⟨_,rfl,_,rfl,_,rfl,_,rfl,_,rfl,aa,_,rfl,e02.seq haa,λ a1 h1=>?_⟩;have ec:A7 (xs.map V.int) (some ((h.1.length:Int)+(h.2.length:Int))) none=(xs.drop (h.1.length+h.2.length)).map V.int:=by
  have:=a4S (xs.map V.int) (h.1.length+h.2.length) (by rw [lx]; lia);rw [show ((h.1.length:Int)+(h.2.length:Int))=((h.1.length+h.2.length:Nat):Int) by lia,this,<- iE]
 rw [ec];have s1:=Same.new h1 (.lst ((xs.drop (h.1.length+h.2.length)).map V.int));refine ⟨_,rfl,d,z,t,rfl,rfl,G.k,ht,a1,t,xs.drop (h.1.length+h.2.length),K1 z,rfl,SqL.of upd_same,hT _,by rw [dL]; lia,λ x hx=>hbig x (fL hx),λ y hy=>?_,λ H3 e3=>?_⟩
 ·have:=a0p z y hy
  exact eR this (iG (by decide) (by decide))
 refine ⟨_,rfl,_,D,rfl,hD,hD2,λ v H4 e4 hv=>?_⟩;have e24:=(s1.trans e3).trans e4;refine ⟨(by show 3<=sizeLine; decide),λ tt htt=>?_⟩;have e5:=Same.new htt (.tup [.ref fa,.ref ga',v]);have eF:=e24.trans e5;refine k tt fa ga' v _ fts gts (e02.trans eF) upd_same (eF _ _ (e2 _ _ hfa)) ((hft.same e2).same eF) (eF _ _ hga) (hgt.same eF) (hv.same e5)
end
theorem SqT.same1 {K:W.Frag} {P:Addr} {pos:Pos} {qual:Str} {H H':Hp} {a:Addr} {xs:List V} (T:LamTab P pos qual H) (e:Same1 P H H') (h:SqT K H a xs):SqT K H' a xs:=by
 have ne:∀ o,H a=some o->(∀ ps,o≠.tbl ps)->a≠P:=λ o q n z=>by
  subst z;rcases T with t | ⟨c,t,_⟩
  ·rw [q] at t; exact n _ (aM t)
  ·rw [q] at t; exact n _ (aM t)
 rcases h with (h | ⟨o,h⟩) | h
 ·exact .inl (.inl (e _ _ (ne _ h λ _=>nofun) h))
 ·exact .inl (.inr ⟨o,e _ _ (ne _ h λ _=>nofun) h⟩)
 ·exact .inr h
theorem HS.same1 {K:W.Frag} {Pt:Addr} {H H':Hp} {v:V} {h:i7} (T:LT Pt H) (e:Same1 Pt H H') (x:HS K H v h):HS K H' v h:=by
 obtain ⟨a,t,g,h0,h1,h2,h3⟩:=x;exact ⟨a,t,g,h0,SqT.same1 T e h1,SqT.same1 T e h2,SqT.same1 T e h3⟩
theorem Bk.same1 {K:W.Frag} {Pt:Addr} {H H':Hp} {vs:List V} {hs:List i7} (T:LT Pt H) (e:Same1 Pt H H') (x:Bk K H vs hs):Bk K H' vs hs:=Paired.imp' (λ _ _ r=>HS.same1 T e r) x
theorem C3 {l r:List Int} (j:Nat):(l++r).getD j 0=if j<l.length then l.getD j 0 else r.getD (j - l.length) 0:=by
 rw [aG,aG,aG]
 by_cases h:j<l.length
 ·rw [if_pos h,bF h]
 ·rw [if_neg h,bU (by lia)]
theorem Q9 (k j:Nat):(aI k (0:Int)).getD j 0=0:=by
 rw [aG,dI]
 split <;> rfl
theorem a5b (l:List Int) (j:Nat):(l.map λ x=>-x).getD j 0 = - l.getD j 0:=by
 rw [aG,aG,aE]
 cases l[j]? <;> rfl
theorem a5f {z:Str} {hs:List i7} {h:i7} {i:Nat} (hi:hs[i]?=some h) (j:Nat):S6 (D7 z hs h) i j+S6 (D7 z hs h) hs.length j=G6 (K3 z h) j:=by
 have hil:i<hs.length:=(aY.mp hi).1;have e1:(D7 z hs h)[i]?=some (A5 z h):=by
  unfold D7;rw [bF (by rw [aA]; exact hil),aE,hi]; rfl
 have e2:(D7 z hs h)[hs.length]?=some (M9 z h):=by
  unfold D7;rw [bU (by rw [aA]; exact aF _),aA,eD]; rfl
 rw [V9 e1,V9 e2];unfold G6 A5 M9 K3;simp only [C3,Q9,a5b,aJ,aA,cA]
 by_cases h1:j<h.1.length
 ·rw [if_pos (by lia),if_pos h1,if_pos (by lia),if_pos h1,if_pos (by lia),if_pos h1]; lia
 ·by_cases h2:j<h.1.length+h.2.length
  ·rw [if_pos h2,if_neg h1,if_pos h2,if_neg h1,if_pos h2,if_neg h1,dH]
  ·rw [if_neg h2,if_neg h2,if_neg h2,dH]
section
variable {P:Program} {w:World} {K:W.Frag} {mg:Str->Option Value} {base:Heap} {f Pt d CN:Addr} {fd:FuncData} {n:Nat} {C:Addr}
structure a5X (P:Program) (w:World) (K:W.Frag) (mg:Str->Option Value) (base:Heap) (n:Nat) (x:Str) (ps:List Str) (sp:Sp) (fa:Addr) (d:FuncData):Prop where
 ok:FnOk P w K mg base (CX1 P w) n fa d ps sp
 b:Binds K d ps []
 k:W.keepIn K (.ref fa)=true
 m:mg x=some (.ref fa)
abbrev mE (hs:List i7):Nat:=hs.length+1
abbrev qE (z:Str) (h:i7):Nat:=h.1.length+h.2.length+(K1 z).length
structure P4 (K:W.Frag) (H:Hp) (ba:Addr) (xs:List V) (hs:List i7) (far:Int) (kt kg:Nat):Prop where
 l:SqL K H ba xs
 b:Bk K H xs hs
 g:∀ h∈hs,HG far kt kg h
 far:far<=2 ^ 60
 few:hs.length<=16
 t:kt<=20
 k:kg<=20
def Best (z:Str) (hs:List i7) (h:i7) (S:Lp.Bo):Prop:=OfE z hs h S/\(∀ j,j<qE z h->¬ S.T (mE hs) j<0)/\Sz 4000 (mE hs) (qE z h) S
def a8u (H:Hp) (v:V) (z:Str) (h:i7) (xs:List Int) (D:Int):Prop:=∃ (t fa ga:Addr) (u:V) (fts gts:List V),v=.ref t/\H t=some (.tup [.ref fa,.ref ga,u])/\H fa=some (.lst fts)/\FrsAt H fts (xs.take h.1.length) D/\H ga=some (.lst gts)/\FrsAt H gts ((xs.drop h.1.length).take h.2.length) D ∧
 FrT H u (low (bB (·*·) (xs.drop (h.1.length+h.2.length)) (K1 z)).sum D)
def a6V (K:W.Frag) (CN Pt:Addr):Sp:=λ vs H Q E=>∃ (ba:Addr) (xs:List V) (hs:List i7) (number:Int) (z:Str) (far:Int) (kt kg:Nat),vs=[.ref ba,.int number,.str z]/\Szw z/\P4 K H ba xs hs far kt kg/\number.natAbs.log2<1920/\LT Pt H ∧
 (∀ (i:Nat) (h:i7) (S:Lp.Bo) (H':Hp) (t ml:Addr) (u v:V) (mts:List V),number=(i:Int)->hs[i]?=some h->Best z hs h S->Same1 Pt H H'->LT Pt H'->H' t=some (.tup [u,.ref ml,v])->FrT H' u (low (S.T (mE hs) (qE z h)) S.d)->H' ml=some (.lst mts)->H ml=none →
  FrsAt H' mts ((D0 (mE hs) (qE z h) S).take hs.length) S.d->a8u H' v z h (p7 (mE hs) (qE z h) S) S.d->Q (.ref t) H')/\(¬ a1m xs.length number->E (.ref CN) none H)
def a3u (K:W.Frag) (CN Pt:Addr):Sp:=λ vs H Q E=>∃ (ba:Addr) (xs:List V) (hs:List i7) (number:Int) (z:Str) (far:Int) (kt kg:Nat),vs=[.ref ba,.int number,.str z]/\Szw z/\P4 K H ba xs hs far kt kg/\number.natAbs.log2<1920/\LT Pt H ∧
 (∀ (i:Nat) (h:i7) (S:Lp.Bo) (H':Hp) (u:V),number=(i:Int)->hs[i]?=some h->Best z hs h S->Same1 Pt H H'->LT Pt H'->FrT H' u (low (S.T (mE hs) (qE z h)) S.d)->Q u H')/\(¬ a1m xs.length number->E (.ref CN) none H)
theorem a3X {z:Str} {hs:List i7} {h:i7} {S:Lp.Bo} (B:Best z hs h S):0<S.d/\S.d<2 ^ 8000:=by
 refine ⟨B.1.w.pos,?_⟩;have h1:S.d.natAbs<2 ^ 4000:=B.2.2.2;have h2:(2:Nat) ^ 4000<=2 ^ 8000:=hX (by decide) (by decide);have h3:S.d=(S.d.natAbs:Int):=by have:=B.1.w.pos; lia
 rw [h3]
 exact_mod_cast aZ h1 h2
theorem a7n {m q:Nat} {A:Nat->Nat->Int} {b c:Nat->Int} {S:Lp.Bo} (O:Lp.Of m q A b c S) (sz:Sz 4000 m q S) {v:Nat} (hv:v<q):Big 4000 (Lp.valIn m S q v):=by
 have hv':v<q+m:=by lia
 rcases O.w.all v hv' with ⟨i,hi,e⟩ | ⟨j,hj,e⟩
 ·have:Lp.valIn m S q v=S.T i q:=by
   unfold Lp.valIn;rw [Lp.sum_one hi λ k hk hn=>if_neg λ z=>hn (O.w.ii k i hk hi (z.trans e.symm)),if_pos e]
  rw [this];exact sz.1 i q (by lia) (by lia)
 ·have:Lp.valIn m S q v=0:=Lp.sum_zero λ k hk=>if_neg λ z=>O.w.io k j hk hj (z.trans e.symm)
  rw [this]
  show (0:Int).natAbs<2 ^ 4000
  exact jK (by decide)
def a9Z (K:W.Frag) (Pt:Addr):Sp:=λ vs H Q _=>∃ (ba:Addr) (hv:V) (xs:List V) (hs:List i7) (h:i7) (z:Str) (far:Int) (kt kg:Nat),vs=[.ref ba,hv,.str z]/\Szw z/\P4 K H ba xs hs far kt kg/\HS K H hv h/\HG far kt kg h/\LT Pt H ∧
 (∀ (S:Lp.Bo) (H':Hp) (u:V),Best z hs h S->Same1 Pt H H'->LT Pt H'->FrT H' u (low (S.T (mE hs) (qE z h)) S.d)->Q u H') ∧
 ∀ (S:Lp.Bo) (H':Hp) (c:Nat),OfE z hs h S->c<qE z h->S.T (mE hs) c<0->(∀ i,i<mE hs->¬ 0<S.T i c)->Same1 Pt H H'->LT Pt H'->Q .non H'
theorem b1q {f2 f3:Addr} {d2 d3:FuncData} (F:Fun K "held_against" "held_against" b0k f fd) (Ce:SCal P w K mg base n "greatest_earned" ["houses","house","sizes"] (a1Y K Pt) f2 d2)
  (Cl:Cal P w K mg base n "lowest" ["top","bottom"] a0W f3 d3):FnOk P w K mg base J7 (n+1) f fd ["houses","house","sizes"] (a9Z K Pt):=by
 refine F.ok scHa (λ vs H Q E h=>?_) (λ cdv A outer s H vs Q E hr h=>?_)
 ·obtain ⟨ba,hv,xs,hs,h,z,far,kt,kg,rfl,_⟩:=h
  rfl
 obtain ⟨ba,hv,xs,hs,h,z,far,kt,kg,rfl,hz,B,hH,gh,L,kG,kN⟩:=h;refine ⟨_,j0 (p6 (i:=3) scHa.nd rfl (aC rfl) (m6 Ce.ok hr rfl Ce.m Ce.k Ce.b .nil u0 (c5 (pv 0) (c5 (pv 1) (c5 (pv 2) c7)))))
  (j0 (E2 (r9 a5V (pv 3) R0 (t9 _)) (j8 (v5 R0)) y6)
  (j0 (E4 (pv 3) (O2 rfl (j7 (j3 (i:=4) scHa.nd rfl (aC rfl)) (j7 (j3 (i:=5) scHa.nd rfl (aC rfl)) (j7 (j3 (i:=6) scHa.nd rfl (aC rfl)) (j7 (j3 (i:=7) scHa.nd rfl (aC rfl)) x9))))))
  (j8 (v5 (m6 Cl.ok hr rfl Cl.m Cl.k Cl.b .nil u0 (c5 (pv 4) (c5 (pv 7) c7))))))),?_⟩
 refine ⟨_,rfl,_,rfl,_,rfl,ba,hv,xs,hs,h,z,far,kt,kg,mE hs,qE z h,rfl,hz,B.l,B.b,hH,gh,B.g,B.far,B.few,B.t,B.k,rfl,rfl,L,λ S H' t aa wa O hn sz e' L' g1 g2 g3=>?_,λ S H' c O hc hneg hno e' L'=>?_⟩
 ·have Bs:Best z hs h S:=⟨O,hn,sz⟩
  obtain ⟨b1,b2⟩:=a3X Bs;refine ⟨_,rfl,rfl,_,rfl,a3o ?_⟩;refine ⟨_,rfl,t,_,rfl,SqT.of g1,rfl,_,_,rfl,_,_,rfl,_,_,rfl,_,_,rfl,rfl,?_⟩;exact ⟨_,rfl,_,rfl,_,_,rfl,b1,b2,λ u H2 e2 hu=>kG S H2 u Bs (λ b o hb q'=>e2 _ _ (e' b o hb q')) (L'.same e2) hu⟩
 ·refine ⟨_,rfl,rfl,_,rfl,b1B ?_⟩
  exact kN S H' c O hc hneg hno e' L'
theorem a9f {f1 f2:Addr} {d1 d2:FuncData} (F:Fun K "share" "share" a5w f fd) (Ch:a5X P w K mg base n "house_of" ["book","number"] (a5j K CN) f1 d1) (Ce:SCal P w K mg base n "held_against" ["houses","house","sizes"] (a9Z K Pt) f2 d2):FnOk P w K mg base (CX1 P w) (n+1) f fd ["book","number","sizes"] (a3u K CN Pt):=by
 refine F.ok1 b5s (λ vs H Q E h=>?_) (λ cdv A outer s H vs Q E hr h=>?_)
 ·obtain ⟨ba,xs,hs,number,z,far,kt,kg,rfl,_⟩:=h
  rfl
 obtain ⟨ba,xs,hs,number,z,far,kt,kg,rfl,hz,B,lm,L,kG,kE⟩:=h;refine ⟨_,j8 (v5 (m6 Ce.ok hr rfl Ce.m Ce.k Ce.b .nil u0 (c5 (pv 0) (c5 (m6 Ch.ok hr rfl Ch.m Ch.k Ch.b .nil b1X (c5 (pv 0) (c5 (pv 1) c7))) (c5 (pv 2) c7))))),?_⟩;refine ⟨_,rfl,_,rfl,_,rfl,ba,xs,number,rfl,B.l,lm,λ i hv hi hx=>?_,kE⟩;obtain ⟨h,hh,hH⟩:=Paired.at B.b hx;have gh:=B.g h (aU hh);refine ⟨_,rfl,ba,hv,xs,hs,h,z,far,kt,kg,rfl,hz,B,hH,gh,L,λ S H' u Bs e' L' hu=>kG i h S H' u hi hh Bs e' L' hu,λ S H' c O hc hneg hno e' L'=>(O.bounded (i0:=i) (l:=hs.length) (by have:=(aY.mp hh).1; lia) (by lia) (λ j _=>a5f hh j) hc hneg hno).elim⟩
theorem a8U {f1 f2 f3 f4:Addr} {d1 d2 d3 d4:FuncData} (F:Fun K "share_shown" "share_shown" a6i f fd) (Ch:a5X P w K mg base n "house_of" ["book","number"] (a5j K CN) f1 d1) (Ce:SCal P w K mg base n "greatest_earned" ["houses","house","sizes"] (a1Y K Pt) f2 d2)
  (Cl:Cal P w K mg base n "lowest" ["top","bottom"] a0W f3 d3) (Cp:SCal P w K mg base n "told_prices" ["house","sizes","amounts","bottom"] (a1O K) f4 d4):FnOk P w K mg base (CX1 P w) (n+1) f fd ["book","number","sizes"] (a6V K CN Pt):=by
 refine F.ok1 scSs (λ vs H Q E h=>?_) (λ cdv A outer s H vs Q E hr h=>?_)
 ·obtain ⟨ba,xs,hs,number,z,far,kt,kg,rfl,_⟩:=h
  rfl
 obtain ⟨ba,xs,hs,number,z,far,kt,kg,rfl,hz,B,lm,L,kG,kE⟩:=h;refine ⟨_,j0 (p6 (i:=3) scSs.nd rfl (aC rfl) (m6 Ch.ok hr rfl Ch.m Ch.k Ch.b .nil b1X (c5 (pv 0) (c5 (pv 1) c7))))
  (PSs.nox (j0 (E4 (m6 Ce.ok hr rfl Ce.m Ce.k Ce.b .nil u0 (c5 (pv 0) (c5 (pv 3) (c5 (pv 2) c7))))
   (O2 rfl (j7 (j3 (i:=4) scSs.nd rfl (aC rfl)) (j7 (j3 (i:=5) scSs.nd rfl (aC rfl)) (j7 (j3 (i:=6) scSs.nd rfl (aC rfl)) (j7 (j3 (i:=7) scSs.nd rfl (cI rfl)) x9))))))
  (j0 (P5 (i:=8) ["weight"] [7] scSs.nd rfl rfl rfl (w8 (C8 G4 (pv 6) O8 (B8 (K2 D6 h8)))) (λ _ _ _ _=>j3 (i:=0) b5A rfl (aC rfl))
   (λ _ _ _ _=>m6 Cl.ok hr rfl Cl.m Cl.k Cl.b .nil u0 (c5 (pv 0) (c5 (pv 1) c7))))
  (j8 (v5 (O9 (c5 (m6 Cl.ok hr rfl Cl.m Cl.k Cl.b .nil u0 (c5 (pv 4) (c5 (pv 7) c7))) (c5 (pv 8)
   (c5 (m6 Cp.ok hr rfl Cp.m Cp.k Cp.b .nil u0 (c5 (pv 3) (c5 (pv 2) (c5 (pv 5) (c5 (pv 7) c7))))) c7))))))))),?_⟩
 refine ⟨_,rfl,_,rfl,ba,xs,number,rfl,B.l,lm,λ i hv hi hx=>?_,kE⟩;obtain ⟨h,hh,hH⟩:=Paired.at B.b hx;have gh:=B.g h (aU hh);refine ⟨_,rfl,_,rfl,_,rfl,ba,hv,xs,hs,h,z,far,kt,kg,mE hs,qE z h,rfl,hz,B.l,B.b,hH,gh,B.g,B.far,B.few,B.t,B.k,rfl,rfl,L,λ S H' t aa wa O hn sz e' L' g1 g2 g3=>?_,λ S H' c O hc hneg hno e' L'=>(O.bounded (i0:=i) (l:=hs.length) (by have:=(aY.mp hh).1; lia) (by lia) (λ j _=>a5f hh j) hc hneg hno).elim⟩;have Bs:Best z hs h S:=⟨O,hn,sz⟩;obtain ⟨b1,b2⟩:=a3X Bs;have sg:=V4 z;have few:=B.few;have k20:=B.t;have k21:=B.k;have lt:=gh.lt;have lg:=gh.lg;have s1k:=j4 (show (1000:Nat)<=1000 from aF _);refine ⟨t,_,rfl,SqT.of g1,rfl,_,_,rfl,_,_,rfl,_,_,rfl,_,_,rfl,rfl,?_⟩;refine ⟨_,rfl,_,rfl,_,rfl,wa,_,rfl,SqL.of g3,λ a1 h1=>?_⟩;have lw:(D0 (mE hs) (qE z h) S).length=hs.length+1:=by unfold D0; simp
 have ec:A7 ((D0 (mE hs) (qE z h) S).map V.int) none (some (-1))=((D0 (mE hs) (qE z h) S).take hs.length).map V.int:=by
  unfold A7;rw [HT.sIx_none,gZ,<- fZ]
  congr 1
  have:HT.sIx ((D0 (mE hs) (qE z h) S).map V.int).length ((D0 (mE hs) (qE z h) S).map V.int).length (some (-1))=hs.length:=by
   show (if (-1:Int)<0 then ((-1:Int)+(((D0 (mE hs) (qE z h) S).map V.int).length:Int)).toNat else min (-1:Int).toNat ((D0 (mE hs) (qE z h) S).map V.int).length)=hs.length
   rw [if_pos (by decide),aA,lw]; lia
  rw [this]; rfl
 rw [ec];have s1:=Same.new h1 (.lst (((D0 (mE hs) (qE z h) S).take hs.length).map V.int));refine ⟨a1,rfl,⟨_,SqL.of upd_same⟩,λ l hl=>?_⟩;refine D3 (t8 (SqL.of upd_same)) hl (by rw [aA,bX]; lia) (a2x l ((D0 (mE hs) (qE z h) S).take hs.length) S.d) Z1 (λ i x H2 ys N' hx e hl2 hN=>?_) (λ ys H2 e hl2 len pr=>?_)
 ·obtain ⟨x',rfl,_⟩:=K9 hx
  exact ⟨Wk.set (by decide),_,rfl,_,rfl,x',S.d,rfl,b1,b2,λ v H3 e3 hv=>hN _ _ e3 (a2f hl2 e3 hx hv)⟩
 have e2:=s1.trans e;have hf:=a0P len pr;refine ⟨_,rfl,_,rfl,_,S.d,rfl,b1,b2,λ u H3 e3 hu=>?_⟩;refine ⟨_,rfl,_,rfl,_,rfl,_,rfl,_,rfl,?_⟩;have e23:=e2.trans e3;have hH3:HS K H3 hv h:=(HS.same1 L e' hH).same e23;have la:(p7 (mE hs) (qE z h) S).length=h.1.length+h.2.length+(K1 z).length:=by unfold p7; simp
 refine ⟨hv,h,z,aa,S.d,p7 (mE hs) (qE z h) S,rfl,hz,hH3,SqL.of (e23 _ _ g2),la,by lia,by lia,λ x hx=>?_,b1,b2,λ pt fa ga v H4 fts gts e4 q1 q2 q3 q4 q5 q6=>?_⟩
 ·unfold p7 at hx
  obtain ⟨v,hv',rfl⟩:=aK.mp hx;exact a7n O sz (dZ.mp hv')
 refine ⟨(by show 3<=sizeLine; decide),λ tt htt=>?_⟩;have e5:=Same.new htt (.tup [u,.ref l,.ref pt]);have e45:=e4.trans e5;have hml:H l=none:=by
  cases q:H l with
  | none=>rfl
  | some o =>
   exfalso
   by_cases hlp:l=Pt
   ·rw [hlp] at hl
    rcases L' with w' | ⟨_,w',_⟩
    ·rw [s1 _ _ w'] at hl; cases hl
    ·rw [s1 _ _ w'] at hl; cases hl
   ·rw [s1 _ _ (e' l o hlp q)] at hl; cases hl
 exact kG i h S _ tt l u (.ref pt) ys hi hh Bs (λ b o hb q'=>e45 _ _ (e23 _ _ (e' b o hb q'))) ((L'.same e23).same e45) upd_same (hu.same e45) (e45 _ _ (e3 _ _ hl2)) hml ((hf.same e3).same e45)
  ⟨pt,fa,ga,v,fts,gts,rfl,e5 _ _ q1,e5 _ _ q2,q3.same e5,e5 _ _ q4,q5.same e5,q6.same e5⟩
end
end Rim
namespace L2
open PySem
theorem Big.mono {n m:Nat} {i:Int} (h:Big n i) (hn:n<=m):Big m i:=Rim.Big.mono h hn
theorem Big.mul {n m:Nat} {i j:Int} (h:Big n i) (k:Big m j):Big (n+m) (i*j):=Rim.Big.mul h k
theorem Big.add {n:Nat} {i j:Int} (h:Big n i) (k:Big n j):Big (n+1) (i+j):=Rim.Big.add h k
end L2
namespace Fr
theorem a2k {a b:Int} (ha:0<a) (hb:0<b):a<=a*b:=by
 have:=eW (show (1:Int)<=b by lia) (aN ha);rw [dD] at this;exact this
theorem a9L {b f D:Int} (hb:0<b) (hf:0<f) (h1:b∣D) (h2:f∣D):b / gI b f*f∣D:=by
 obtain ⟨m,rfl⟩:=jL (aN hb);obtain ⟨n,rfl⟩:=jL (aN hf);have e:(m:Int) / gI m n*n=((jM m n:Nat):Int):=by
  have e1:jM m n=m / Nat.gcd m n*n:=by
   unfold jM;rw [gP m n,Nat.mul_div_assoc n (Nat.gcd_dvd_left m n),gP]
  rw [e1];unfold gI;rw [Int.natCast_mul,Int.natCast_ediv];rfl
 rw [e,jN];exact Nat.lcm_dvd (jN.mp h1) (jN.mp h2)
theorem a6P {x D:Int} (hD:0<D):(low x D).2∣D:=⟨gI x D,by rw [aR]; exact (G9 (t:=x) hD).2⟩
theorem a5H {t b:Int} (hb:0<b):(low t b).2<=b:=fG hb (a6P hb)
end Fr
namespace Rim
open PySem L2 Fr
theorem a3q {t b:Int} {n:Nat} (hb:0<b) (h:Big n t):Big n (low t b).1:=by
 obtain ⟨h1,_⟩:=G9 (t:=t) hb;have hg:=S9 (a:=t) hb;unfold Big at *;have e:t.natAbs=(gI t b).natAbs*(low t b).1.natAbs:=by rw [<- fR,<- h1]
 have:1<=(gI t b).natAbs:=by lia
 have:=iH (low t b).1.natAbs this;lia
section
variable {P:Program} {w:World} {K:W.Frag} {mg:Str->Option Value} {base:Heap} {f:Addr} {fd:FuncData} {n:Nat}
def b4D (K:W.Frag) (H:Hp) (ys:List V) (xs:List Int) (D:Int):Prop:=ys.length=xs.length/\∀ (i:Nat) y,ys[i]?=some y->FrV K H y (low (xs.getD i 0) D)
theorem FrsAt.v {H:Hp} {ys:List V} {xs:List Int} {D:Int} (h:FrsAt H ys xs D):b4D K H ys xs D:=⟨h.1,λ i y hy=>(h.2 i y hy).v⟩
end
theorem a5R {a b c:Int} (hc:0<c):a*c<b*c ↔ a<b:=⟨λ h=>Int.lt_of_mul_lt_mul_right h (aN hc),λ h=>Int.mul_lt_mul_of_pos_right h hc⟩
theorem a1N {a b D E:Int} (hD:0<D) (hE:0<E):(low a D).1*(low b E).2<(low b E).1*(low a D).2 ↔ a*E<b*D:=by
 obtain ⟨a1,a2⟩:=G9 (t:=a) hD;obtain ⟨b1,b2⟩:=G9 (t:=b) hE;have ga:=S9 (a:=a) hD;have gb:=S9 (a:=b) hE;have hc:0<gI a D*gI b E:=dR ga gb;rw [<- a5R hc];have e1:(low a D).1*(low b E).2*(gI a D*gI b E)=a*E:=by
  rw [aR (gI a D)]
  calc (low a D).1*(low b E).2*(gI b E*gI a D)=(gI a D*(low a D).1)*(gI b E*(low b E).2):=by ac_rfl
   _=a*E:=by rw [<- a1,<- b2]
 have e2:(low b E).1*(low a D).2*(gI a D*gI b E)=b*D:=by
  calc (low b E).1*(low a D).2*(gI a D*gI b E)=(gI b E*(low b E).1)*(gI a D*(low a D).2):=by ac_rfl
   _=b*D:=by rw [<- b1,<- a2]
 rw [e1,e2]
theorem b2T {x D:Int} (hD:0<D) (hx:0<=x):0<=(low x D).1:=by
 obtain ⟨h1,_⟩:=G9 (t:=x) hD;have hg:=S9 (a:=x) hD
 by_cases h:0<=(low x D).1
 ·exact h
 ·have:gI x D*(low x D).1<0:=Int.mul_neg_of_pos_of_neg hg (by lia)
  lia
section
variable {P:Program} {w:World} {K:W.Frag} {mg:Str->Option Value} {base:Heap} {f:Addr} {fd:FuncData} {n:Nat}
def a1T (z:Str) (s D:Int):Prop:=((z="one"\/z="less")->s<=D)/\((z="one"\/z="more")->D<=s)
theorem a1t:∀ {ws:List Int} {m:Nat},(∀ x∈ws,Big m x)->ws.length<=200->Big (m+200) ws.sum:=λ {ws m} h hl=>by
 have key:∀ l:List Int,(∀ x∈l,Big m x)->l.sum.natAbs<=l.length*2 ^ m:=λ l=>by
  induction l with
  | nil=>intro _; exact bW _
  | cons x r ih =>
   intro h;have h1:x.natAbs<2 ^ m:=h x cJ;have h2:=ih λ y hy=>h y (bL _ hy);have h3:=lM x r.sum;rw [bC,cV,gO];lia
 have h1:=key ws h;have h2:ws.length*2 ^ m<=200*2 ^ m:=iH _ hl;have h3:200*2 ^ m<2 ^ (m+200):=by
  rw [lL,gP];exact Nat.mul_lt_mul_of_pos_left (by decide) (jK (by decide))
 exact eR (bA h1 h2) h3
end
def col (rows:List (List Int)) (i:Nat):List Int:=rows.map λ r=>r.getD i 0
section
variable {P:Program} {w:World} {K:W.Frag} {mg:Str->Option Value} {base:Heap} {f g:Addr} {fd gd:FuncData} {n:Nat}
def D4 (j:Nat) (h:i7):List Int:=if j=0 then h.1 else h.2
end
end Rim
namespace L2
open PySem PySem.Spec PyProof.Rows
section
variable {xs ys:List V} {K:W.Frag} {l1 l2:Addr} {σ:St}
end
end L2
namespace Rim
open PySem L2 Fr
section
variable {P:Program} {w:World} {K:W.Frag} {mg:Str->Option Value} {base:Heap} {f:Addr} {fd:FuncData} {n:Nat}
def D9 (hs:List i7) (ws:List Int) (j i:Nat):Int:=(bB (·*·) (col (hs.map (D4 j)) i) ws).sum
end
theorem a2a {a b:Nat}:∀ {ns ws:List Int},(∀ x∈ns,Big a x)->(∀ x∈ws,Big b x)->∀ x∈List.zipWith (·*·) ns ws,Big (a+b) x
 | [],_,_,_,x,hx=>by simp at hx
 | _::_,[],_,_,x,hx=>by simp at hx
 | n::ns,w::ws,h1,h2,x,hx=>by
  rw [cN] at hx;rcases aL.mp hx with e | e
  ·rw [e]; exact (h1 n cJ).mul (h2 w cJ)
  ·exact a2a (λ y hy=>h1 y (bL _ hy)) (λ y hy=>h2 y (bL _ hy)) x e
theorem a2i {far:Int} {kt kg:Nat} {h:i7} (g:HG far kt kg h) (hf:far<=2 ^ 60) (j:Nat):∀ x∈D4 j h,Big 100 x:=λ x hx=>by
 have:0<=x/\x<=far:=by
  unfold D4 at hx
  by_cases h0:j=0
  ·rw [if_pos h0] at hx; have:=g.t x hx; lia
  ·rw [if_neg h0] at hx; exact g.g x hx
 exact (a1u (n:=61) this.1 (by lia)).mono (by decide)
section
variable {P:Program} {w:World} {K:W.Frag} {mg:Str->Option Value} {base:Heap} {f:Addr} {fd:FuncData} {n:Nat}
end
def PrA (H:Hp) (t:Addr) (pt pg:List Int) (ps D:Int):Prop:=∃ (fa ga:Addr) (u:V) (fts gts:List V),H t=some (.tup [.ref fa,.ref ga,u])/\H fa=some (.lst fts)/\FrsAt H fts pt D/\H ga=some (.lst gts)/\FrsAt H gts pg D/\FrT H u (low ps D)
theorem b4F {α:Type} (a b c:α):S8 [a,b,c] 2=some c:=v8 (j:=2) rfl
theorem FrsAt.snoc {H:Hp} {ys:List V} {xs:List Int} {D x:Int} {y:V} (h:FrsAt H ys xs D) (hy:FrT H y (low x D)):FrsAt H (ys++[y]) (xs++[x]) D:=by
 refine ⟨by simp [h.1],λ i u hu=>?_⟩;rw [C3]
 by_cases hi:i<ys.length
 ·rw [bF hi] at hu
  rw [if_pos (by rw [<- h.1]; exact hi)];exact h.2 i u hu
 ·rw [bU (by lia)] at hu
  have hi0:i - ys.length=0:=by
   cases z:i - ys.length with
   | zero=>rfl
   | succ k=>rw [z] at hu; simp at hu
  rw [hi0] at hu;have:y=u:=by simpa using hu
  subst this;rw [if_neg (by rw [<- h.1]; exact hi),<- h.1,hi0];exact hy
theorem a4b:∀ {xs ys:List Int} {a b:Int},xs.length=ys.length->(bB (·*·) (xs++[a]) (ys++[b])).sum=(bB (·*·) xs ys).sum+a*b
 | [],[],a,b,_=>by simp
 | x::xs,y::ys,a,b,h=>by
  rw [dG,dG,cN,cN,bC,bC,a4b (by simpa using h),Int.add_assoc]
section
variable {P:Program} {w:World} {K:W.Frag} {mg:Str->Option Value} {base:Heap} {f:Addr} {fd:FuncData} {n:Nat}
structure PrN (pt pg:List Int) (ps D:Int) (kt kg:Nat):Prop where
 lt:pt.length=kt
 lg:pg.length=kg
 bt:∀ x∈pt,0<=x/\Big 5000 x
 bg:∀ x∈pg,0<=x/\Big 5000 x
 bs:Big 5000 ps
 d:0<D
 d2:D<2 ^ 4000
def earn (h:i7) (pg:List Int) (ps:Int):Int:=(bB (·*·) h.2 pg).sum+ps
def pay (h:i7) (pt:List Int):Int:=(bB (·*·) h.1 pt).sum
end
section
variable {P:Program} {w:World} {K:W.Frag} {mg:Str->Option Value} {base:Heap} {f:Addr} {fd:FuncData} {n:Nat}
def a0K (z:Str) (ps:Int):Prop:=((z="any"\/z="less")->ps<=0)/\((z="any"\/z="more")->0<=ps)
end
mutual
theorem T3:∀ d:PyData,d.canLay0=true->PyData.eqv d d=true
 | .none,_=>by rw [PyData.eqv]
 | .bool b,_=>by rw [PyData.eqv]; simp
 | .int i,_=>by rw [PyData.eqv]; simp
 | .str x,_=>by rw [PyData.eqv]; simp
 | .list xs,h=>by rw [PyData.eqv]; exact U2 xs (by rw [PyData.canLay0] at h; exact h)
 | .tuple xs,h=>by rw [PyData.eqv]; exact U2 xs (by rw [PyData.canLay0] at h; exact h)
 | .dict kvs,h=>by rw [PyData.canLay0] at h; cases h
theorem U2:∀ ds:List PyData,PyData.canLayAll0 ds=true->PyData.eqvAll ds ds=true
 | [],_=>by rw [PyData.eqvAll]
 | d::r,h=>by
  rw [PyData.canLayAll0,dX] at h;rw [PyData.eqvAll,T3 d h.1,U2 r h.2]; rfl
end
def dF (x:Q2):PyData:=.tuple [.int x.1,.int x.2]
theorem FrV.dp {K:W.Frag} {H:Hp} {v:V} {x:Q2} (h:FrV K H v x):Dp K H v (dF x):=by
 obtain ⟨a,rfl,q⟩:=h;exact .tup q (.cons (.int _) (.cons (.int _) .nil))
theorem a1f (x:Q2):(dF x).canLay0=true:=by
 unfold dF;rw [PyData.canLay0,PyData.canLayAll0,PyData.canLay0,PyData.canLayAll0,PyData.canLay0,PyData.canLayAll0]; rfl
theorem b1R (x:Q2):(dF x).depth<=60:=by
 unfold dF;simp [PyData.depth,PyData.depthAll]
theorem X2 {x D:Int} (hD:0<D):(low x D).1*D=x*(low x D).2:=by
 obtain ⟨h1,h2⟩:=G9 (t:=x) hD;generalize (low x D).1=a at *;generalize (low x D).2=b at *;generalize gI x D=g at *;rw [h1,h2]
 ac_rfl
section
variable {P:Program} {w:World} {K:W.Frag} {mg:Str->Option Value} {base:Heap} {f:Addr} {fd:FuncData} {n:Nat}
end
section
variable {P:Program} {w:World} {K:W.Frag} {mg:Str->Option Value} {base:Heap} {f:Addr} {fd:FuncData} {n:Nat}
end
end Rim
namespace Lp
section
variable {m q:Nat} {A:Nat->Nat->Int} {b c:Nat->Int} {S S':Bo}
theorem O1 {g h:Nat->Int}:∀ {n:Nat},(∀ k,k<n->g k<=h k)->sumTo g n<=sumTo h n
 | 0,_=>bO _
 | n+1,e=>Int.add_le_add (O1 λ k hk=>e k (by lia)) (e n (by lia))
theorem a6S {g h:Nat->Int}:∀ n:Nat,sumTo (λ k=>g k - h k) n=sumTo g n - sumTo h n
 | 0=>rfl
 | n+1=>by
  show sumTo (λ k=>g k - h k) n+(g n - h n)=(sumTo g n+g n) - (sumTo h n+h n)
  rw [a6S n]; lia
theorem Of.weak (O:Of m q A b c S) (hn:∀ j,j<q->¬ S.T m j<0) {y:Nat->Int} {e:Int} (hy:∀ j,j<q->0<=y j) (hr:∀ i,i<m->sumTo (λ j=>A i j*y j) q<=b i*e):S.d*sumTo (λ j=>c j*y j) q<=e*S.T m q:=by
 obtain ⟨D1,D2⟩:=O.dual;have nn:∀ v,0<=valOut m q S v:=Of.valOut_nn λ j hj=>by have:=hn j hj; lia
 have e1:S.d*sumTo (λ j=>c j*y j) q=sumTo (λ j=>sumTo (λ i=>A i j*valOut m q S (q+i)) m*y j - valOut m q S j*y j) q:=by
  rw [<- A4];refine sum_congr λ j hj=>?_;rw [D1 j hj,cD,lO,aR (c j) S.d,aX]
 have e2:sumTo (λ j=>sumTo (λ i=>A i j*valOut m q S (q+i)) m*y j - valOut m q S j*y j) q<=sumTo (λ j=>sumTo (λ i=>A i j*valOut m q S (q+i)) m*y j) q:=by
  refine O1 λ j hj=>?_;have:=cK (nn j) (hy j hj);lia
 have e3:sumTo (λ j=>sumTo (λ i=>A i j*valOut m q S (q+i)) m*y j) q=sumTo (λ i=>valOut m q S (q+i)*sumTo (λ j=>A i j*y j) q) m:=by
  have x1:sumTo (λ j=>sumTo (λ i=>A i j*valOut m q S (q+i)) m*y j) q=sumTo (λ j=>sumTo (λ i=>valOut m q S (q+i)*(A i j*y j)) m) q:=by
   refine sum_congr λ j hj=>?_;rw [aR,<- A4];refine sum_congr λ i hi=>?_
   ac_rfl
  rw [x1,U3];refine sum_congr λ i hi=>?_;rw [A4]
 have e4:sumTo (λ i=>valOut m q S (q+i)*sumTo (λ j=>A i j*y j) q) m<=sumTo (λ i=>e*(b i*valOut m q S (q+i))) m:=by
  refine O1 λ i hi=>?_;have:=eW (hr i hi) (nn (q+i));have x:valOut m q S (q+i)*(b i*e)=e*(b i*valOut m q S (q+i)):=by ac_rfl
  rw [x] at this;exact this
 rw [A4,D2] at e4;rw [e1];rw [e3] at e2;exact eX e2 e4
theorem Of.slack (O:Of m q A b c S) (hn:∀ j,j<q->¬ S.T m j<0) {l:Nat} (hl:l<m) (hw:0<valOut m q S (q+l)):sumTo (λ j=>A l j*valIn m S q j) q=b l*S.d:=by
 obtain ⟨p1,p2⟩:=O.primal;have nn:∀ v,0<=valOut m q S v:=Of.valOut_nn λ j hj=>by have:=hn j hj; lia
 have nx:=O.valIn_nn
 by_cases h0:valIn m S q (q+l)=0
 ·have:=p1 l hl
  lia
 ·exfalso
  have hp:0<valIn m S q (q+l):=by have:=nx (q+l); lia
  obtain ⟨D1,D2⟩:=O.dual;have e1:S.d*sumTo (λ j=>c j*valIn m S q j) q<=sumTo (λ i=>valOut m q S (q+i)*sumTo (λ j=>A i j*valIn m S q j) q) m:=by
   have x1:S.d*sumTo (λ j=>c j*valIn m S q j) q=sumTo (λ j=>sumTo (λ i=>A i j*valOut m q S (q+i)) m*valIn m S q j - valOut m q S j*valIn m S q j) q:=by
    rw [<- A4];refine sum_congr λ j hj=>?_;rw [D1 j hj,cD,lO,aR (c j) S.d,aX]
   have x2:sumTo (λ j=>sumTo (λ i=>A i j*valOut m q S (q+i)) m*valIn m S q j - valOut m q S j*valIn m S q j) q<=sumTo (λ j=>sumTo (λ i=>valOut m q S (q+i)*(A i j*valIn m S q j)) m) q:=by
    refine O1 λ j hj=>?_;have y:=cK (nn j) (nx j);have z:sumTo (λ i=>A i j*valOut m q S (q+i)) m*valIn m S q j=sumTo (λ i=>valOut m q S (q+i)*(A i j*valIn m S q j)) m:=by
     rw [aR,<- A4];refine sum_congr λ i hi=>?_
     ac_rfl
    lia
   rw [U3] at x2;have x3:sumTo (λ i=>sumTo (λ j=>valOut m q S (q+i)*(A i j*valIn m S q j)) q) m=sumTo (λ i=>valOut m q S (q+i)*sumTo (λ j=>A i j*valIn m S q j) q) m:=sum_congr λ i hi=>by rw [A4]
   rw [x1,<- x3]; exact x2
  have e2:sumTo (λ i=>valOut m q S (q+i)*sumTo (λ j=>A i j*valIn m S q j) q) m<=sumTo (λ i=>S.d*(b i*valOut m q S (q+i)) - (if i=l then valOut m q S (q+l)*valIn m S q (q+l) else 0)) m:=by
   refine O1 λ i hi=>?_;have y:=p1 i hi;have z:=cK (nn (q+i)) (nx (q+i));have ez:valOut m q S (q+i)*sumTo (λ j=>A i j*valIn m S q j) q=S.d*(b i*valOut m q S (q+i)) - valOut m q S (q+i)*valIn m S q (q+i):=by
    have:sumTo (λ j=>A i j*valIn m S q j) q=b i*S.d - valIn m S q (q+i):=by lia
    rw [this,fV]
    congr 1
    ac_rfl
   rw [ez]
   by_cases hil:i=l
   ·subst hil
    rw [if_pos rfl]; exact bO _
   ·rw [if_neg hil]; lia
  have e3:sumTo (λ i=>S.d*(b i*valOut m q S (q+i)) - (if i=l then valOut m q S (q+l)*valIn m S q (q+l) else 0)) m=S.d*S.T m q - valOut m q S (q+l)*valIn m S q (q+l):=by
   rw [a6S,A4,D2,sum_one hl λ i hi hne=>if_neg hne,if_pos rfl]
  rw [p2] at e1;have:=dR hw hp;lia
end
end Lp
namespace Rim
open PySem L2 Fr
abbrev t7 (l x:List Int):Int:=(bB (·*·) l x).sum
theorem Z8:∀ (l r x:List Int),t7 (l++r) x=t7 l (x.take l.length)+t7 r (x.drop l.length)
 | [],r,x=>by simp [t7]
 | a::l,r,[]=>by simp [t7]
 | a::l,r,y::x=>by
  have:=Z8 l r x;unfold t7 at *;rw [dG,cN,bC,this,cV,List.take_succ_cons,List.drop_succ_cons,cN,bC];lia
theorem a0o:∀ (l x:List Int),t7 (l.map λ y=>-y) x = - t7 l x
 | [],x=>by simp [t7]
 | a::l,[]=>by simp [t7]
 | a::l,y::x=>by
  have:=a0o l x;unfold t7 at *;rw [aQ,cN,bC,this,cN,bC,eV];lia
theorem R4:∀ (k:Nat) (x:List Int),t7 (aI k 0) x=0
 | 0,x=>by simp [t7]
 | k+1,[]=>by simp [t7]
 | k+1,y::x=>by
  have:=R4 k x;unfold t7 at *;rw [eJ,cN,bC,this]; lia
theorem F0:∀ (l x:List Int),t7 l x=t7 x l
 | [],x=>by simp [t7]
 | a::l,[]=>by simp [t7]
 | a::l,y::x=>by
  have:=F0 l x;unfold t7 at *;rw [cN,bC,this,cN,bC,aR]
theorem a9F:∀ {l x:List Int},(∀ y∈l,0<=y)->(∀ y∈x,0<=y)->0<=t7 l x
 | [],x,_,_=>by simp [t7]
 | a::l,[],_,_=>by simp [t7]
 | a::l,y::x,h1,h2=>by
  have:=a9F (l:=l) (x:=x) (λ z hz=>h1 z (.tail _ hz)) (λ z hz=>h2 z (.tail _ hz));unfold t7 at *;rw [cN,bC];have:=cK (h1 a (.head _)) (h2 y (.head _));lia
theorem E7:∀ (n:Nat) (l x:List Int),l.length=n->x.length=n->Lp.sumTo (λ j=>l.getD j 0*x.getD j 0) n=t7 l x
 | 0,l,x,h1,h2=>by
  rw [gJ h1]; simp [t7,Lp.sumTo]
 | n+1,l,x,h1,h2=>by
  obtain ⟨l',a,rfl⟩:∃ l' a,l=l'++[a]:=⟨l.dropLast,l.getLast (by intro z; rw [z] at h1; cases h1),(iI _).symm⟩;obtain ⟨x',b,rfl⟩:∃ l' a,x=l'++[a]:=⟨x.dropLast,x.getLast (by intro z; rw [z] at h2; cases h2),(iI _).symm⟩;have l1:l'.length=n:=by simpa using h1
  have l2:x'.length=n:=by simpa using h2
  show Lp.sumTo _ n+_=_
  have e:Lp.sumTo (λ j=>(l'++[a]).getD j 0*(x'++[b]).getD j 0) n=Lp.sumTo (λ j=>l'.getD j 0*x'.getD j 0) n:=Lp.sum_congr λ j hj=>by
   rw [C3,C3,if_pos (by lia),if_pos (by lia)]
  rw [e,E7 n l' x' l1 l2]
  show _=(bB (·*·) (l'++[a]) (x'++[b])).sum
  rw [a4b (by lia)]
  show t7 l' x'+(l'++[a]).getD n 0*(x'++[b]).getD n 0=_
  rw [C3,C3,if_neg (by lia),if_neg (by lia),l1,l2,eD]; rfl
theorem T7 {n:Nat} {F:Nat->Int} {j:Nat} (h:j<n):((aH n).map F).getD j 0=F j:=by
 rw [aG,aE,bI h]; rfl
theorem a6T:∀ (l:List Int),t7 (l.map λ _=>1) l=l.sum
 | []=>rfl
 | a::l=>by
  have:=a6T l;unfold t7 at *;rw [aQ,cN,bC,this,bC,fH]
theorem a2g:∀ {l x:List Int},(∀ y∈l,0<=y)->(∀ y∈x,0<=y)->0<t7 l x->∃ j,j<x.length/\0<x.getD j 0
 | [],x,_,_,h=>by simp [t7] at h
 | a::l,[],_,_,h=>by simp [t7] at h
 | a::l,y::x,h1,h2,h=>by
  by_cases hy:0<y
  ·exact ⟨0,by simp,by simpa using hy⟩
  ·have y0:y=0:=by have:=h2 y (.head _); lia
   subst y0;have h':0<t7 l x:=by
    unfold t7 at *;rw [cN,bC] at h; lia
   obtain ⟨j,hj,hp⟩:=a2g (λ z hz=>h1 z (.tail _ hz)) (λ z hz=>h2 z (.tail _ hz)) h';exact ⟨j+1,by simp; lia,by simpa using hp⟩
theorem a2n:∀ {l x:List Int},(∀ y∈l,0<y)->(∀ y∈x,0<=y)->l.length=x.length->(∃ j,j<x.length/\0<x.getD j 0)->0<t7 l x
 | [],[],_,_,_,⟨j,hj,_⟩=>by simp at hj
 | a::l,y::x,h1,h2,hl,⟨j,hj,hp⟩=>by
  have nn:0<=t7 l x:=a9F (λ z hz=>aN (h1 z (.tail _ hz))) (λ z hz=>h2 z (.tail _ hz));have ya:=cK (aN (h1 a (.head _))) (h2 y (.head _))
  cases j with
  | zero =>
   have:0<a*y:=dR (h1 a (.head _)) (by simpa using hp);unfold t7 at *;rw [cN,bC]; lia
  | succ j =>
   have:=a2n (l:=l) (x:=x) (λ z hz=>h1 z (.tail _ hz)) (λ z hz=>h2 z (.tail _ hz)) (by simpa using hl) ⟨j,by simpa using hj,by simpa using hp⟩;unfold t7 at *;rw [cN,bC]; lia
 | [],_::_,_,_,hl,_=>by simp at hl
 | _::_,[],_,_,hl,_=>by simp at hl
theorem b1z {m q:Nat} {A:Nat->Nat->Int} {b c:Nat->Int} {S:Lp.Bo} (O:Lp.Of m q A b c S) (sz:Sz 4000 m q S) {v:Nat} (hv:v<q+m):Big 4000 (Lp.valOut m q S v):=by
 rcases O.w.all v hv with ⟨i,hi,e⟩ | ⟨j,hj,e⟩
 ·have:Lp.valOut m q S v=0:=Lp.sum_zero λ k hk=>if_neg λ z=>O.w.io i k hi hk (e.trans z.symm)
  rw [this]
  show (0:Int).natAbs<2 ^ 4000
  exact jK (by decide)
 ·have:Lp.valOut m q S v=S.T m j:=by
   unfold Lp.valOut;rw [Lp.sum_one hj λ k hk hn=>if_neg λ z=>hn (O.w.oo k j hk hj (z.trans e.symm)),if_pos e]
  rw [this];exact sz.1 m j (by lia) (by lia)
section
variable {m q:Nat} {rows:List (List Int)} {bnd goal:List Int} {S:Lp.Bo}
theorem a4e (O:Lp.Of m q (S6 rows) (G6 bnd) (G6 goal) S) {i:Nat} {row:List Int} (hi:i<m) (hr:rows[i]?=some row) (hl:row.length=q):t7 row (p7 m q S)<=bnd.getD i 0*S.d:=by
 have h:=O.primal.1 i hi;have nn:=O.valIn_nn (q+i);have e:Lp.sumTo (λ j=>S6 rows i j*Lp.valIn m S q j) q=t7 row (p7 m q S):=by
  rw [<- E7 q row (p7 m q S) hl (by unfold p7; simp)];refine Lp.sum_congr λ j hj=>?_;rw [V9 hr];unfold p7;rw [T7 hj]
 rw [e] at h
 show _<=G6 bnd i*S.d
 lia
theorem a5N (O:Lp.Of m q (S6 rows) (G6 bnd) (G6 goal) S) (hn:∀ j,j<q->¬ S.T m j<0) {i:Nat} {row:List Int} (hi:i<m) (hr:rows[i]?=some row) (hl:row.length=q) (hw:0<Lp.valOut m q S (q+i)):t7 row (p7 m q S)=bnd.getD i 0*S.d:=by
 have h:=O.slack hn hi hw;have e:Lp.sumTo (λ j=>S6 rows i j*Lp.valIn m S q j) q=t7 row (p7 m q S):=by
  rw [<- E7 q row (p7 m q S) hl (by unfold p7; simp)];refine Lp.sum_congr λ j hj=>?_;rw [V9 hr];unfold p7;rw [T7 hj]
 rw [e] at h;exact h
theorem a4N (O:Lp.Of m q (S6 rows) (G6 bnd) (G6 goal) S) (hl:goal.length=q):t7 goal (p7 m q S)=S.T m q:=by
 have h:=O.primal.2;have e:Lp.sumTo (λ j=>G6 goal j*Lp.valIn m S q j) q=t7 goal (p7 m q S):=by
  rw [<- E7 q goal (p7 m q S) hl (by unfold p7; simp)];refine Lp.sum_congr λ j hj=>?_;unfold p7;rw [T7 hj]; rfl
 rw [e] at h;exact h
theorem a3H (O:Lp.Of m q (S6 rows) (G6 bnd) (G6 goal) S) (hn:∀ j,j<q->¬ S.T m j<0) (hl:rows.length=m) {j:Nat} (hj:j<q):goal.getD j 0*S.d<=t7 (col rows j) (D0 m q S):=by
 have h:=O.dual.1 j hj;have nn:0<=Lp.valOut m q S j:=Lp.Of.valOut_nn (λ j hj=>by have:=hn j hj; lia) j;have e:Lp.sumTo (λ i=>S6 rows i j*Lp.valOut m q S (q+i)) m=t7 (col rows j) (D0 m q S):=by
  rw [<- E7 m (col rows j) (D0 m q S) (by unfold col; rw [aA]; exact hl) (by unfold D0; simp)];refine Lp.sum_congr λ i hi=>?_;unfold D0;rw [T7 hi]
  congr 1
  unfold S6 col;rw [aG (l:=iJ _ rows),aE,aG (l:=rows),aD (by lia)]; rfl
 rw [e] at h
 show G6 goal j*S.d<=_
 lia
theorem b0Z (O:Lp.Of m q (S6 rows) (G6 bnd) (G6 goal) S) (hl:bnd.length=m):t7 bnd (D0 m q S)=S.T m q:=by
 have h:=O.dual.2;have e:Lp.sumTo (λ i=>G6 bnd i*Lp.valOut m q S (q+i)) m=t7 bnd (D0 m q S):=by
  rw [<- E7 m bnd (D0 m q S) hl (by unfold D0; simp)];refine Lp.sum_congr λ i hi=>?_;unfold D0;rw [T7 hi]; rfl
 rw [e] at h;exact h
theorem b2R (hn:∀ j,j<q->¬ S.T m j<0):∀ x∈D0 m q S,0<=x:=λ x hx=>by
 unfold D0 at hx;obtain ⟨i,_,rfl⟩:=aK.mp hx;exact Lp.Of.valOut_nn (λ j hj=>by have:=hn j hj; lia) _
theorem a6A {A:Nat->Nat->Int} {b c:Nat->Int} (O:Lp.Of m q A b c S):∀ x∈p7 m q S,0<=x:=λ x hx=>by
 unfold p7 at hx;obtain ⟨i,_,rfl⟩:=aK.mp hx;exact O.valIn_nn i
theorem a7O:D0 (m+1) q S=(D0 (m+1) q S).take m++[Lp.valOut (m+1) q S (q+m)]:=by
 unfold D0;rw [fK,bN,gA (by simp)]; rfl
end
theorem b2w (a b c xs:List Int):t7 (a++b++c) xs=t7 a (xs.take a.length)+t7 b ((xs.drop a.length).take b.length)+t7 c (xs.drop (a.length+b.length)):=by
 rw [Z8 (a++b) c xs,Z8 a b,aJ,List.take_take,fU (by lia),List.drop_take,eN]
theorem Z3 (a b c:List Int) (j:Nat):(a++b++c).getD j 0=if j<a.length then a.getD j 0 else if j<a.length+b.length then b.getD (j - a.length) 0 else c.getD (j - (a.length+b.length)) 0:=by
 rw [C3,aJ]
 by_cases h1:j<a.length
 ·rw [if_pos (by lia),if_pos h1,C3,if_pos h1]
 ·by_cases h2:j<a.length+b.length
  ·rw [if_pos h2,if_neg h1,if_pos h2,C3,if_neg h1]
  ·rw [if_neg h2,if_neg h1,if_neg h2]
abbrev ptA (h:i7) (xs:List Int):List Int:=xs.take h.1.length
abbrev pgA (h:i7) (xs:List Int):List Int:=(xs.drop h.1.length).take h.2.length
abbrev psA (z:Str) (h:i7) (xs:List Int):Int:=t7 (xs.drop (h.1.length+h.2.length)) (K1 z)
theorem a6X {z:Str} {g h:i7} (h1:g.1.length=h.1.length) (h2:g.2.length=h.2.length) (xs:List Int):t7 (A5 z g) xs=earn g (pgA h xs) (psA z h xs) - pay g (ptA h xs):=by
 unfold A5 earn pay;rw [b2w,aA,a0o,h1,h2,F0 (K1 z)];dsimp only [t7,ptA,pgA,psA];lia
theorem b0d {z:Str} {h:i7} (xs:List Int):t7 (M9 z h) xs=pay h (ptA h xs):=by
 unfold M9 pay;rw [b2w,R4,R4];dsimp only [t7,ptA,pgA,psA];lia
theorem a8y {z:Str} {h:i7} (xs:List Int):t7 (K3 z h) xs=earn h (pgA h xs) (psA z h xs):=by
 unfold K3 earn;rw [b2w,R4,cA,F0 (K1 z)];dsimp only [t7,ptA,pgA,psA];lia
theorem b0g (rows:List (List Int)) (r:List Int) (j:Nat):col (rows++[r]) j=col rows j++[r.getD j 0]:=by
 unfold col;rw [bN]; rfl
theorem a0h {a b:List Int} {x y:Int} (h:a.length=b.length):t7 (a++[x]) (b++[y])=t7 a b+x*y:=a4b h
theorem V0 (s:Int):∀ (hs:List i7) (ws:List Int),hs.length=ws.length->t7 (hs.map λ _=>s) ws=s*ws.sum
 | [],[],_=>by simp [t7]
 | _::hs,w::ws,h=>by
  have:=V0 s hs ws (by simpa using h);unfold t7 at *;rw [aQ,cN,bC,this,bC,eU]
 | [],_::_,h=>by simp at h
 | _::_,[],h=>by simp at h
section
variable {z:Str} {hs:List i7} {h:i7} {kt kg:Nat} (hk:∀ g∈hs,g.1.length=kt/\g.2.length=kg)
include hk
theorem a7y (ws:List Int) {j:Nat} (hj:j<kt):t7 (col (hs.map (A5 z)) j) ws = - D9 hs ws 0 j:=by
 have e:col (hs.map (A5 z)) j=(col (hs.map (D4 0)) j).map λ y=>-y:=by
  unfold col;rw [aS,aS,aS];refine cZ λ g hg=>?_
  show (A5 z g).getD j 0 = - (D4 0 g).getD j 0
  have:=hk g hg;unfold A5;rw [Z3,aA,if_pos (by lia),a5b]; rfl
 rw [e,a0o]; rfl
theorem a7U (ws:List Int) {j:Nat} (hj:j<kg):t7 (col (hs.map (A5 z)) (kt+j)) ws=D9 hs ws 1 j:=by
 have e:col (hs.map (A5 z)) (kt+j)=col (hs.map (D4 1)) j:=by
  unfold col;rw [aS,aS];refine cZ λ g hg=>?_
  show (A5 z g).getD (kt+j) 0=(D4 1 g).getD j 0
  have:=hk g hg;unfold A5;rw [Z3,aA,if_neg (by lia),if_pos (by lia),this.1,eN]; rfl
 rw [e]; rfl
theorem a8G {ws:List Int} (hw:hs.length=ws.length) (t:Nat):t7 (col (hs.map (A5 z)) (kt+kg+t)) ws=(K1 z).getD t 0*ws.sum:=by
 have e:col (hs.map (A5 z)) (kt+kg+t)=hs.map λ _=>(K1 z).getD t 0:=by
  unfold col;rw [aS];refine cZ λ g hg=>?_
  show (A5 z g).getD (kt+kg+t) 0=_
  have:=hk g hg;unfold A5;rw [Z3,aA,if_neg (by lia),if_neg (by lia),this.1,this.2,eN]
 rw [e,V0 _ _ _ hw]
end
structure b4R (z:Str) (hs:List i7) (h:i7) (S:Lp.Bo) (kt kg:Nat) (ws:List Int):Prop where
 lw:ws.length=hs.length
 nn:∀ x∈ws,0<=x/\Big 20000 x
 size:a1T z ws.sum S.d
 takes:∀ j,j<kt->D9 hs ws 0 j<=h.1.getD j 0*S.T (mE hs) (qE z h)
 gives:∀ j,j<kg->h.2.getD j 0*S.d<=D9 hs ws 1 j
 pos:0<S.T (mE hs) (qE z h)
 le:h∈hs->S.T (mE hs) (qE z h)<=S.d
 fair:∀ g∈hs,earn g (pgA h (p7 (mE hs) (qE z h) S)) (psA z h (p7 (mE hs) (qE z h) S))<=pay g (ptA h (p7 (mE hs) (qE z h) S))
 pays:pay h (ptA h (p7 (mE hs) (qE z h) S))=S.d
 earns:earn h (pgA h (p7 (mE hs) (qE z h) S)) (psA z h (p7 (mE hs) (qE z h) S))=S.T (mE hs) (qE z h)
 pr:PrN (ptA h (p7 (mE hs) (qE z h) S)) (pgA h (p7 (mE hs) (qE z h) S)) (psA z h (p7 (mE hs) (qE z h) S)) S.d kt kg
 sign:a0K z (psA z h (p7 (mE hs) (qE z h) S))
theorem a7k {z:Str} {xs:List Int} (hz:Szw z) (nn:∀ x∈xs,0<=x):a0K z (t7 xs (K1 z)):=by
 rcases hz with rfl | rfl | rfl | rfl
 ·have:t7 xs (K1 "any")=0:=by show (bB _ xs []).sum=0; simp
  rw [this]; exact ⟨λ _=>bO _,λ _=>bO _⟩
 ·exact ⟨λ h=>absurd h (by decide),λ h=>absurd h (by decide)⟩
 ·refine ⟨λ _=>?_,λ h=>absurd h (by decide)⟩
  show (bB _ xs [-1]).sum<=0
  cases xs with
  | nil=>simp
  | cons x r=>have:=nn x (.head _); simp; lia
 ·refine ⟨λ h=>absurd h (by decide),λ _=>?_⟩
  show 0<=(bB _ xs [1]).sum
  cases xs with
  | nil=>simp
  | cons x r=>have:=nn x (.head _); simp; lia
theorem a9N {z:Str} {xs:List Int} (h:∀ x∈xs,Big 4000 x) (hl:xs.length<=200):Big 5000 (t7 xs (K1 z)):=by
 have:∀ y∈K1 z,Big 100 y:=λ y hy=>eR (a0p z y hy) (iG (by decide) (by decide));exact (a1t (a2a h this) (by rw [eK]; lia)).mono (by decide)
theorem a3T {z:Str} {hs:List i7} {h:i7} {S:Lp.Bo} {far:Int} {kt kg:Nat} (hz:Szw z) (B:Best z hs h S) (hG:∀ g∈hs,HG far kt kg g) (gh:HG far kt kg h) (kt1:1<=kt) (kt4:kt<=20) (kg4:kg<=20) :
  b4R z hs h S kt kg ((D0 (mE hs) (qE z h) S).take hs.length):=by
 obtain ⟨O,hn,sz⟩:=B;have hk:∀ g∈hs,g.1.length=kt/\g.2.length=kg:=λ g hg=>⟨(hG g hg).lt,(hG g hg).lg⟩;have sg:=V4 z;generalize hm:mE hs=m at *;generalize hq:qE z h=q at *;have hm':m=hs.length+1:=hm.symm;have hq':q=kt+kg+(K1 z).length:=by rw [<- hq]; show h.1.length+h.2.length+_=_; rw [gh.lt,gh.lg]
 replace O:Lp.Of m q (S6 (D7 z hs h)) (G6 (Y9 hs)) (G6 (K3 z h)) S:=by rw [hm',<- hq]; exact O
 have lr:(D7 z hs h).length=m:=by unfold D7; simp [hm']
 have lrow:∀ g∈hs,(A5 z g).length=q:=λ g hg=>by unfold A5; simp [(hk g hg).1,(hk g hg).2,hq']; lia
 have lpaid:(M9 z h).length=q:=by unfold M9; simp [gh.lt,gh.lg,hq']; lia
 have lgoal:(K3 z h).length=q:=by unfold K3; simp [gh.lt,gh.lg,hq']; lia
 have lb:(Y9 hs).length=m:=by unfold Y9; simp [hm']
 have la:(p7 m q S).length=q:=by unfold p7; simp
 have lw:(D0 m q S).length=m:=by unfold D0; simp
 have hsp:D0 m q S=(D0 m q S).take hs.length++[Lp.valOut m q S (q+hs.length)]:=by rw [hm']; exact a7O
 generalize hws:(D0 m q S).take hs.length=ws at *;generalize hwn:Lp.valOut m q S (q+hs.length)=wn at *;have lws:ws.length=hs.length:=by rw [<- hws,bX,lw]; lia
 have wnn:∀ x∈ws,0<=x/\Big 20000 x:=λ x hx=>by
  have hx':x∈D0 m q S:=by rw [hsp]; exact cQ _ hx
  refine ⟨b2R hn x hx',?_⟩;unfold D0 at hx';obtain ⟨k,hk',rfl⟩:=aK.mp hx';exact (b1z O sz (by have:=dZ.mp hk'; lia)).mono (by decide)
 have pos:=O.w.pos;have eT:wn=S.T m q:=by
  have:=b0Z O lb;rw [hsp] at this;unfold Y9 at this;rw [a0h (by rw [cA]; exact lws.symm),R4] at this;lia
 have colA:∀ j,t7 (col (D7 z hs h) j) (D0 m q S)=t7 (col (hs.map (A5 z)) j) ws+(M9 z h).getD j 0*wn:=λ j=>by
  rw [hsp];unfold D7;rw [b0g,a0h (by unfold col; rw [aA,aA,lws])]
 have tk:∀ j,j<kt->D9 hs ws 0 j<=h.1.getD j 0*wn:=λ j hj=>by
  have:=a3H O hn lr (j:=j) (by lia);rw [colA,a7y hk ws hj] at this;unfold K3 M9 at this;rw [Z3,Z3,cA,if_pos (by rw [gh.lt]; lia),if_pos (by rw [gh.lt]; lia),Q9] at this;lia
 have gv:∀ j,j<kg->h.2.getD j 0*S.d<=D9 hs ws 1 j:=λ j hj=>by
  have:=a3H O hn lr (j:=kt+j) (by lia);rw [colA,a7U hk ws hj] at this;unfold K3 M9 at this;rw [Z3,Z3,cA,cA,gh.lt,gh.lg,if_neg (by lia),if_pos (by lia),if_neg (by lia),if_pos (by lia),eN,Q9] at this;lia
 have szc:∀ t,t<(K1 z).length->(K1 z).getD t 0*S.d<=(K1 z).getD t 0*ws.sum:=λ t ht=>by
  have:=a3H O hn lr (j:=kt+kg+t) (by lia);rw [colA,a8G hk lws.symm t] at this;unfold K3 M9 at this;rw [Z3,Z3,cA,cA,gh.lt,gh.lg,if_neg (by lia),if_neg (by lia),if_neg (by lia),if_neg (by lia),eN,Q9] at this;lia
 have size:a1T z ws.sum S.d:=by
  rcases hz with rfl | rfl | rfl | rfl
  ·exact ⟨λ h=>absurd h (by decide),λ h=>absurd h (by decide)⟩
  ·have s0:(1:Int)*S.d<=1*ws.sum:=szc 0 (by decide)
   have s1:(-1:Int)*S.d <= -1*ws.sum:=szc 1 (by decide);exact ⟨λ _=>by lia,λ _=>by lia⟩
  ·have s1:(-1:Int)*S.d <= -1*ws.sum:=szc 0 (by decide)
   exact ⟨λ _=>by lia,λ h=>absurd h (by decide)⟩
  ·have s0:(1:Int)*S.d<=1*ws.sum:=szc 0 (by decide)
   exact ⟨λ h=>absurd h (by decide),λ _=>by lia⟩
 have posT:0<wn:=by
  obtain ⟨y,hy,y0⟩:=gh.p;obtain ⟨j,hj⟩:=eE hy;have hjl:j<kg:=by have:=(aY.mp hj).1; rw [gh.lg] at this; exact this
  have yD:h.2.getD j 0=y:=by rw [aG,hj]; rfl
  have g1:=gv j hjl;rw [yD] at g1;have g2:0<D9 hs ws 1 j:=lP (dR y0 pos) g1;have nnc:∀ x∈col (hs.map (D4 1)) j,0<=x:=λ x hx=>by
   unfold col at hx;obtain ⟨r,hr,rfl⟩:=aK.mp hx;obtain ⟨g,hg,rfl⟩:=aK.mp hr;have hg':=hG g hg;have hl:j<(D4 1 g).length:=by show j<g.2.length; rw [hg'.lg]; exact hjl
   rw [aG,aD hl];exact (hg'.g _ (cS hl)).1
  obtain ⟨k,hk1,hk2⟩:=a2g nnc (λ x hx=>(wnn x hx).1) g2;have pc:∀ x∈col (hs.map (D4 0)) 0,0<x:=λ x hx=>by
   unfold col at hx;obtain ⟨r,hr,rfl⟩:=aK.mp hx;obtain ⟨g,hg,rfl⟩:=aK.mp hr;have hg':=hG g hg;have hl:0<(D4 0 g).length:=by show 0<g.1.length; rw [hg'.lt]; lia
   rw [aG,aD hl];have:=(hg'.t _ (cS hl)).1
   show 0<(D4 0 g)[0]
   lia
  have g3:0<D9 hs ws 0 0:=a2n pc (λ x hx=>(wnn x hx).1) (by unfold col; rw [aA,aA,lws]) ⟨k,hk1,hk2⟩;have g4:=tk 0 (by lia);have hl:0<h.1.length:=by rw [gh.lt]; lia
  have h0:1<=h.1.getD 0 0:=by
   rw [aG,aD hl];exact (gh.t _ (cS hl)).1
  have g5:0<h.1.getD 0 0*wn:=lP g3 g4
  by_cases hw:0<wn
  ·exact hw
  ·have:=cK (show 0<=h.1.getD 0 0 by lia) (show 0 <= -wn by lia)
   rw [dN] at this;lia
 have fair:∀ g∈hs,earn g (pgA h (p7 m q S)) (psA z h (p7 m q S))<=pay g (ptA h (p7 m q S)):=λ g hg=>by
  obtain ⟨k,hk'⟩:=eE hg;have hkl:=(aY.mp hk').1;have hr:(D7 z hs h)[k]?=some (A5 z g):=by
   unfold D7;rw [bF (by rw [aA]; exact hkl),aE,hk']; rfl
  have:=a4e O (i:=k) (by lia) hr (lrow g hg);rw [a6X (h:=h) (by rw [(hk g hg).1,gh.lt]) (by rw [(hk g hg).2,gh.lg])] at this;unfold Y9 at this;rw [C3,cA,if_pos hkl,Q9,dY] at this;lia
 have hr:(D7 z hs h)[hs.length]?=some (M9 z h):=by
  unfold D7;rw [bU (by rw [aA]; exact aF _),aA,eD]; rfl
 have pays:pay h (ptA h (p7 m q S))=S.d:=by
  have:=a5N O hn (i:=hs.length) (by lia) hr lpaid (by rw [hwn]; exact posT);rw [b0d] at this;unfold Y9 at this;rw [C3,cA,if_neg (by lia),eD] at this;rw [this];exact fH _
 have earns:earn h (pgA h (p7 m q S)) (psA z h (p7 m q S))=S.T m q:=by rw [<- a8y]; exact a4N O lgoal
 have anb:∀ x∈p7 m q S,0<=x/\Big 4000 x:=λ x hx=>by
  refine ⟨a6A O x hx,?_⟩;unfold p7 at hx;obtain ⟨k,hk',rfl⟩:=aK.mp hx;exact a7n O sz (dZ.mp hk')
 have d4:S.d<2 ^ 4000:=by
  have h1:S.d.natAbs<2 ^ 4000:=sz.2;have h3:S.d=(S.d.natAbs:Int):=by lia
  rw [h3]
  exact_mod_cast h1
 refine ⟨lws,wnn,size,λ j hj=>?_,gv,?_,?_,?_,?_,?_,?_,?_⟩
 ·rw [hm,hq,<- eT]; exact tk j hj
 ·rw [hm,hq,<- eT]; exact posT
 ·intro hin; rw [hm,hq,<- earns,<- pays]; exact fair h hin
 ·rw [hm,hq]; exact fair
 ·rw [hm,hq]; exact pays
 ·rw [hm,hq]; exact earns
 ·rw [hm,hq]
  refine ⟨?_,?_,λ x hx=>?_,λ x hx=>?_,?_,pos,d4⟩
  ·rw [bX,la,gh.lt]; lia
  ·rw [bX,dL,la,gh.lt,gh.lg]; lia
  ·have:=anb x (gK hx)
   exact ⟨this.1,this.2.mono (by decide)⟩
  ·have:=anb x (fL (gK hx))
   exact ⟨this.1,this.2.mono (by decide)⟩
  ·exact a9N (λ x hx=>(anb x (fL hx)).2) (by rw [dL,la]; lia)
 ·rw [hm,hq]
  exact a7k hz λ x hx=>(anb x (fL hx)).1
end Rim
namespace L2
open PySem PySem.Spec PyProof.Rows
theorem a8a {P:Program} {w:World} {K:W.Frag} {mg mb:Str->Option Value} {CX:CXT} {k:Nat} {fa a:Addr} {fd:FuncData} {x:Str} {sp:Sp} {s₁:Shared} {vs:List Value} {ns:List Int} {Ps:List Addr}
  (KX:K.In s₁.heap) (hns:s₁.heap.Ns mainGlobals mg) (hb:s₁.heap.Ns builtinsNs mb) (hbb:∀ x:Str,x≠"__name__"->mb x=bootBuiltins x) (hlim:s₁.heap.NoLimit) (hg:s₁.gens=#[])
  (ha:s₁.heap.get? a=some { cls:=.type "list",data:=.seq vs.toArray }) (hi:IntsAre vs ns) (hl:ns.length<=sizeLine) (hr:Room k callerA)
  (hT:∀ p∈Ps,∃ c,s₁.heap.TableAt c p #[]) (hKP:∀ p∈Ps,K.lookup p=none) (BM:S4 mg s₁.heap)
  (F:∀ base:Heap,K.In base->base.Ns mainGlobals mg->S4 mg base->FnOk P w K mg base CX k fa fd [x] sp) (hbind:∀ (s:Shared) (u:Value),BindsTo s fd ⟨[u],[]⟩ [(x,u)])
  (hsp:∀ H:Hp,(∀ p∈Ps,H p=some (.tbl #[]))->SqL K H a (ns.map V.int)->sp [.ref a] H (λ v _=>v=.bl true) λ _ _ _=>False)
  (hCX:∀ H e s',CX [] H s₁ (λ _ _ _=>False) e s'->False) :
  codeAny (model P w) callerA (.call (.ref fa) ⟨[.ref a],[]⟩) (λ r s'=>r=.ok (.ret (.bool true))/\OldK s₁.heap s'.heap/\s'.os=s₁.os/\AllBare s'.gens) s₁:=by
 have rv:=a2M hi;have lenV:=hi.length;have tabObj:∀ p∈Ps,s₁.heap.get? p=some { cls:=.none,data:=.fields #[] }:=λ p hp=>by
  obtain ⟨c,z⟩:=hT p hp;exact z.2
 have core:∀ H:Hp,(∀ b,H b=none\/(∃ o xs,H b=some (.frz o (.lst xs)))\/(b∈Ps/\H b=some (.tbl #[])))->(∀ p∈Ps,H p=some (.tbl #[]))->SqL K H a (ns.map V.int)->HOk P w H s₁.heap->(∀ b,H b≠none->b=a\/b∈Ps)->(H a≠none->K.lookup a=none) →
   codeAny (model P w) callerA (.call (.ref fa) ⟨[.ref a],[]⟩) (λ r s'=>r=.ok (.ret (.bool true))/\OldK s₁.heap s'.heap/\s'.os=s₁.os/\AllBare s'.gens) s₁:=by
  intro H hO hP hS hok hA hK;have base_of:∀ {b:Addr} {o:Obj},s₁.heap.get? b=some o->H b=none->(a2K s₁.heap H).get? b=some o:=λ e n=>a9Q e n;have noA:∀ {b:Addr} {o:Obj} {es:Array DictEntry} {ep:Nat},s₁.heap.get? b=some o->o.data=.dict es ep->H b=none:=λ {b o es ep} e d=>by
   cases q:H b with
   | none=>rfl
   | some u =>
    rcases hA b (by rw [q]; simp) with e' | e'
    ·subst e'
     rw [ha] at e; cases e;have d':Data.seq vs.toArray _=Data.dict es ep:=d
     cases d'
    ·rw [tabObj b e'] at e; cases e
     have d':Data.fields #[]=Data.dict es ep:=d
     cases d'
  have nsK:∀ {b:Addr} {m:Str->Option Value},s₁.heap.Ns b m->(a2K s₁.heap H).Ns b m:=λ {b m} ⟨o,es,ep,e,d,r⟩=>⟨o,es,ep,base_of e (noA e d),d,r⟩;have hKb:K.In (a2K s₁.heap H):=λ b o e=>base_of (KX b o e) (by
   cases q:H b with
   | none=>rfl
   | some u =>
    rcases hA b (by rw [q]; simp) with e' | e'
    ·subst e'
     rw [hK (by rw [q]; simp)] at e; cases e
    ·rw [hKP b e'] at e; cases e)
  have hM:Mod K mg (a2K s₁.heap H):=⟨hKb,nsK hns,⟨mb,nsK hb,hbb⟩,let ⟨mc,h1,h2⟩:=hlim; ⟨mc,nsK h1,h2⟩⟩;have BM':S4 mg (a2K s₁.heap H):=by
   obtain ⟨bm,ob,b1,b2,b3,b4,b5,b6⟩:=BM;refine ⟨bm,ob,b1,b2,base_of b3 ?_,b4,b5,b6⟩
   cases q:H bm with
   | none=>rfl
   | some u =>
    rcases hA bm (by rw [q]; simp) with e' | e'
    ·subst e'
     rw [ha] at b3; cases b3; exact absurd b4 (by intro z; injection z with z; exact absurd z (by decide))
    ·rw [tabObj bm e'] at b3; cases b3; cases b4
  have e0:Env0 P w K mg (a2K s₁.heap H) callerA [] s₁ H:=⟨rfl,hM,λ b o e=>b1L e,iR (a7C _ _),trivial,λ b hb=>absurd (show b∈([]:List Addr) from hb) (by simp),hok,.of_eq hg⟩;refine codeAny_mono ((F _ hKb (nsK hns) BM').run callerA [] s₁ H ⟨[.ref a],[]⟩ [.ref a] [.ref a] _ _ hr e0 (hbind s₁ (.ref a)) (.cons rfl .nil) (hsp H hP hS)) λ r s' h=>?_
  cases r with
  | error e=>exact (hCX H e s' h).elim
  | ok fl =>
   cases fl with
   | next=>exact dB h
   | brk=>exact dB h
   | cont=>exact dB h
   | ret u =>
    obtain ⟨v,H',os,bare,un,hok',r',q⟩:=h;have q':v=.bl true:=q;subst q';obtain rfl:u=Value.bool true:=r';refine ⟨rfl,⟨λ b o e=>?_,λ b o e=>un.there b o e (by simp)⟩,os,bare⟩;rcases hO b with q | ⟨ob,xs,z⟩ | ⟨hbP,z⟩
    ·exact .inl (un.keep b o e q (by intro z; exact absurd (show b∈([]:List Addr) from z) (by simp)) (by simp))
    ·have z2:=un.frzs b ob _ z
     obtain ⟨e1,_⟩:=hok b _ z;obtain ⟨e2,_⟩:=hok' b _ z2;rw [e] at e1; cases e1;exact .inl e2
    ·obtain ⟨more,z2⟩:=un.tbls b _ z
     have e2:s'.heap.get? b=some { cls:=.none,data:=.fields (#[]++more) }:=hok' b _ z2;rw [tabObj b hbP] at e; cases e;obtain ⟨c,ht⟩:=hT b hbP;exact .inr (.inl ⟨ht.isCodeTable,rfl,#[],more,rfl,e2⟩)
 have aP:a ∉ Ps:=λ z=>by
  have:=tabObj a z;rw [ha] at this; cases this
 cases hk:K.lookup a with
 | some o =>
  have e:=KX a o hk;rw [ha] at e
  cases e;refine core (λ b=>if b∈Ps then some (.tbl #[]) else none) (λ b=>?_) (λ p hp=>if_pos hp) (.inr ⟨_,vs.toArray,_,hk,rfl,rfl,rfl,by rw [bM,lenV]; exact hl,by simpa using rv⟩) (λ b u z=>?_) (λ b z=>?_) λ z=>absurd (if_neg aP) z
  ·by_cases hb:b∈Ps
   ·exact .inr (.inr ⟨hb,if_pos hb⟩)
   ·exact .inl (if_neg hb)
  ·by_cases hb:b∈Ps
   ·have z':=(if_pos hb).symm.trans z
    cases z';exact tabObj b hb
   ·have z':=(if_neg hb).symm.trans z
    cases z'
  ·by_cases hb:b∈Ps
   ·exact .inr hb
   ·exact absurd (if_neg hb) z
 | none =>
  refine core (λ b=>if b=a then some (.frz { cls:=.type "list",data:=.seq vs.toArray } (.lst (ns.map V.int))) else if b∈Ps then some (.tbl #[]) else none) (λ b=>?_) (λ p hp=>?_) (.inl (.inr ⟨{ cls:=.type "list",data:=.seq vs.toArray },if_pos rfl⟩)) (λ b u z=>?_) (λ b z=>?_) λ _=>hk
  ·by_cases hb:b=a
   ·exact .inr (.inl ⟨_,_,if_pos hb⟩)
   ·by_cases hb2:b∈Ps
    ·exact .inr (.inr ⟨hb2,(if_neg hb).trans (if_pos hb2)⟩)
    ·exact .inl ((if_neg hb).trans (if_neg hb2))
  ·have hb:p≠a:=λ z=>aP (z ▸ hp)
   exact (if_neg hb).trans (if_pos hp)
  ·by_cases hb:b=a
   ·have z':=(if_pos hb).symm.trans z
    cases z';subst hb;exact ⟨ha,by rw [aA]; exact hl,vs,_,rv,ha⟩
   ·by_cases hb2:b∈Ps
    ·have z':=((if_neg hb).trans (if_pos hb2)).symm.trans z
     cases z';exact tabObj b hb2
    ·have z':=((if_neg hb).trans (if_neg hb2)).symm.trans z
     cases z'
  ·by_cases hb:b=a
   ·exact .inl hb
   ·by_cases hb2:b∈Ps
    ·exact .inr hb2
    ·exact absurd ((if_neg hb).trans (if_neg hb2)) z
theorem walk_ofT {l:W.OpenLaw} {n k:Nat} {q:Program} {loose:List Str} {XP:(Str->Option Value)->Heap->Prop} {YP:World->Heap->Prop} {d:DefRec} {K:Params->W.Frag} {CX:World->CXT} {sp:World->Sp} {x:Str} {Ts:List (Addr×Addr)}
  (hn:l.most=some n) (hn2:n<=sizeLine) (hdf:d.params.defaults=[]) (hr:Room k callerA)
  (hY:∀ (w:World) (h:Heap),YP w h->(K w.params).In h/\∀ t∈Ts,h.get? t.2=some (W.tabObj #[]))
  (hC:∀ (w:World),∀ t∈Ts,W.codeHdIn (K w.params) t.1 t.2=true/\(K w.params).lookup t.2=none)
  (F:∀ (w:World) (mg:Str->Option Value) (fa:Addr) (h:Heap),(K w.params).In h->h.Ns mainGlobals mg->mg d.name=some (.ref fa) →
   ∃ fd:FuncData,(∀ (s:Shared) (u:Value),BindsTo s fd ⟨[u],[]⟩ [(x,u)]) ∧
    ∀ base:Heap,(K w.params).In base->base.Ns mainGlobals mg->S4 mg base->(∀ t∈Ts,W.CodeHd base t.1 t.2)->FnOk l.prog w (K w.params) mg base (CX w) k fa fd [x] (sp w))
  (hsp:∀ (w:World) (H:Hp) (a:Addr) (ns:List Int),ns.length<=n->(∀ t∈Ts,H t.2=some (.tbl #[]))->SqL (K w.params) H a (ns.map V.int)->sp w [.ref a] H (λ v _=>v=.bl true) λ _ _ _=>False)
  (hCX:∀ (w:World) (H:Hp) (s:Shared) (e:Value) (s':Shared),CX w [] H s (λ _ _ _=>False) e s'->False) :
  W.WalkO q loose XP YP l.row.toRowW d [] (λ f vs=>iW f vs):=by
 refine Att.attach_call hn hdf λ w s₀ s₁ mg mb fa o pm cd doc a vs ns G Y ho hd hcd hmg hobj hints hlen hg=>?_;obtain ⟨KX,hTb⟩:=hY w _ Y;obtain ⟨fd,hb,hF⟩:=F w mg fa _ KX G.T.g hmg;have mem:∀ p∈Ts.map (·.2),∃ t∈Ts,t.2=p:=λ p hp=>by
  obtain ⟨t,h1,h2⟩:=aK.mp hp;exact ⟨t,h1,h2⟩
 refine a8a (Ps:=Ts.map (·.2)) KX G.T.g G.T.b G.T.builtins G.T.nolimit hg hobj hints (bA hlen hn2) hr (λ p hp=>?_) (λ p hp=>?_) G.T.bmain (λ base kb nb bm=>hF base kb nb bm λ t ht=>W.codeHd_of_K kb (hC w t ht).1) hb (λ H hP hS=>hsp w H a ns hlen (λ t ht=>hP _ (List.mem_map_of_mem ht)) hS) λ H e s'=>hCX w H s₁ e s'
 ·obtain ⟨t,h1,rfl⟩:=mem p hp
  exact ⟨t.1,(W.codeHd_of_K KX (hC w t h1).1).tab (hTb t h1)⟩
 ·obtain ⟨t,h1,rfl⟩:=mem p hp
  exact (hC w t h1).2
end L2
namespace L2
open PySem
theorem Y7 {X:Cx} {P:Program} {w:World}:M6 (CX1 P w) X E0:=λ _ _ _ _ _ _ _ ⟨_,_,_,_,_,_,_,h⟩=>h.elim
theorem Same.to1 {P:Addr} {H H':Hp} (e:Same H H'):Same1 P H H':=λ b o _ h=>e b o h
theorem Same1.refl {P:Addr} {H:Hp}:Same1 P H H:=λ _ _ _ h=>h
theorem Same1.trans {P:Addr} {H H1 H2:Hp} (a:Same1 P H H1) (b:Same1 P H1 H2):Same1 P H H2:=λ c o n h=>b c o n (a c o n h)
theorem Same1.write {P a:Addr} {H H':Hp} {o:HO} (e:Same1 P H H') (h:H a=none):Same1 P H (upd H' a o):=λ b u n q=>by
 rw [d0 (i8 q h)]; exact e b u n q
theorem Same1.get {P:Addr} {pos:Pos} {qual:Str} {H H':Hp} {b:Addr} {o:HO} (T:LamTab P pos qual H) (e:Same1 P H H') (h:H b=some o) (n:∀ ps,o≠.tbl ps):H' b=some o:=e b o (λ z=>by
 subst z;rcases T with t | ⟨c,t,_⟩
 ·rw [h] at t; exact n _ (aM t)
 ·rw [h] at t; exact n _ (aM t)) h
theorem LamTab.write {P a:Addr} {pos:Pos} {qual:Str} {H:Hp} {xs:List V} {o:HO} (T:LamTab P pos qual H) (h:H a=some (.lst xs)):LamTab P pos qual (upd H a o):=by
 rcases T with e | ⟨c,e1,e2⟩
 ·exact .inl (by rw [d0 (λ z=>by rw [z,h] at e; cases e)]; exact e)
 ·exact .inr ⟨c,by rw [d0 (λ z=>by rw [z,h] at e1; cases e1)]; exact e1,by rw [d0 (λ z=>by rw [z,h] at e2; cases e2)]; exact e2⟩
end L2
namespace Rim
open PySem L2 Fr
theorem W7 {j:Nat} (h:j<=1000):((j:Int)).natAbs.log2<1920:=by
 rw [Int.natAbs_natCast]
 by_cases h0:j=0
 ·subst h0; decide
 ·exact lQ ((jB h0).mpr (eR h (show 1000<2 ^ 10 by decide))) (by decide)
section
variable {P:Program} {w:World} {K:W.Frag} {mg:Str->Option Value} {base:Heap} {f Pt d:Addr} {fd:FuncData} {n:Nat} {C:Addr}
end
section
variable {P:Program} {w:World} {K:W.Frag} {mg:Str->Option Value} {base:Heap} {f Pt d:Addr} {fd:FuncData} {n:Nat} {C:Addr}
end
structure b6j (z:Str) (hs:List i7) (h:i7) (S:Lp.Bo) (kt kg:Nat) (ws:List Int):Prop where
 lw:ws.length=hs.length
 nn:∀ x∈ws,0<=x/\Big 20000 x
 size:a1T z ws.sum (S.T (mE hs) (qE z h))
 takes:∀ j,j<kt->D9 hs ws 0 j<=h.1.getD j 0*S.T (mE hs) (qE z h)
 gives:∀ j,j<kg->h.2.getD j 0*S.d<=D9 hs ws 1 j
 pos:0<S.T (mE hs) (qE z h)
 le:S.T (mE hs) (qE z h)<=S.d
 fair:∀ g∈hs,earn g (pgA h (p7 (mE hs) (qE z h) S)) (psA z h (p7 (mE hs) (qE z h) S))<=pay g (ptA h (p7 (mE hs) (qE z h) S))
 pays:pay h (ptA h (p7 (mE hs) (qE z h) S)) - psA z h (p7 (mE hs) (qE z h) S)=S.d
 gvs:t7 h.2 (pgA h (p7 (mE hs) (qE z h) S))=S.T (mE hs) (qE z h)
 pr:PrN (ptA h (p7 (mE hs) (qE z h) S)) (pgA h (p7 (mE hs) (qE z h) S)) (psA z h (p7 (mE hs) (qE z h) S)) (S.T (mE hs) (qE z h)) kt kg
 sign:a0K z (psA z h (p7 (mE hs) (qE z h) S))
section
variable {P:Program} {w:World} {K:W.Frag} {mg:Str->Option Value} {base:Heap} {f Pt d CN:Addr} {fd:FuncData} {n:Nat} {C:Addr}
end
end Rim
namespace Lp
section
variable {m q:Nat} {A:Nat->Nat->Int} {b c:Nat->Int} {S:Bo}
theorem Of.bounded1 (O:Of m q A b c S) {l cc:Nat} (hl:l<m) (hA:∀ j,j<q->A l j=c j) (hc:cc<q) (neg:S.T m cc<0) (no:∀ i,i<m->¬ 0<S.T i cc):False:=by
 have K0:=(O.k _).mp (O.w.ray_ker (c:=cc) (by omega));obtain ⟨rows,goal⟩:=ker0.mp K0;have zc:ray m S cc (q+m+1)=0:=by
  rw [<- O.w.oq];exact O.w.ray_out (by omega) (by omega) (by omega)
 have zg:ray m S cc (q+m) = - S.T m cc:=by
  rw [<- O.w.im];exact O.w.ray_in (by omega) (by omega)
 have nl:0<=ray m S cc (q+l):=by
  rcases O.w.all (q+l) (by omega) with ⟨i,hi,e⟩ | ⟨j,hj,e⟩
  ·rw [<- e,O.w.ray_in (by omega) (by omega)]
   have:=no i hi;omega
  ·rw [<- e]
   by_cases hjc:j=cc
   ·subst hjc
    rw [Wf.ray_c];exact aN O.w.pos
   ·rw [O.w.ray_out (by omega) (by omega) hjc]; exact bO _
 have rl:=rows l hl;rw [zc,bJ,dH] at rl;have e:sumTo (λ j=>c j*ray m S cc j) q=sumTo (λ j=>A l j*ray m S cc j) q:=sum_congr λ j hj=>by rw [hA j hj]
 rw [zg,e] at goal;omega
end
end Lp
namespace Rim
open PySem L2 Fr
def Q8 (z:Str) (g:i7):List Int:=A5 z g++[g.2.sum - g.1.sum]
def J1 (z:Str) (h:i7):List Int:=aI (h.1.length+h.2.length+(K1 z).length) 0++[1]
def J4 (z:Str) (hs:List i7) (h:i7):List (List Int):=hs.map (Q8 z)++[(Q8 z h).map (λ x=>-x),J1 z h]
def X6 (hs:List i7):List Int:=aI hs.length 0++[0,1]
abbrev mF (hs:List i7):Nat:=hs.length+2
abbrev qF (z:Str) (h:i7):Nat:=h.1.length+h.2.length+(K1 z).length+1
abbrev OfF (z:Str) (hs:List i7) (h:i7) (S:Lp.Bo):Prop:=Lp.Of (mF hs) (qF z h) (S6 (J4 z hs h)) (G6 (X6 hs)) (G6 (J1 z h)) S
def a6E (z:Str) (hs:List i7) (h:i7) (S:Lp.Bo):Prop:=OfF z hs h S/\(∀ j,j<qF z h->¬ S.T (mF hs) j<0)/\Sz 4000 (mF hs) (qF z h) S
theorem b2r:(["takes","gives"]:List Str).Nodup:=by decide +kernel
theorem b1Y:(["row","floor"]:List Str).Nodup:=by decide +kernel
theorem b4r:(["one"]:List Str).Nodup:=by decide +kernel
section
variable {P:Program} {w:World} {K:W.Frag} {mg:Str->Option Value} {base:Heap} {f Pt d:Addr} {fd:FuncData} {n:Nat} {C:Addr}
def a6C (K:W.Frag) (Pt:Addr):Sp:=λ vs H Q _=>∃ (ba:Addr) (xs:List V) (hs:List i7) (i:Nat) (h:i7) (z:Str) (far:Int) (kt kg:Nat),vs=[.ref ba,.int i,.str z]/\Szw z/\P4 K H ba xs hs far kt kg/\far<=2 ^ 50/\hs[i]?=some h/\LT Pt H ∧
 ∀ (S:Lp.Bo) (H':Hp) (t aa wa:Addr),a6E z hs h S->Same1 Pt H H'->LT Pt H'->H' t=some (.tup [.int (S.T (mF hs) (qF z h)),.ref aa,.ref wa,.int S.d]) →
  H' aa=some (.lst ((p7 (mF hs) (qF z h) S).map V.int))->H' wa=some (.lst ((D0 (mF hs) (qF z h) S).map V.int))->Q (.ref t) H'
theorem scFl:r8 ["houses","number","sizes","rows","floors","firm","goal"] ["houses","number","sizes"] (i9 a0G):=⟨rfl,rfl,rfl,by decide +kernel,rfl,by decide +kernel,by decide +kernel⟩
noncomputable def flT {cdv:Value} {A:Around} {outer:List Env} {s:Shared} {H:Hp} {E:XK} {f1 f2:Addr} {d1 d2:FuncData} (N:A3 mg) (Cg:SCal P w K mg base n "greatest" ["goal","rows","bounds"] (N6 K C Pt) f1 d1) (Ch:SCal P w K mg base n "house_rows" ["houses","sizes"] (M4 K) f2 d2)
  (hr:Room n (A.deeper (dU "greatest_floor" (i9 a0G) s.heap.objs.size f cdv))) :
  { t:TS // PSs (J6 J7 P w K mg base ["houses","number","sizes","rows","floors","firm","goal"] "greatest_floor" (i9 a0G) f cdv A outer s H E).nox (v4 a0G) t } :=
 ⟨_,j0 (p6 (i:=3) scFl.nd rfl (aC rfl) (m6 Ch.ok hr rfl Ch.m Ch.k Ch.b .nil u0 (c5 (pv 0) (c5 (pv 2) c7))))
  (r6 (P5 (i:=4) ["takes","gives"] [] scFl.nd rfl rfl rfl (w8 (pv 0)) (λ _ _ _ _=>K8 K (n:=2) rfl rfl (j7 (j3 (i:=0) b2r rfl (aC rfl)) (j7 (j3 (i:=1) b2r rfl (aC rfl)) x9)))
   (λ _ _ _ _=>j5 a3w (m9 (a6k K rfl rfl) rfl N.sum iK (c5 (pv 1) c7)) (m9 (a6k K rfl rfl) rfl N.sum iK (c5 (pv 0) c7))))
  (r6 (P5 (i:=3) ["row","floor"] [] scFl.nd rfl rfl rfl (a4Y true true K rfl rfl N.zip (c5 (pv 3) (c5 (pv 4) c7))) (λ _ _ _ _=>K8 K (n:=2) rfl rfl (j7 (j3 (i:=0) b1Y rfl (aC rfl)) (j7 (j3 (i:=1) b1Y rfl (aC rfl)) x9)))
   (λ _ _ _ _=>j5 C2 (pv 0) (u9 (c5 (pv 1) c7))))
  (r6 (P5 (i:=5) ["one"] [] scFl.nd rfl rfl rfl (w8 (m8 j6 (pv 3) (pv 1) (λ _ _=>rfl))) (λ _ _ _ _=>j3 (i:=0) b4r rfl (aC rfl)) (λ _ _ _ _=>K2 D6 (pv 0)))
  (r6 (p6 (i:=6) scFl.nd rfl (aC rfl) (j5 C2 (j5 R8 (u9 (c5 h8 c7)) (j5 a3w (m9 j9 rfl N.len bQ (c5 (pv 5) c7)) h8)) (u9 (c5 h8 c7))))
  (j8 (v5 (m6 Cg.ok hr rfl Cg.m Cg.k Cg.b .nil u0 (c5 (pv 6) (c5 (j5 C2 (pv 3) (u9 (c5 (pv 5) (c5 (pv 6) c7))))
   (c5 (j5 C2 (j5 R8 (u9 (c5 h8 c7)) (m9 j9 rfl N.len bQ (c5 (pv 0) c7))) (u9 (c5 h8 (c5 h8 c7)))) c7))))))))))⟩
end
theorem a3F:∀ {l:List Int} {M:Nat},(∀ x∈l,x.natAbs<=M)->l.sum.natAbs<=l.length*M
 | [],_,_=>by simp
 | a::r,M,h=>by
  have h1:=h a (.head _);have h2:=a3F (l:=r) (M:=M) λ x hx=>h x (.tail _ hx);rw [bC,cV,gO];omega
theorem a5l {z:Str} {g:i7} {far:Int} {kt kg:Nat} (hg:HG far kt kg g) (hf:far<=2 ^ 50) (hkt:kt<=20) (hkg:kg<=20):∀ x∈Q8 z g,x.natAbs<=2 ^ 60:=λ x hx=>by
 have ht:∀ x∈g.1,x.natAbs<=2 ^ 50:=λ x hx=>by have:=hg.t x hx; omega
 have hg':∀ x∈g.2,x.natAbs<=2 ^ 50:=λ x hx=>by have:=hg.g x hx; omega
 have p:(2:Nat) ^ 50<=2 ^ 60:=by decide
 unfold Q8 A5 at hx;rcases aT.mp hx with hx | hx
 ·rcases aT.mp hx with hx | hx
  ·rcases aT.mp hx with hx | hx
   ·obtain ⟨y,hy,rfl⟩:=aK.mp hx
    have:=ht y hy;rw [gH]; omega
   ·have:=hg' x hx; omega
  ·exact a0p z x hx
 ·rw [bH.mp hx]
  have h1:=a3F ht;have h2:=a3F hg';rw [hg.lt] at h1;rw [hg.lg] at h2;have h3:kt*2 ^ 50<=20*2 ^ 50:=iH _ hkt;have h4:kg*2 ^ 50<=20*2 ^ 50:=iH _ hkg;have h5:20*2 ^ 50+20*2 ^ 50<=(2:Nat) ^ 60:=by decide
  omega
theorem P6 {z:Str} {g:i7}:(Q8 z g).length=g.1.length+g.2.length+(K1 z).length+1:=by unfold Q8 A5; simp [lN]
theorem b3R {z:Str} {hs:List i7} {h:i7} {far:Int} {kt kg:Nat} (hh:HG far kt kg h) (hhs:∀ h∈hs,HG far kt kg h) (hf:far<=2 ^ 50) (hkt:kt<=20) (hkg:kg<=20) (q:Nat) :
  ∀ v,Lp.Fits (2 ^ 60) (mF hs+1) (Lp.Vv (mF hs) q (S6 (J4 z hs h)) (G6 (X6 hs)) (G6 (J1 z h)) v):=by
 have z0:∀ k:Nat,∀ x∈List.replicate k (0:Int),x.natAbs<=2 ^ 60:=λ k x hx=>by rw [(iF.mp hx).2]; decide
 have goal:∀ x∈J1 z h,x.natAbs<=2 ^ 60:=λ x hx=>by
  unfold J1 at hx;rcases aT.mp hx with hx | hx
  ·exact z0 _ x hx
  ·rw [bH.mp hx]; decide
 have rows:∀ r∈J4 z hs h,∀ x∈r,x.natAbs<=2 ^ 60:=λ r hr x hx=>by
  unfold J4 at hr;rcases aT.mp hr with hr | hr
  ·obtain ⟨g,hg,rfl⟩:=aK.mp hr
   exact a5l (hhs g hg) hf hkt hkg x hx
  ·simp only [aL,bV,or_false] at hr
   rcases hr with rfl | rfl
   ·obtain ⟨y,hy,rfl⟩:=aK.mp hx
    have:=a5l (z:=z) hh hf hkt hkg y hy;rw [gH]; exact this
   ·exact goal x hx
 have bnds:∀ x∈X6 hs,x.natAbs<=2 ^ 60:=λ x hx=>by
  unfold X6 at hx;rcases aT.mp hx with hx | hx
  ·exact z0 _ x hx
  ·simp only [aL,bV,or_false] at hx
   rcases hx with rfl | rfl <;> decide
 intro v i _;unfold Lp.Vv
 split
 ·split
  ·unfold S6
   refine Q5 (λ x hx=>?_) v;rw [aG] at hx
   cases e:(J4 z hs h)[i]? with
   | none=>rw [e] at hx; cases hx
   | some r=>rw [e] at hx; exact rows r (aU e) x hx
  ·split
   ·rw [gH]; exact Q5 goal v
   ·exact bW _
 ·split
  ·split <;> decide
  ·split
   ·exact Q5 bnds i
   ·exact bW _
theorem a6d {z:Str} {hs:List i7} {h:i7} (j:Nat):S6 (J4 z hs h) (hs.length+1) j=G6 (J1 z h) j:=by
 have:(J4 z hs h)[hs.length+1]?=some (J1 z h):=by
  unfold J4;rw [bU (by simp),aA,eN]; rfl
 rw [V9 this]; rfl
section
variable {P:Program} {w:World} {K:W.Frag} {mg:Str->Option Value} {base:Heap} {f Pt d:Addr} {fd:FuncData} {n:Nat} {C:Addr}
theorem a8R {H':Hp} {rs:List Addr} {hs:List i7} {z:Str} (hl:rs.length=hs.length) (h:∀ (i:Nat) a g,rs[i]?=some a->hs[i]?=some g->H' a=some (.lst ((Q8 z g).map V.int))):RowsL K H' (rs.map V.ref) (hs.map (Q8 z)):=by
 induction hs generalizing rs with
 | nil =>
  cases rs with
  | nil=>exact .nil
  | cons a r=>simp at hl
 | cons g hs ih =>
  cases rs with
  | nil=>simp at hl
  | cons a r=>exact .cons ⟨a,rfl,SqL.of (h 0 a g rfl rfl)⟩ (ih (by simpa using hl) λ i b g' h1 h2=>h (i+1) b g' (by simpa using h1) (by simpa using h2))
theorem a9G {f1 f2:Addr} {d1 d2:FuncData} (F:Fun K "greatest_floor" "greatest_floor" a0G f fd) (N:A3 mg) (Cg:SCal P w K mg base n "greatest" ["goal","rows","bounds"] (N6 K C Pt) f1 d1) (Ch:SCal P w K mg base n "house_rows" ["houses","sizes"] (M4 K) f2 d2) :
  FnOk P w K mg base J7 (n+1) f fd ["houses","number","sizes"] (a6C K Pt):=by
 refine F.ok scFl (λ vs H Q E h=>?_) (λ cdv A outer s H vs Q E hr h=>?_)
 ·obtain ⟨ba,xs,hs,i,h,z,far,kt,kg,rfl,_⟩:=h
  rfl
 obtain ⟨ba,xs,hs,i,h,z,far,kt,kg,rfl,hz,B,hf,hh,L,k⟩:=h;refine ⟨_,(flT N Cg Ch hr).2,?_⟩;have xl:xs.length=hs.length:=Paired.length B.b;have few:=B.few;have k20:=B.t;have k21:=B.k;have sg:=V4 z;have gh:=B.g h (aU hh);have hil:i<hs.length:=(aY.mp hh).1;have s1k:=j4 (show (1000:Nat)<=1000 from aF _);have lrow:∀ g∈hs,(Q8 z g).length=kt+kg+(K1 z).length+1:=λ g hg=>by rw [P6,(B.g g hg).lt,(B.g g hg).lg]
 refine ⟨_,rfl,_,rfl,ba,xs,hs,z,kt,kg,rfl,hz,B.l,B.b,by omega,by omega,by omega,λ g hg=>⟨(B.g g hg).lt,(B.g g hg).lg⟩,λ r H1 rs e1 hr1 lr hrs=>?_⟩;refine ⟨λ σ' H2=>∃ fl:Addr,σ'=[some (.ref ba),some (.int i),some (.str z),some (.ref r),some (.ref fl),none,none]/\Same H1 H2/\H2 fl=some (.lst ((hs.map λ g=>g.2.sum - g.1.sum).map V.int)),?_,?_⟩
 ·refine ⟨_,rfl,ba,rfl,⟨_,e1.seq B.l⟩,λ l hl=>?_⟩
  refine D3 (t8 (e1.seq B.l)) hl (by omega) (λ j y _=>∃ g,hs[j]?=some g/\y=.int (g.2.sum - g.1.sum)) (λ _ _ _ _ r _=>r) (λ j x H2 ys N' hx e hl2 hN=>?_) (λ ys H2 e hl2 len pr=>?_)
  ·obtain ⟨g,hg,⟨a,ta,ga,rfl,p1,p2,p3⟩⟩:=Paired.at B.b hx
   have e':=e1.trans e;refine ⟨a,_,rfl,e'.tseq p1,rfl,_,_,rfl,_,_,rfl,rfl,?_,?_⟩
   ·refine ⟨by simp,λ k w ek=>?_⟩
    have:¬ k<2:=λ hk=>by
     unfold blkσ at ek;rw [bF (by simpa using hk),dI] at ek
     split at ek <;> cases ek
    rw [bS (by omega),bS (by omega)]; exact ek
   exact ⟨_,rfl,ga,_,rfl,.inr (e'.tseq p3),_,rfl,ta,_,rfl,.inr (e'.tseq p2),_,_,rfl,rfl,hN _ _ (Same.refl _) ⟨g,hg,rfl⟩⟩
  ·refine ⟨l,rfl,e,?_⟩
   rw [hl2]
   congr 2
   refine cC λ j=>?_
   by_cases hj:j<ys.length
   ·obtain ⟨g,g1,g2⟩:=pr j _ (aD hj)
    rw [aD hj,g2,aE,aE,g1]; rfl
   ·rw [aW (by omega),aW (by rw [aA,aA]; omega)]
 rintro σ1 H2 ⟨fl,rfl,e2,hfl⟩;refine ⟨λ σ' H3=>∃ (ra:Addr) (rs':List Addr),σ'=[some (.ref ba),some (.int i),some (.str z),some (.ref ra),some (.ref fl),none,none]/\Same H2 H3/\H3 ra=some (.lst (rs'.map V.ref))/\rs'.length=hs.length/\∀ (j:Nat) a g,rs'[j]?=some a->hs[j]?=some g->H3 a=some (.lst ((Q8 z g).map V.int)),?_,?_⟩
 ·refine ⟨_,rfl,_,rfl,r,fl,rfl,⟨_,SqL.of (e2 _ _ hr1)⟩,⟨_,SqL.of hfl⟩,λ l hl=>?_⟩
  refine a3t (b1:=true) (b2:=true) (SqL.of (e2 _ _ hr1)) (SqL.of hfl) hl (by rw [aA,lr]; omega) (λ j y H3=>∃ a g,y=.ref a/\a≠l/\hs[j]?=some g/\H3 a=some (.lst ((Q8 z g).map V.int)))
   (λ j y H3 H4 ⟨a,g,h1,h2,h3,h4⟩ e=>⟨a,g,h1,h2,h3,e a _ h2 h4⟩) (λ j x y H3 zs N' hx hy e hl2 hN=>?_) (λ zs H3 e hl2 len pr=>?_)
  ·obtain ⟨ra,hra,rfl⟩:∃ ra,rs[j]?=some ra/\x=.ref ra:=by
    rw [aE] at hx
    cases q1:rs[j]? with
    | none=>rw [q1] at hx; cases hx
    | some v=>rw [q1] at hx; cases hx; exact ⟨v,rfl,rfl⟩
   have hjl:j<hs.length:=by rw [<- lr]; exact (aY.mp hra).1
   have hg:hs[j]?=some hs[j]:=aD hjl;have hrow:=hrs j ra _ hra hg;have hyv:y=.int (hs[j].2.sum - hs[j].1.sum):=by
    rw [aE,aE,hg] at hy;exact (aM hy).symm
   subst hyv;generalize hs[j]=g at *;have gg:=B.g g (aU hg);refine ⟨_,rfl,_,rfl,(by show 1<=sizeLine; decide),λ a1 h1=>?_⟩;have n1:ra≠a1:=i8 (e _ _ (e2 _ _ hrow)) h1;refine ⟨ra,a1,_,_,rfl,rfl,(by rw [d0 n1]; exact e _ _ (e2 _ _ hrow)),upd_same,?_,λ a2 h2=>?_⟩
   ·rw [aA]
    unfold A5;simp [gg.lt,gg.lg];omega
   have s2:=(Same.new h1 (.lst [V.int (g.2.sum - g.1.sum)])).trans (Same.new h2 (.lst ((A5 z g).map V.int++[V.int (g.2.sum - g.1.sum)])));refine hN _ _ s2 ⟨a2,g,rfl,λ zz=>?_,hg,?_⟩
   ·rw [zz,(Same.new h1 (.lst [V.int (g.2.sum - g.1.sum)])) _ _ hl2] at h2; cases h2
   ·rw [upd_same]
    unfold Q8;rw [bN]; rfl
  ·have hzs:zs=(zs.map a4y).map V.ref:=by
    rw [aS];refine cC λ j=>?_;rw [aE]
    cases qj:zs[j]? with
    | none=>rfl
    | some y =>
     obtain ⟨a,_,rfl,_⟩:=pr j y qj;rfl
   refine ⟨l,zs.map a4y,rfl,e,by rw [hl2]; rw [<- hzs],by rw [aA,len,aA,aA,aA,lr,Nat.min_self],λ j a g hj hg=>?_⟩;rw [aE] at hj
   cases qj:zs[j]? with
   | none=>rw [qj] at hj; cases hj
   | some y =>
    obtain ⟨a',g',rfl,_,h3,h4⟩:=pr j y qj;rw [qj] at hj;have:a'=a:=aM hj;subst this;rw [hg] at h3
    cases h3;exact h4
 rintro σ2 H3 ⟨ra,rs',rfl,e3,hra,lr',hrs'⟩;have hi':i<rs'.length:=by omega
 have hri:rs'[i]?=some rs'[i]:=aD hi';generalize rs'[i]=ri at hri;have hrow:=hrs' i ri h hri hh;refine ⟨λ σ' H4=>∃ fa:Addr,σ'=[some (.ref ba),some (.int i),some (.str z),some (.ref ra),some (.ref fl),some (.ref fa),none]/\Same H3 H4/\H4 fa=some (.lst (((Q8 z h).map λ x=>-x).map V.int)),?_,?_⟩
 ·refine ⟨_,rfl,_,rfl,ra,_,_,.ref ri,rfl,rfl,SqL.of hra,v8 (by rw [aE,hri]; rfl),ri,rfl,⟨_,SqL.of hrow⟩,λ l hl=>?_⟩
  refine U1 (t8 (SqL.of hrow)) hl (by rw [aA,lrow h (aU hh)]; omega) (λ x=>.int (-(vI x))) (λ j x H' N2 hx2 e2 hN2=>?_) ?_
  ·obtain ⟨x',rfl,_⟩:=K9 hx2
   exact ⟨Wk.set (by decide),_,rfl,_,rfl,hN2⟩
  have eg:((Q8 z h).map V.int).map (λ x=>V.int (-(vI x)))=((Q8 z h).map λ x=>-x).map V.int:=by rw [aS,aS]; rfl
  rw [eg];exact ⟨l,rfl,Same.new hl _,upd_same⟩
 rintro σ3 H4 ⟨fa,rfl,e4,hfa⟩;have lfa:(((Q8 z h).map λ x=>-x).map V.int).length=kt+kg+(K1 z).length+1:=by rw [aA,aA,lrow h (aU hh)]
 refine ⟨λ σ' H5=>∃ ga:Addr,σ'=[some (.ref ba),some (.int i),some (.str z),some (.ref ra),some (.ref fl),some (.ref fa),some (.ref ga)]/\Same H4 H5/\H5 ga=some (.lst ((J1 z h).map V.int)),?_,?_⟩
 ·refine ⟨(by show 1<=sizeLine; decide),λ a1 h1=>?_⟩
  have s1:=Same.new h1 (.lst [.int 0]);have ek:((kt+kg+(K1 z).length+1:Nat):Int) - 1=((h.1.length+h.2.length+(K1 z).length:Nat):Int):=by rw [gh.lt,gh.lg]; omega
  refine ⟨_,rfl,fa,_,rfl,.inl (SqL.of (s1 _ _ hfa)),_,_,rfl,rfl,a1,_,_,rfl,rfl,upd_same,by rw [lfa,ek]; omega,by rw [lfa,ek,gh.lt,gh.lg]; omega,by rw [lfa,ek,aV,gh.lt,gh.lg]; simp; omega,λ a2 h2=>?_⟩;rw [lfa,ek,aV,Q0];have s2:=s1.trans (Same.new h2 (.lst ((aI (h.1.length+h.2.length+(K1 z).length) (0:Int)).map V.int)));refine ⟨(by show 1<=sizeLine; decide),λ a3 h3=>?_⟩;have s3:=s2.trans (Same.new h3 (.lst [.int 1]));have n23:a2≠a3:=i8 upd_same h3;refine ⟨a2,a3,_,_,rfl,rfl,(by rw [d0 n23]; exact upd_same),upd_same,?_,λ a4 h4=>?_⟩
  ·rw [aA,cA,gh.lt,gh.lg]; simp; omega
  refine ⟨a4,rfl,s3.trans (Same.new h4 _),?_⟩;rw [upd_same];unfold J1;rw [bN]; rfl
 rintro σ4 H5 ⟨ga,rfl,e5,hga⟩;have e35:=e4.trans e5;refine ⟨_,rfl,_,rfl,_,rfl,_,rfl,(by show 2<=sizeLine; decide),λ a1 h1=>?_⟩;have s1:=Same.new h1 (.lst [V.ref fa,V.ref ga]);have nr1:ra≠a1:=i8 (e35 _ _ hra) h1;refine ⟨ra,a1,_,_,rfl,rfl,(by rw [d0 nr1]; exact e35 _ _ hra),upd_same,?_,λ a2 h2=>?_⟩
 ·rw [aA,lr']; simp; omega
 have s2:=s1.trans (Same.new h2 (.lst (rs'.map V.ref++[V.ref fa,V.ref ga])));refine ⟨(by show 1<=sizeLine; decide),λ a3 h3=>?_⟩;have s3:=s2.trans (Same.new h3 (.lst [.int 0]));have e05:=e1.trans (e2.trans (e3.trans e35));refine ⟨_,rfl,ba,_,rfl,.inl ((e05.trans s3).seq B.l),a3,_,_,rfl,rfl,upd_same,by omega,by rw [xl]; omega,by rw [xl,aV]; simp; omega,λ a4 h4=>?_⟩;rw [xl,aV,Q0];have s4:=s3.trans (Same.new h4 (.lst ((aI hs.length (0:Int)).map V.int)));refine ⟨(by show 2<=sizeLine; decide),λ a5 h5=>?_⟩;have s5:=s4.trans (Same.new h5 (.lst [.int 0,.int 1]));have n45:a4≠a5:=i8 upd_same h5;refine ⟨a4,a5,_,_,rfl,rfl,(by rw [d0 n45]; exact upd_same),upd_same,?_,λ a6 h6=>?_⟩
 ·rw [aA,cA]; simp; omega
 have s6:=s5.trans (Same.new h6 (.lst ((aI hs.length (0:Int)).map V.int++[.int 0,.int 1])));have eb:(aI hs.length (0:Int)).map V.int++[.int 0,.int 1]=(X6 hs).map V.int:=by unfold X6; rw [bN]; rfl
 have hA:=e05.trans s6;have g2:=(((Same.new h3 (.lst [.int 0])).trans (Same.new h4 (.lst ((aI hs.length (0:Int)).map V.int)))).trans (Same.new h5 (.lst [.int 0,.int 1]))).trans (Same.new h6 (.lst ((aI hs.length (0:Int)).map V.int++[.int 0,.int 1])));refine ⟨ga,a2,a6,J1 z h,rs'.map V.ref++[V.ref fa,V.ref ga],J4 z hs h,X6 hs,mF hs,qF z h,2 ^ 60,rfl,SqL.of (s6 _ _ hga),SqL.of (g2 _ _ upd_same),?_,?_,?_,?_,?_,?_,by show hs.length+2<900; omega,by show h.1.length+h.2.length+(K1 z).length+1<900; rw [gh.lt,gh.lg]; omega,?_,b3R gh B.g hf k20 k21 _,b1O _ (by show hs.length+2<20; omega),L.same hA,
  λ S H' t' aa wa O hn sz e' L' q1 q2 q3=>k S H' t' aa wa ⟨O,hn,sz⟩ (λ b o hb q'=>e' b o hb (hA b o q')) L' q1 q2 q3,λ S H' c O hc hneg hno e' L'=>(O.bounded1 (l:=hs.length+1) (by show hs.length+1<hs.length+2; omega) (λ j _=>a6d j) hc hneg hno).elim⟩
 ·unfold J4
  refine Paired.app ((a8R (K:=K) lr' hrs').same (e35.trans s6)) (.cons ⟨fa,rfl,SqL.of (s6 _ _ (e5 _ _ hfa))⟩ (.cons ⟨ga,rfl,SqL.of (s6 _ _ hga)⟩ .nil))
 ·rw [<- eb]; exact SqL.of upd_same
 ·unfold J4; simp
 ·unfold X6; simp
 ·unfold J1; simp
 ·intro r' hr'
  unfold J4 at hr';rcases aT.mp hr' with hr' | hr'
  ·obtain ⟨g,hg,rfl⟩:=aK.mp hr'
   rw [lrow g hg]
   show _=h.1.length+h.2.length+(K1 z).length+1
   rw [gh.lt,gh.lg]
  ·simp only [aL,bV,or_false] at hr'
   rcases hr' with rfl | rfl
   ·rw [aA,P6]
   ·unfold J1; simp
 ·intro j hj
  unfold G6 X6;rw [aG]
  by_cases h':j<hs.length
  ·rw [bF (by simpa using h'),dI,if_pos h']; exact bO _
  ·rw [bU (by simp; omega),cA]
   have hj':j<hs.length+2:=hj;have:j - hs.length=0\/j - hs.length=1:=by omega
   rcases this with q' | q' <;> rw [q'] <;> decide
end
structure b2l (z:Str) (hs:List i7) (h:i7) (pt pg:List Int) (ps:Int):Prop where
 lt:pt.length=h.1.length
 lg:pg.length=h.2.length
 tp:∀ x∈pt,0<x
 gp:∀ x∈pg,0<x
 sign:a0K z ps
 fair:∀ g∈hs,earn g pg ps<=pay g pt
 firm:earn h pg ps=pay h pt
def a1h (z:Str) (hs:List i7) (h:i7):Prop:=∃ pt pg ps,b2l z hs h pt pg ps
theorem a1z:∀ {l x y:List Int},x.length=y.length->t7 l (bB (·+·) x y)=t7 l x+t7 l y
 | [],x,y,_=>by simp [t7]
 | a::l,[],[],_=>by simp [t7]
 | a::l,b::x,c::y,h=>by
  have:=a1z (l:=l) (x:=x) (y:=y) (by simpa using h);unfold t7 at *;simp only [cN,bC];rw [this,eU]; omega
 | a::l,[],c::y,h=>by simp at h
 | a::l,b::x,[],h=>by simp at h
theorem U8:∀ {l:List Int} {k:Nat} {f:Int},l.length=k->t7 l (aI k f)=l.sum*f
 | [],k,f,_=>by simp [t7]
 | a::l,0,f,h=>by simp at h
 | a::l,k+1,f,h=>by
  have:=U8 (l:=l) (k:=k) (f:=f) (by simpa using h);unfold t7 at *;rw [eJ,cN,bC,this,bC,cD]
abbrev upL (xs:List Int) (f:Int):List Int:=xs.map (·+f)
theorem a9p {l xs:List Int} {f:Int} (h:l.length=xs.length):t7 l (upL xs f)=t7 l xs+l.sum*f:=by
 have e:upL xs f=bB (·+·) xs (aI xs.length f):=by
  unfold upL;refine cC λ i=>?_
  by_cases hi:i<xs.length
  ·rw [aE,hZ,dI,if_pos hi,aD hi]; rfl
  ·rw [aW (by simp; omega),aW (by simp; omega)]
 rw [e,a1z (by simp),U8 h]
theorem a0d {z:Str} {g h:i7} (h1:g.1.length=h.1.length) (h2:g.2.length=h.2.length) {xs:List Int} {fl:Int} (hl:xs.length=h.1.length+h.2.length+(K1 z).length) :
  t7 (Q8 z g) (xs++[fl])=earn g (upL (pgA h xs) fl) (psA z h xs) - pay g (upL (ptA h xs) fl):=by
 unfold Q8;rw [a0h (by unfold A5; simp [h1,h2,hl]; omega),a6X h1 h2];unfold earn pay;have e1:t7 g.2 (upL (pgA h xs) fl)=t7 g.2 (pgA h xs)+g.2.sum*fl:=a9p (by rw [h2,bX,dL]; omega);have e2:t7 g.1 (upL (ptA h xs) fl)=t7 g.1 (ptA h xs)+g.1.sum*fl:=a9p (by rw [h1,bX]; omega);dsimp only [t7] at *;rw [e1,e2,lD];omega
theorem a4M {m q:Nat} {S:Lp.Bo}:p7 m (q+1) S=(p7 m (q+1) S).take q++[Lp.valIn m S (q+1) q]:=by
 unfold p7;rw [fK,bN,gA (by simp)]; rfl
section
variable {z:Str} {hs:List i7} {h:i7} {S:Lp.Bo} {kt kg i:Nat}
theorem a0x (xs:List Int) (fl:Int) (hl:xs.length=h.1.length+h.2.length+(K1 z).length):t7 (J1 z h) (xs++[fl])=fl:=by
 unfold J1;rw [a0h (by simp [hl]),R4,fX,fH]
theorem b2p (i:Nat) {g:i7} (hg:hs[i]?=some g):(J4 z hs h)[i]?=some (Q8 z g):=by
 have hil:i<hs.length:=(aY.mp hg).1;unfold J4;rw [bF (by rw [aA]; exact hil),aE,hg]; rfl
theorem b2v:(J4 z hs h)[hs.length]?=some ((Q8 z h).map λ x=>-x):=by
 unfold J4;rw [bU (by simp),aA,eD]; rfl
theorem a1A (hi:i<=hs.length):(X6 hs).getD i 0=0:=by
 unfold X6;rw [C3,cA]
 by_cases h1:i<hs.length
 ·rw [if_pos h1,Q9]
 ·rw [if_neg h1,show i - hs.length=0 by omega]; rfl
theorem a4Z (hz:Szw z) (B:a6E z hs h S) (hk:∀ g∈hs,g.1.length=kt/\g.2.length=kg) (hh:hs[i]?=some h) (hp:0<S.T (mF hs) (qF z h)) :
  b2l z hs h (upL (ptA h ((p7 (mF hs) (qF z h) S).take (qE z h))) (S.T (mF hs) (qF z h))) (upL (pgA h ((p7 (mF hs) (qF z h) S).take (qE z h))) (S.T (mF hs) (qF z h))) (psA z h ((p7 (mF hs) (qF z h) S).take (qE z h))):=by
 obtain ⟨O,hn,sz⟩:=B;have kh:=hk h (aU hh);have hsp:p7 (mF hs) (qF z h) S=(p7 (mF hs) (qF z h) S).take (qE z h)++[Lp.valIn (mF hs) S (qF z h) (qE z h)]:=a4M;have la:(p7 (mF hs) (qF z h) S).length=qE z h+1:=by unfold p7; simp
 have lx:((p7 (mF hs) (qF z h) S).take (qE z h)).length=h.1.length+h.2.length+(K1 z).length:=by rw [bX,la]; show min (h.1.length+h.2.length+(K1 z).length) (h.1.length+h.2.length+(K1 z).length+1)=_; omega
 have nn:=a6A O;have eT:Lp.valIn (mF hs) S (qF z h) (qE z h)=S.T (mF hs) (qF z h):=by
  have:=a4N O (by unfold J1; simp);rw [hsp,a0x _ _ lx] at this;exact this
 generalize hxs:(p7 (mF hs) (qF z h) S).take (qE z h)=xs at *;have xnn:∀ x∈xs,0<=x:=λ x hx=>nn x (by rw [hsp]; exact cQ _ hx);have fair:∀ g∈hs,earn g (upL (pgA h xs) (S.T (mF hs) (qF z h))) (psA z h xs)<=pay g (upL (ptA h xs) (S.T (mF hs) (qF z h))):=λ g hg=>by
  obtain ⟨k,hk'⟩:=eE hg;have hkl:=(aY.mp hk').1;have kg':=hk g hg;have:=a4e O (i:=k) (by show k<hs.length+2; omega) (b2p k hk') (by rw [P6,kg'.1,kg'.2,kh.1.symm,kh.2.symm]);rw [hsp,a0d (h:=h) (by rw [kg'.1,kh.1]) (by rw [kg'.2,kh.2]) lx,a1A (by omega),dY,eT] at this;omega
 refine ⟨by simp [lx]; omega,by simp [lx]; omega,λ x hx=>?_,λ x hx=>?_,a7k hz λ x hx=>xnn x (fL hx),fair,?_⟩
 ·obtain ⟨y,hy,rfl⟩:=aK.mp hx
  have:=xnn y (gK hy); omega
 ·obtain ⟨y,hy,rfl⟩:=aK.mp hx
  have:=xnn y (fL (gK hy)); omega
 ·have f1:=fair h (aU hh)
  have:=a4e O (i:=hs.length) (by show hs.length<hs.length+2; omega) b2v (by rw [aA,P6]);rw [hsp,a0o,a0d (h:=h) rfl rfl lx,a1A (aF _),dY,eT] at this;omega
theorem a4X (hz:Szw z) (B:a6E z hs h S) (hk:∀ g∈hs,g.1.length=kt/\g.2.length=kg) (hh:hs[i]?=some h) (R:a1h z hs h):0<S.T (mF hs) (qF z h):=by
 obtain ⟨O,hn,sz⟩:=B;obtain ⟨pt,pg,ps,R⟩:=R;have kh:=hk h (aU hh);obtain ⟨sx,sl,snn,sv⟩:∃ sx:List Int,sx.length=(K1 z).length/\(∀ x∈sx,0<=x)/\t7 sx (K1 z)=ps:=by
  have sg:=R.sign;rcases hz with rfl | rfl | rfl | rfl
  ·have h1:=sg.1 (.inl rfl)
   have h2:=sg.2 (.inl rfl);exact ⟨[],rfl,nofun,by show (0:Int)=ps; omega⟩
  ·by_cases h0:0<=ps
   ·refine ⟨[ps,0],rfl,λ x hx=>?_,?_⟩
    ·simp only [aL,bV,or_false] at hx
     rcases hx with rfl | rfl
     ·exact h0
     ·exact bO _
    ·show ps*1+(0 * -1+0)=ps; omega
   ·refine ⟨[0,-ps],rfl,λ x hx=>?_,?_⟩
    ·simp only [aL,bV,or_false] at hx
     rcases hx with rfl | rfl
     ·exact bO _
     ·omega
    ·show 0*1+(-ps * -1+0)=ps; omega
  ·have h1:=sg.1 (.inr rfl)
   exact ⟨[-ps],rfl,λ x hx=>by rw [bH.mp hx]; omega,by show -ps * -1+0=ps; omega⟩
  ·have h1:=sg.2 (.inr rfl)
   exact ⟨[ps],rfl,λ x hx=>by rw [bH.mp hx]; exact h1,by show ps*1+0=ps; omega⟩
 have hxl:(pt.map (· - 1)++pg.map (· - 1)++sx).length=h.1.length+h.2.length+(K1 z).length:=by simp [R.lt,R.lg,sl]; omega
 have e1:upL (ptA h (pt.map (· - 1)++pg.map (· - 1)++sx)) 1=pt:=by
  unfold ptA upL;rw [dE,gA (by simp [R.lt]),aS];refine (cZ λ x _=>?_).trans (jO _)
  show x - 1+1=x; omega
 have e2:upL (pgA h (pt.map (· - 1)++pg.map (· - 1)++sx)) 1=pg:=by
  unfold pgA upL;rw [dE,jP (by simp [R.lt]),gA (by simp [R.lg]),aS];refine (cZ λ x _=>?_).trans (jO _)
  show x - 1+1=x; omega
 have e3:psA z h (pt.map (· - 1)++pg.map (· - 1)++sx)=ps:=by
  unfold psA;rw [jP (by simp [R.lt,R.lg])]; exact sv
 generalize hx0:pt.map (· - 1)++pg.map (· - 1)++sx=xs at *;have xnn:∀ x∈xs++[1],0<=x:=λ x hx=>by
  rcases aT.mp hx with hx | hx
  ·rw [<- hx0] at hx
   rcases aT.mp hx with hx | hx
   ·rcases aT.mp hx with hx | hx
    ·obtain ⟨y,hy,rfl⟩:=aK.mp hx
     have:=R.tp y hy; omega
    ·obtain ⟨y,hy,rfl⟩:=aK.mp hx
     have:=R.gp y hy; omega
   ·exact snn x hx
  ·rw [bH.mp hx]; decide
 have lq:(xs++[1]).length=qF z h:=by rw [aJ,hxl]; rfl
 have toD:∀ {row:List Int} {i:Nat},(J4 z hs h)[i]?=some row->row.length=qF z h->Lp.sumTo (λ j=>S6 (J4 z hs h) i j*(xs++[1]).getD j 0) (qF z h)=t7 row (xs++[1]):=λ {row i} hr hl=>by
  rw [<- E7 (qF z h) row (xs++[1]) hl lq];exact Lp.sum_congr λ j _=>by rw [V9 hr]
 have key:=O.weak hn (y:=λ j=>(xs++[1]).getD j 0) (e:=1) (λ j hj=>?_) λ k hk'=>?_
 ·have eg:Lp.sumTo (λ j=>G6 (J1 z h) j*(xs++[1]).getD j 0) (qF z h)=1:=by
   have:=E7 (qF z h) (J1 z h) (xs++[1]) (by unfold J1; simp) lq;rw [a0x _ _ hxl] at this;exact this
  rw [eg] at key;have:=O.w.pos;omega
 ·rw [aG,aD (by rw [lq]; exact hj)]
  exact xnn _ (cS _)
 ·have hk2:k<hs.length+2:=hk'
  show _<=G6 (X6 hs) k*1
  rw [dD]
  by_cases c1:k<hs.length
  ·have hg:hs[k]?=some hs[k]:=aD c1
   have kg':=hk hs[k] (cS c1);rw [toD (b2p k hg) (by rw [P6,kg'.1,kg'.2,kh.1.symm,kh.2.symm]),a0d (h:=h) (by rw [kg'.1,kh.1]) (by rw [kg'.2,kh.2]) hxl,e1,e2,e3]
   show _<=(X6 hs).getD k 0
   rw [a1A (by omega)];have:=R.fair hs[k] (cS c1);omega
  ·by_cases c2:k=hs.length
   ·subst c2
    rw [toD b2v (by rw [aA,P6]),a0o,a0d (h:=h) rfl rfl hxl,e1,e2,e3]
    show _<=(X6 hs).getD hs.length 0
    rw [a1A (aF _)];have:=R.firm;omega
   ·have c3:k=hs.length+1:=by omega
    subst c3;have hr:(J4 z hs h)[hs.length+1]?=some (J1 z h):=by
     unfold J4;rw [bU (by simp),aA,eN]; rfl
    rw [toD hr (by unfold J1; simp),a0x _ _ hxl]
    show (1:Int)<=(X6 hs).getD (hs.length+1) 0
    unfold X6;rw [C3,cA,if_neg (by omega),eN]; decide
theorem b0V (hz:Szw z) (B:a6E z hs h S) (hk:∀ g∈hs,g.1.length=kt/\g.2.length=kg) (hh:hs[i]?=some h):0<S.T (mF hs) (qF z h) ↔ a1h z hs h :=
 ⟨λ hp=>⟨_,_,_,a4Z hz B hk hh hp⟩,a4X hz B hk hh⟩
end
end Rim
namespace L2
open PySem
section
variable {fr:List Nat} {tc:TT} {σ:St} {H1:Hp} {p:Addr} {D:Hp->Prop} {P:Addr} {pos:Pos} {qual:Str} {n:Nat}
theorem a8s (T:LamTab P pos qual H1) (hp:H1 p=none) (hz:n<sizeLine) (F:Nat->Bool)
  (step:∀ (i:Nat) H ys (N:Bool->Hp->Prop),i<n->Same1 P H1 H->LamTab P pos qual H->H p=some (.lst ys)->(∀ H3,Same1 P H H3->LamTab P pos qual H3->N (F i) H3)->tc ((blkσ 1 fr σ).set 0 (some (.int (i:Int)))) H N)
  (hd:∀ H,Same1 P H1 H->LamTab P pos qual H->H p=some (.lst (((aH n).filter F).map λ (i:Nat)=>V.int (i:Int)))->D H):lcI 1 fr (K5 0) tc (a8e 0) σ (Itr 0 n) H1 p D:=by
 refine ⟨λ i m ys H=>m=n - i/\i<=n/\ys=((aH i).filter F).map (λ (i:Nat)=>V.int (i:Int))/\Same1 P H1 H/\LamTab P pos qual H/\H p=some (.lst ys),⟨n,by simp,bW _,rfl,(Same.new hp _).to1,T.same (Same.new hp _),upd_same⟩,?_⟩;rintro i m ys H ⟨rfl,hi,rfl,e,L,hH⟩
 by_cases hlt:i<n
 ·refine .inr ⟨hlt,λ x H' y=>?_⟩
  obtain ⟨rfl,rfl⟩:=y;rw [fX];have tk:(aH (i+1)).filter F=(aH i).filter F++[i].filter F:=by rw [fK,fT]
  refine ⟨Wk.set (by decide),step i _ _ _ hlt e L hH λ H3 e3 L3=>?_⟩;have h3:=e3.get L hH nofun
  cases hq:F i with
  | false =>
   rw [if_neg bK];refine ⟨n - (i+1),by omega,rfl,hlt,?_,e.trans e3,L3,h3⟩;rw [tk]; simp [hq]
  | true =>
   rw [if_pos rfl];refine ⟨.int (i:Int),?_,h3,?_,n - (i+1),by omega,rfl,hlt,?_,(e.trans e3).write hp,L3.write h3,upd_same⟩
   ·show ((blkσ 1 fr σ).set 0 (some (.int (i:Int))))[0]?=some (some (.int (i:Int)))
    rw [cO (by simp [blkσ])]
   ·have h1:=gY F (aH i)
    rw [cW] at h1;rw [aA];omega
   ·rw [tk]; simp [hq]
 ·have:i=n:=by omega
  subst this;exact .inl ⟨Nat.le_refl _,hd H e L hH⟩
end
end L2
namespace Rim
open PySem L2 Fr
open Classical in
noncomputable def a3V (z:Str) (hs:List i7):List Nat:=(aH hs.length).filter λ i=>decide (a1h z hs (hs.getD i ([],[])))
section
variable {P:Program} {w:World} {K:W.Frag} {mg:Str->Option Value} {base:Heap} {f Pt d:Addr} {fd:FuncData} {n:Nat} {C:Addr}
def a7m (K:W.Frag) (Pt:Addr):Sp:=λ vs H Q _=>∃ (ba:Addr) (xs:List V) (hs:List i7) (z:Str) (far:Int) (kt kg:Nat),vs=[.ref ba,.str z]/\Szw z/\P4 K H ba xs hs far kt kg/\far<=2 ^ 50/\LT Pt H ∧
 ∀ (H':Hp) (r:Addr),Same1 Pt H H'->LT Pt H'->H r=none->H' r=some (.lst ((a3V z hs).map λ (i:Nat)=>V.int (i:Int)))->Q (.ref r) H'
theorem b5Y:r8 ["book","sizes"] ["book","sizes"] (i9 a5E):=⟨rfl,rfl,rfl,by decide +kernel,rfl,by decide +kernel,by decide +kernel⟩
theorem b5P:(["number","book","sizes"]:List Str).Nodup:=by decide +kernel
theorem a9a {f1:Addr} {d1:FuncData} (F:Fun K "rim_of" "rim_of" a5E f fd) (N:A3 mg) (Cf:SCal P w K mg base n "greatest_floor" ["houses","number","sizes"] (a6C K Pt) f1 d1):FnOk P w K mg base J7 (n+1) f fd ["book","sizes"] (a7m K Pt):=by
 refine F.ok b5Y (λ vs H Q E h=>?_) (λ cdv A outer s H vs Q E hr h=>?_)
 ·obtain ⟨ba,xs,hs,z,far,kt,kg,rfl,_⟩:=h
  rfl
 obtain ⟨ba,xs,hs,z,far,kt,kg,rfl,hz,B,hf,L,k⟩:=h;refine ⟨_,j8 (v5 (a3R ["number"] [0,1] rfl (J5 rfl N.range (c5 (m9 j9 rfl N.len bQ (c5 (pv 0) c7)) c7)) (λ _ _ _ _=>j3 (i:=0) b5P rfl (aC rfl))
  (λ _ _ _ _=>r9 a1d (m8 (a3r K rfl) (m6 Cf.ok hr rfl Cf.m Cf.k Cf.b .nil u0 (c5 (pv 1) (c5 (pv 0) (c5 (pv 2) c7)))) h8 (λ _ _=>rfl)) h8 (t9 _)) (λ _ _ _ _=>pv 0))),?_⟩
 have xl:xs.length=hs.length:=Paired.length B.b;have few:=B.few;have s1k:=j4 (show (1000:Nat)<=1000 from aF _);have hk:∀ g∈hs,g.1.length=kt/\g.2.length=kg:=λ g hg=>⟨(B.g g hg).lt,(B.g g hg).lg⟩;refine ⟨_,rfl,ba,_,rfl,.inl B.l,_,rfl,by omega,by omega,?_⟩;rw [xl,aV];intro p hp;refine a8s (n:=hs.length) L hp (by omega) _ (λ i H2 ys N' hi e L2' hp2 hN=>?_) (λ H2 e L2' hp2=>k H2 p e L2' hp hp2);have hh:hs[i]?=some hs[i]:=aD hi;refine ⟨_,rfl,_,rfl,_,rfl,ba,xs,hs,i,hs[i],z,far,kt,kg,rfl,hz,⟨SqL.same1 L e B.l,Bk.same1 L e B.b,B.g,B.far,B.few,B.t,B.k⟩,hf,hh,L2',λ S H3 t aa wa BF e3 L3 ht _ _=>?_⟩;refine ⟨t,_,0,_,rfl,rfl,SqT.of ht,v8 (j:=0) rfl,_,_,rfl,rfl,_,rfl,?_⟩;have hd:hs.getD i ([],[])=hs[i]:=by rw [aG,hh]; rfl
 have eb:decide (S.T (mF hs) (qF z hs[i])>0)=(λ i=>@decide (a1h z hs (hs.getD i ([],[]))) (lR _)) i:=by
  have:=b0V hz BF hk hh
  show _=@decide (a1h z hs (hs.getD i ([],[]))) (lR _)
  rw [hd]
  by_cases c:0<S.T (mF hs) (qF z hs[i])
  ·have c2:=this.mp c
   rw [decide_eq_true (show S.T (mF hs) (qF z hs[i])>0 from c)];simp [c2]
  ·have c2:¬ a1h z hs hs[i]:=λ q=>c (this.mpr q)
   rw [decide_eq_false (show ¬ S.T (mF hs) (qF z hs[i])>0 from c)];simp [c2]
 rw [eb];exact hN H3 e3 L3
end
end Rim
namespace Rim
open PySem L2 Fr
structure Mx (z:Str) (hs:List i7) (ws:List Int) (D:Int):Prop where
 lw:ws.length=hs.length
 nn:∀ x∈ws,0<=x
 d:0<D
 size:a1T z ws.sum D
structure Px (z:Str) (hs:List i7) (kt kg:Nat) (pt pg:List Int) (ps:Int):Prop where
 lt:pt.length=kt
 lg:pg.length=kg
 tn:∀ x∈pt,0<=x
 gn:∀ x∈pg,0<=x
 sign:a0K z ps
 fair:∀ g∈hs,earn g pg ps<=pay g pt
theorem A9 (a b:Int) (l x:List Int):t7 (a::l) (b::x)=a*b+t7 l x:=rfl
theorem Z4 {f:i7->List Int} {k:Nat}:∀ {hs:List i7} {ws p:List Int},ws.length=hs.length->(∀ g∈hs,(f g).length=k)->p.length=k →
  t7 (hs.map λ g=>t7 (f g) p) ws=t7 ((aH k).map λ j=>t7 (hs.map λ g=>(f g).getD j 0) ws) p
 | [],ws,p,_,_,hp=>by
  have e:∀ (l:List Nat) (p:List Int),t7 (l.map λ _=>(0:Int)) p=0:=λ l=>by
   induction l with
   | nil=>intro p; simp [t7]
   | cons a r ih =>
    intro p
    cases p with
    | nil=>simp [t7]
    | cons b p=>rw [aQ,A9,ih p]; omega
  show (0:Int)=_
  rw [show ((aH k).map λ j=>t7 (([]:List i7).map λ g=>(f g).getD j 0) ws)=(aH k).map λ _=>(0:Int) from cZ λ j _=>by simp [t7],e]
 | g::hs,[],p,h,_,_=>by simp at h
 | g::hs,w::ws,p,h,hk,hp=>by
  have ih:=Z4 (f:=f) (k:=k) (hs:=hs) (ws:=ws) (p:=p) (by simpa using h) (λ x hx=>hk x (.tail _ hx)) hp;rw [aQ,A9,ih];have e1:((aH k).map λ j=>t7 ((g::hs).map λ g=>(f g).getD j 0) (w::ws))=bB (·+·) ((f g).map λ x=>x*w) ((aH k).map λ j=>t7 (hs.map λ g=>(f g).getD j 0) ws):=by
   have lg:=hk g (.head _);refine cC λ j=>?_
   by_cases hj:j<k
   ·rw [aE,bI hj,hZ,aE,aE,bI hj,aD (by rw [lg]; exact hj)]
    simp only [dW];rw [aQ,A9,aG,aD (by rw [lg]; exact hj)]; rfl
   ·rw [aW (by simp; omega),aW (by simp; omega)]
  rw [e1,F0 (bB _ _ _) p,a1z (by simp [hk g (.head _)]),F0 p,F0 p]
  congr 1
  have:∀ (l p:List Int),t7 (l.map λ x=>x*w) p=t7 l p*w:=λ l=>by
   induction l with
   | nil=>intro p; simp [t7]
   | cons a r ih =>
    intro p
    cases p with
    | nil=>simp [t7]
    | cons b p =>
     rw [aQ,A9,A9,ih p,cD]
     congr 1
     ac_rfl
  rw [this]
theorem a0u:∀ {l m p:List Int},l.length=m.length->(∀ x∈p,0<=x)->(∀ j,j<l.length->l.getD j 0<=m.getD j 0)->t7 l p<=t7 m p
 | [],[],p,_,_,_=>bO _
 | a::l,b::m,[],_,_,_=>bO _
 | a::l,b::m,c::p,h,hp,hj=>by
  have ih:=a0u (l:=l) (m:=m) (p:=p) (by simpa using h) (λ x hx=>hp x (.tail _ hx)) λ j hl=>by
   have:=hj (j+1) (by simpa using hl)
   simpa using this
  have h0:a<=b:=by simpa using hj 0 (by simp)
  rw [A9,A9];have:=dA h0 (hp c (.head _));omega
 | [],_::_,_,h,_,_=>by simp at h
 | _::_,[],_,h,_,_=>by simp at h
theorem Q6 (s:Int):∀ (l p:List Int),t7 (l.map λ x=>x*s) p=t7 l p*s
 | [],p=>by simp [t7]
 | a::l,[]=>by simp [t7]
 | a::l,b::p=>by
  rw [aQ,A9,A9,Q6 s l p,cD]
  congr 1
  ac_rfl
section
variable {z:Str} {hs:List i7} {h:i7} {kt kg:Nat} {ws pt pg:List Int} {D ps:Int}
theorem N3 (j i:Nat):D9 hs ws j i=t7 (hs.map λ g=>(D4 j g).getD i 0) ws:=by
 unfold D9 col;rw [aS]; rfl
theorem a9s (hz:Szw z) (M:Mx z hs ws D) (P:Px z hs kt kg pt pg ps) (hk:∀ g∈hs,g.1.length=kt/\g.2.length=kg) :
  t7 ((aH kg).map λ j=>D9 hs ws 1 j) pg+ps*D<=t7 ((aH kt).map λ j=>D9 hs ws 0 j) pt:=by
 have e0:t7 (hs.map λ g=>pay g pt) ws=t7 ((aH kt).map λ j=>D9 hs ws 0 j) pt:=by
  have:=Z4 (f:=λ g=>g.1) (hs:=hs) (ws:=ws) (p:=pt) M.lw (λ g hg=>(hk g hg).1) P.lt;rw [show (λ j=>D9 hs ws 0 j)=λ j=>t7 (hs.map λ g=>g.1.getD j 0) ws from funext λ j=>N3 0 j];exact this
 have e1:t7 (hs.map λ g=>t7 g.2 pg) ws=t7 ((aH kg).map λ j=>D9 hs ws 1 j) pg:=by
  have:=Z4 (f:=λ g=>g.2) (hs:=hs) (ws:=ws) (p:=pg) M.lw (λ g hg=>(hk g hg).2) P.lg;rw [show (λ j=>D9 hs ws 1 j)=λ j=>t7 (hs.map λ g=>g.2.getD j 0) ws from funext λ j=>N3 1 j];exact this
 have e2:t7 (hs.map λ g=>earn g pg ps) ws=t7 (hs.map λ g=>t7 g.2 pg) ws+ps*ws.sum:=by
  have:∀ (hs:List i7) (ws:List Int),hs.length=ws.length->t7 (hs.map λ g=>earn g pg ps) ws=t7 (hs.map λ g=>t7 g.2 pg) ws+ps*ws.sum:=λ hs=>by
   induction hs with
   | nil =>
    intro ws hl;rw [gJ hl.symm]; simp [t7]
   | cons g r ih =>
    intro ws hl
    cases ws with
    | nil=>simp at hl
    | cons w ws =>
     have:=ih ws (by simpa using hl);rw [aQ,aQ,A9,A9,this,bC];have e:earn g pg ps=t7 g.2 pg+ps:=rfl;rw [e,cD,eU];omega
  exact this hs ws M.lw.symm
 have le:t7 (hs.map λ g=>earn g pg ps) ws<=t7 (hs.map λ g=>pay g pt) ws:=by
  refine a0u (by simp) M.nn λ j hj=>?_;have hj':j<hs.length:=by simpa using hj
  rw [aG,aG,aE,aE,aD hj'];exact P.fair _ (cS hj')
 have sz:ps*D<=ps*ws.sum:=by
  obtain ⟨s1,s2⟩:=M.size;obtain ⟨g1,g2⟩:=P.sign;rcases hz with c | c | c | c
  ·have:=g1 (.inl c); have:=g2 (.inl c)
   have:ps=0:=by omega
   rw [this]; simp
  ·have a1:=s1 (.inl c)
   have a2:=s2 (.inl c);have:ws.sum=D:=by omega
   rw [this]; exact bO _
  ·have a1:=g1 (.inr c)
   have a2:=s1 (.inr c);have:=eW a2 (show 0 <= -ps by omega);rw [eV,eV] at this;omega
  ·have a1:=g2 (.inr c)
   have a2:=s2 (.inr c);exact eW a2 a1
 rw [e0,e2,e1] at le;omega
structure Shr (z:Str) (hs:List i7) (h:i7) (kt kg:Nat) (A B:Int) (ws:List Int) (D:Int):Prop where
 m:Mx z hs ws D
 t:∀ j,j<kt->D9 hs ws 0 j*B<=h.1.getD j 0*A*D
 g:∀ j,j<kg->h.2.getD j 0*D<=D9 hs ws 1 j
structure Gro (z:Str) (hs:List i7) (h:i7) (kt kg:Nat) (A B:Int) (ws:List Int) (D:Int):Prop where
 m:Mx z hs ws D
 t:∀ j,j<kt->D9 hs ws 0 j<=h.1.getD j 0*D
 g:∀ j,j<kg->h.2.getD j 0*A*D<=D9 hs ws 1 j*B
theorem a4T {k:Nat} {F:Nat->Int} {j:Nat} (h:j<k):((aH k).map F).getD j 0=F j:=T7 h
theorem Shr.weak {A B:Int} (hz:Szw z) (S:Shr z hs h kt kg A B ws D) (P:Px z hs kt kg pt pg ps) (hk:∀ g∈hs,g.1.length=kt/\g.2.length=kg) (h1:h.1.length=kt) (h2:h.2.length=kg) (hB:0<B):earn h pg ps*B<=A*pay h pt:=by
 have L:=a9s hz S.m P hk;have dp:=S.m.d;have a1:t7 h.2 pg*D<=t7 ((aH kg).map λ j=>D9 hs ws 1 j) pg:=by
  rw [<- Q6];refine a0u (by simp [h2]) P.gn λ j hj=>?_;have hj':j<kg:=by simpa [h2] using hj
  rw [a4T hj',aG,aE,aD (by omega)];have:=S.g j hj';rw [aG,aD (by omega)] at this;exact this
 have a2:t7 ((aH kt).map λ j=>D9 hs ws 0 j) pt*B<=t7 h.1 pt*(A*D):=by
  rw [<- Q6,<- Q6];refine a0u (by simp [h1]) P.tn λ j hj=>?_;have hj':j<kt:=by simpa using hj
  rw [aG,aE,aE,bI hj',aG,aE,aD (by omega)];have:=S.t j hj';rw [aG,aD (by omega)] at this
  show D9 hs ws 0 j*B<=h.1[j]*(A*D)
  rw [<- aX]; exact this
 refine hW (a:=D) ?_ dp;have e1:earn h pg ps=t7 h.2 pg+ps:=rfl;have e2:pay h pt=t7 h.1 pt:=rfl;rw [e1,e2];have b1:=dA L (aN hB);have b2:=dA a1 (aN hB);have x1:(t7 h.2 pg+ps)*B*D=t7 h.2 pg*D*B+ps*D*B:=by rw [cD,cD]; congr 1 <;> ac_rfl
 have x2:A*t7 h.1 pt*D=t7 h.1 pt*(A*D):=by ac_rfl
 rw [cD] at b1;rw [x1,x2];omega
def IsShare (z:Str) (hs:List i7) (h:i7) (kt kg:Nat) (A B:Int):Prop:=0<B/\(∃ ws D,Shr z hs h kt kg A B ws D)/\∃ pt pg ps,Px z hs kt kg pt pg ps/\0<pay h pt/\earn h pg ps*B=A*pay h pt
def b2K (z:Str) (hs:List i7) (h:i7) (kt kg:Nat) (A B:Int):Prop:=0<B/\(∃ ws D,Gro z hs h kt kg A B ws D)/\∃ pt pg ps,Px z hs kt kg pt pg ps/\0<t7 h.2 pg/\A*t7 h.2 pg=(pay h pt - ps)*B
theorem IsShare.le {A B A' B':Int} (hz:Szw z) (I:IsShare z hs h kt kg A B) (hk:∀ g∈hs,g.1.length=kt/\g.2.length=kg) (h1:h.1.length=kt) (h2:h.2.length=kg) (hB:0<B') {ws:List Int} {D:Int} (S:Shr z hs h kt kg A' B' ws D):A*B'<=A'*B:=by
 obtain ⟨b,_,pt,pg,ps,P,pp,e⟩:=I;have w:=S.weak hz P hk h1 h2 hB;refine hW (a:=pay h pt) ?_ pp;have x:=dA w (aN b);have y1:earn h pg ps*B'*B=earn h pg ps*B*B':=by ac_rfl
 rw [y1,e] at x;have y2:A*pay h pt*B'=A*B'*pay h pt:=by ac_rfl
 have y3:A'*pay h pt*B=A'*B*pay h pt:=by ac_rfl
 omega
theorem IsShare.eq {A B A' B':Int} (hz:Szw z) (I:IsShare z hs h kt kg A B) (J:IsShare z hs h kt kg A' B') (hk:∀ g∈hs,g.1.length=kt/\g.2.length=kg) (h1:h.1.length=kt) (h2:h.2.length=kg):A*B'=A'*B:=by
 obtain ⟨_,⟨ws,D,S⟩,_⟩:=id J;obtain ⟨_,⟨ws',D',S'⟩,_⟩:=id I;have a:=I.le hz hk h1 h2 J.1 S;have b:=J.le hz hk h1 h2 I.1 S';omega
theorem Best.is {S:Lp.Bo} {far:Int} (hz:Szw z) (B:Best z hs h S) (hG:∀ g∈hs,HG far kt kg g) (gh:HG far kt kg h) (kt1:1<=kt) (kt4:kt<=20) (kg4:kg<=20):IsShare z hs h kt kg (S.T (mE hs) (qE z h)) S.d:=by
 have T:=a3T hz B hG gh kt1 kt4 kg4;have dp:=B.1.w.pos;refine ⟨dp,⟨_,_,⟨T.lw,λ x hx=>(T.nn x hx).1,dp,T.size⟩,λ j hj=>?_,T.gives⟩,_,_,_,⟨T.pr.lt,T.pr.lg,λ x hx=>(T.pr.bt x hx).1,λ x hx=>(T.pr.bg x hx).1,T.sign,T.fair⟩,by rw [T.pays]; exact dp,by rw [T.pays,T.earns]⟩;exact dA (T.takes j hj) (aN dp)
end
def G8 (n i:Nat):List Int:=(aH n).map λ k=>if k=i then 1 else 0
theorem a0Q:∀ {n i:Nat} {l:List Int},l.length=n->i<n->t7 l (G8 n i)=l.getD i 0:=λ {n i l} hl hi=>by
 rw [<- E7 n l (G8 n i) hl (by unfold G8; simp),Lp.sum_one hi λ k hk hn=>by unfold G8; rw [T7 hk,if_neg hn,bJ]];unfold G8;rw [T7 hi,if_pos rfl,dD]
theorem a8i {n i:Nat} (hi:i<n):(G8 n i).sum=1:=by
 have h1:=a6T (G8 n i);rw [<- h1,show (G8 n i).map (λ _=>(1:Int))=aI n 1 by unfold G8; rw [aS]; exact List.eq_replicate_iff.mpr ⟨by simp,λ b hb=>by obtain ⟨_,_,rfl⟩:=aK.mp hb; rfl⟩,a0Q (by simp) hi,aG,dI,if_pos hi]; rfl
section
variable {z:Str} {hs:List i7} {h:i7} {kt kg i:Nat}
theorem b0v (hi:i<hs.length):Mx z hs (G8 hs.length i) 1 :=
 ⟨by unfold G8; simp,λ x hx=>by
  unfold G8 at hx;obtain ⟨k,_,rfl⟩:=aK.mp hx
  split <;> decide,by decide,by rw [a8i hi]; exact ⟨λ _=>bO _,λ _=>bO _⟩⟩
theorem a2L (hh:hs[i]?=some h) (j k:Nat):D9 hs (G8 hs.length i) j k=(D4 j h).getD k 0:=by
 have hi:i<hs.length:=(aY.mp hh).1;rw [N3,a0Q (by simp) hi,aG (l:=iJ _ hs),aE,hh]; rfl
theorem a9b (hh:hs[i]?=some h):Shr z hs h kt kg 1 1 (G8 hs.length i) 1 :=
 ⟨b0v (aY.mp hh).1,λ j _=>by rw [a2L hh]; show h.1.getD j 0*1<=h.1.getD j 0*1*1; omega,λ j _=>by rw [a2L hh]; show h.2.getD j 0*1<=h.2.getD j 0; omega⟩
end
theorem a7N {l:List Int} {k:Nat}:t7 l (aI k 0)=0:=by rw [F0]; exact R4 k l
theorem a1j:∀ {l p:List Int} (m:List Int),l.length=p.length->(∀ x∈l,1<=x)->(∀ x∈p,0<=x)->t7 l p<=0->t7 m p=0
 | [],[],m,_,_,_,_=>by rw [F0]; simp [t7]
 | a::l,b::p,m,hl,h1,h2,h=>by
  rw [A9] at h;have nn:0<=t7 l p:=by
   have:∀ (l p:List Int),(∀ x∈l,1<=x)->(∀ x∈p,0<=x)->0<=t7 l p:=λ l=>by
    induction l with
    | nil=>intro p _ _; simp [t7]
    | cons a r ih =>
     intro p h1 h2
     cases p with
     | nil=>simp [t7]
     | cons b p =>
      rw [A9];have:=ih p (λ x hx=>h1 x (.tail _ hx)) λ x hx=>h2 x (.tail _ hx);have:=cK (show 0<=a by have:=h1 a (.head _); omega) (h2 b (.head _));omega
   exact this _ _ (λ x hx=>h1 x (.tail _ hx)) λ x hx=>h2 x (.tail _ hx)
  have hb:=h2 b (.head _);have ha:=h1 a (.head _);have hab:=dA ha hb;have b0:b=0:=by omega
  subst b0
  cases m with
  | nil=>simp [t7]
  | cons c m =>
   rw [A9,a1j m (by simpa using hl) (λ x hx=>h1 x (.tail _ hx)) (λ x hx=>h2 x (.tail _ hx)) (by omega)];omega
 | [],_::_,_,h,_,_,_=>by simp at h
 | _::_,[],_,h,_,_,_=>by simp at h
section
variable {z:Str} {hs hs':List i7} {h:i7} {kt kg:Nat} {far:Int}
theorem a3N:∀ {hs:List i7} {ws:List Int},ws.length=hs.length->(∀ x∈ws,0<=x)->(∀ g∈hs,g∈hs')->∃ ws':List Int,ws'.length=hs'.length/\(∀ x∈ws',0<=x)/\∀ f:i7->Int,t7 (hs'.map f) ws'=t7 (hs.map f) ws
 | [],ws,hl,_,_=>by
  rw [gJ hl];exact ⟨List.replicate hs'.length 0,by simp,λ x hx=>by rw [(iF.mp hx).2]; exact bO _,λ f=>by rw [a7N]; simp [t7]⟩
 | g::r,[],hl,_,_=>by simp at hl
 | g::r,w::ws,hl,hn,hm=>by
  obtain ⟨ws1,l1,n1,f1⟩:=a3N (hs:=r) (ws:=ws) (by simpa using hl) (λ x hx=>hn x (.tail _ hx)) λ x hx=>hm x (.tail _ hx);obtain ⟨i,hi⟩:=eE (hm g (.head _));have hil:=(aY.mp hi).1;have lu:(G8 hs'.length i).length=hs'.length:=by unfold G8; simp
  refine ⟨List.zipWith (·+·) ws1 ((G8 hs'.length i).map λ x=>x*w),by simp [l1,lu],λ x hx=>?_,λ f=>?_⟩
  ·obtain ⟨j,hj⟩:=eE hx
   rw [hZ] at hj
   split at hj
   ·rename_i a b e1 e2
    have ha:=n1 a (aU e1);rw [aE] at e2
    cases e3:(G8 hs'.length i)[j]? with
    | none=>rw [e3] at e2; cases e2
    | some u =>
     rw [e3] at e2
     cases e2;have hu:0<=u:=by
      have:=aU e3;unfold G8 at this;obtain ⟨k,_,rfl⟩:=aK.mp this
      split <;> decide
     have:=cK hu (hn w (.head _))
     cases hj
     show 0<=a+u*w
     omega
   ·cases hj
  ·rw [a1z (by simp [l1,lu]),f1 f,F0 (hs'.map f) (iJ _ _),Q6,F0 (G8 _ _),a0Q (by simp) hil,aQ,A9,aG,aE,hi]
   show _+f g*w=f g*w+_
   omega
theorem Mx.sub {ws:List Int} {D:Int} (M:Mx z hs ws D) (hm:∀ g∈hs,g∈hs'):∃ ws',Mx z hs' ws' D/\∀ j i,D9 hs' ws' j i=D9 hs ws j i:=by
 obtain ⟨ws',l,n,f⟩:=a3N M.lw M.nn hm;have s:ws'.sum=ws.sum:=by
  have:=f λ _=>1;rw [V0 1 hs' ws' l.symm,V0 1 hs ws M.lw.symm] at this;omega
 exact ⟨ws',⟨l,n,M.d,by rw [s]; exact M.size⟩,λ j i=>by rw [N3,N3]; exact f _⟩
theorem Shr.sub {A B:Int} {ws:List Int} {D:Int} (S:Shr z hs h kt kg A B ws D) (hm:∀ g∈hs,g∈hs'):∃ ws',Shr z hs' h kt kg A B ws' D:=by
 obtain ⟨ws',M,e⟩:=S.m.sub hm;exact ⟨ws',M,λ j hj=>by rw [e]; exact S.t j hj,λ j hj=>by rw [e]; exact S.g j hj⟩
theorem Px.sub {pt pg:List Int} {ps:Int} (P:Px z hs' kt kg pt pg ps) (hm:∀ g∈hs,g∈hs'):Px z hs kt kg pt pg ps:=⟨P.lt,P.lg,P.tn,P.gn,P.sign,λ g hg=>P.fair g (hm g hg)⟩
theorem IsShare.same {A B:Int} (I:IsShare z hs h kt kg A B) (h1:∀ g∈hs,g∈hs') (h2:∀ g∈hs',g∈hs):IsShare z hs' h kt kg A B:=by
 obtain ⟨b,⟨ws,D,S⟩,pt,pg,ps,P,pp,e⟩:=I;obtain ⟨ws',S'⟩:=S.sub h1;exact ⟨b,⟨ws',D,S'⟩,pt,pg,ps,P.sub h2,pp,e⟩
end
theorem U5 {X:Cx} {l:List Stmt}:PSs X l λ _ _ _=>False:=λ _ _ _ _ _ _ h=>h.elim
structure ShU (z:Str) (hs:List i7) (h:i7) (kt kg:Nat) (A B:Int):Prop where
 s:IsShare z hs h kt kg A B
 a:Big 20000 A
 p:0<A
 b:0<B
 c:B<2 ^ 8000
theorem Best.u {z:Str} {hs:List i7} {h:i7} {kt kg:Nat} {S:Lp.Bo} {far:Int} (hz:Szw z) (B:Best z hs h S) (hG:∀ g∈hs,HG far kt kg g) (gh:HG far kt kg h) (kt1:1<=kt) (kt4:kt<=20) (kg4:kg<=20):ShU z hs h kt kg (S.T (mE hs) (qE z h)) S.d:=by
 have T:=a3T hz B hG gh kt1 kt4 kg4;obtain ⟨b1,b2⟩:=a3X B;exact ⟨B.is hz hG gh kt1 kt4 kg4,(B.2.2.1 _ _ (by omega) (by omega)).mono (by decide),T.pos,b1,b2⟩
theorem ShU.fr {z:Str} {hs:List i7} {h:i7} {kt kg:Nat} {A B A' B':Int} {far:Int} (hz:Szw z) (x:ShU z hs h kt kg A B) (y:IsShare z hs h kt kg A' B') (hG:∀ g∈hs,HG far kt kg g) (gh:HG far kt kg h):Fr.low A B=Fr.low A' B' :=
 a8M x.b y.1 (x.s.eq hz y (λ g hg=>⟨(hG g hg).lt,(hG g hg).lg⟩) gh.lt gh.lg)
theorem Paired.app {α β:Type} {F:α->β->Prop}:∀ {l₁ m₁:List α} {l₂ m₂:List β},bZ F l₁ l₂->bZ F m₁ m₂->bZ F (l₁++m₁) (l₂++m₂)
 | _,_,_,_,.nil,h=>h
 | _,_,_,_,.cons r t,h=>.cons r (Paired.app t h)
section
variable {P:Program} {w:World} {K:W.Frag} {mg:Str->Option Value} {base:Heap} {f Pt d CN CB:Addr} {fd:FuncData} {n:Nat} {C:Addr}
def a9M (K:W.Frag) (CN Pt:Addr):Sp:=λ vs H Q E=>∃ (ba:Addr) (xs:List V) (hs:List i7) (number:Int) (z:Str) (far:Int) (kt kg:Nat),vs=[.ref ba,.int number,.str z]/\Szw z/\P4 K H ba xs hs far kt kg/\1<=kt/\number.natAbs.log2<1920/\LT Pt H ∧
 (∀ (i:Nat) (h:i7) (A B:Int) (H':Hp) (u:V),number=(i:Int)->hs[i]?=some h->ShU z hs h kt kg A B->Same1 Pt H H'->LT Pt H'->FrT H' u (low A B)->Q u H')/\(¬ a1m xs.length number->E (.ref CN) none H)
theorem V6 (F:FnOk P w K mg base (CX1 P w) n f fd ["book","number","sizes"] (a3u K CN Pt)):FnOk P w K mg base (CX1 P w) n f fd ["book","number","sizes"] (a9M K CN Pt):=F.imp λ vs H Q E h=>by
 obtain ⟨ba,xs,hs,number,z,far,kt,kg,rfl,hz,B,kt1,lm,L,kG,kE⟩:=h;exact ⟨ba,xs,hs,number,z,far,kt,kg,rfl,hz,B,lm,L,λ i h S H' u hi hh Bs e L' hu=>kG i h _ _ H' u hi hh (Bs.u hz B.g (B.g h (aU hh)) kt1 B.t B.k) e L' hu,kE⟩
end
theorem FrT.to1 {Pt:Addr} {H H':Hp} {v:V} {x:Q2} (L:LT Pt H) (e:Same1 Pt H H') (h:FrT H v x):FrT H' v x:=by
 obtain ⟨a,rfl,ha⟩:=h;exact ⟨a,rfl,e.get L ha nofun⟩
theorem ShU.bigs {z:Str} {hs:List i7} {h:i7} {kt kg:Nat} {A B:Int} (x:ShU z hs h kt kg A B):Big 1000000 (low A B).1/\Big 1000000 (low A B).2 :=
 ⟨(a3q x.b x.a).mono (by decide),(a1u (n:=8000) (aN (R1 x.b)) (eY (a5H x.b) x.c)).mono (by decide)⟩
end Rim
namespace L2
open PySem PySem.W
theorem a9E {K:Frag} {C:Addr} {B:List Value} {nid:String} (q:excIn K C B nid=true):∃ nm qn N bs bm hdct sn sub ab col dd k0 k1 k2 k3 k5,K.lookup C=some (excClassObj nm qn C N bs bm hdct sn sub ab col dd k0 k1 k2 k3 k5 nid)/\nsOkIn K N=true/\nsIn K N "__init__"=some none/\tailIn K B bm=true:=by
 unfold excIn at q
 split at q
 ·rename_i e1 e2 e3 lk
  split at q
  ·rename_i C' bm w0 w1 w2 w3 nn w5 em es
   simp only [dX,beq_iff_eq,Bool.not_eq_true'] at q;obtain ⟨⟨⟨⟨⟨u1,u2⟩,u3⟩,u4⟩,u5⟩,u6⟩:=q
   cases u1
   cases u2;obtain ⟨n1,n2,n3,n4,n5,n6,n7,n8,n9,n10,n11⟩:=e2;obtain ⟨ls⟩:=e3
   replace em:n3=_:=em
   replace u3:n11=false:=u3
   replace es:ls=_:=es
   subst em u3 es;exact ⟨n1,n5,n4,n2,bm,n6,n7,n8,n9,n10,e1,w0,w1,w2,w3,w5,lk,u5,u6,u4⟩
  ·cases q
 ·cases q
def FunI (K:Frag) (x qual:Str) (st:Stmt) (f:Addr) (cd:Value):Prop:=∃ oc od kV dc pm an ct sl,K.lookup f=some ⟨oc,od,.func (fnOf x qual (G3 st) (v4 st) (i9 st) .none kV dc pm an cd ct),sl⟩/\codeIn K cd qual=true/\keepIn K (.ref f)=true
theorem fun_in {K:Frag} {x qual:Str} {st:Stmt} {f:Addr} {cd oc kV dc pm ct:Value} {od an:Option Addr} {sl:Array (Option Value)} (l:K.lookup f=some ⟨oc,od,.func (fnOf x qual (G3 st) (v4 st) (i9 st) .none kV dc pm an cd ct),sl⟩) (c:codeIn K cd qual=true) (k:keepIn K (.ref f)=true):FunI K x qual st f cd:=⟨_,_,_,_,_,_,_,_,l,c,k⟩
theorem FunI.fn {K:Frag} {x qual:Str} {st:Stmt} {f:Addr} {cd:Value} (h:FunI K x qual st f cd):∃ fd,Fun K x qual st f fd/\fd.code=cd/\keepIn K (.ref f)=true:=by
 obtain ⟨_,_,_,_,_,_,_,_,l,c,k⟩:=h;exact ⟨_,a9i l c k,rfl,k⟩
theorem Fun.b1 {K:Frag} {x qual:Str} {st:Stmt} {f:Addr} {fd:FuncData} {p0:Str} (F:Fun K x qual st f fd) (h:∀ (kV doc pm:Value) (an:Option Addr) (cdv ct v0:Value),bindArgs (fnOf x qual (G3 st) (v4 st) (i9 st) .none kV doc pm an cdv ct) ⟨[v0],[]⟩=pure [(p0,v0)]):Binds K fd [p0] [] :=
 F.binds λ a b c d e g us hl=>match us,hl with | [v0],_=>h a b c d e g v0
theorem Fun.b2 {K:Frag} {x qual:Str} {st:Stmt} {f:Addr} {fd:FuncData} {p0 p1:Str} (F:Fun K x qual st f fd) (h:∀ (kV doc pm:Value) (an:Option Addr) (cdv ct v0 v1:Value),bindArgs (fnOf x qual (G3 st) (v4 st) (i9 st) .none kV doc pm an cdv ct) ⟨[v0,v1],[]⟩=pure [(p0,v0),(p1,v1)]):Binds K fd [p0,p1] [] :=
 F.binds λ a b c d e g us hl=>match us,hl with | [v0,v1],_=>h a b c d e g v0 v1
theorem Fun.b3 {K:Frag} {x qual:Str} {st:Stmt} {f:Addr} {fd:FuncData} {p0 p1 p2:Str} (F:Fun K x qual st f fd) (h:∀ (kV doc pm:Value) (an:Option Addr) (cdv ct v0 v1 v2:Value),bindArgs (fnOf x qual (G3 st) (v4 st) (i9 st) .none kV doc pm an cdv ct) ⟨[v0,v1,v2],[]⟩=pure [(p0,v0),(p1,v1),(p2,v2)]):Binds K fd [p0,p1,p2] [] :=
 F.binds λ a b c d e g us hl=>match us,hl with | [v0,v1,v2],_=>h a b c d e g v0 v1 v2
theorem Fun.b4 {K:Frag} {x qual:Str} {st:Stmt} {f:Addr} {fd:FuncData} {p0 p1 p2 p3:Str} (F:Fun K x qual st f fd) (h:∀ (kV doc pm:Value) (an:Option Addr) (cdv ct v0 v1 v2 v3:Value),bindArgs (fnOf x qual (G3 st) (v4 st) (i9 st) .none kV doc pm an cdv ct) ⟨[v0,v1,v2,v3],[]⟩=pure [(p0,v0),(p1,v1),(p2,v2),(p3,v3)]):Binds K fd [p0,p1,p2,p3] [] :=
 F.binds λ a b c d e g us hl=>match us,hl with | [v0,v1,v2,v3],_=>h a b c d e g v0 v1 v2 v3
end L2
namespace Rim
open PySem L2 Fr
structure b6I (K:W.Frag) (mg:Str->Option Value) (cE cB cH cR cT cM cL:Addr):Prop where
 mE:mg "RimError"=some (.ref cE)
 mB:mg "NoBook"=some (.ref cB)
 mH:mg "NoHouse"=some (.ref cH)
 mR:mg "NoRow"=some (.ref cR)
 mT:mg "NoText"=some (.ref cT)
 mM:mg "TooMany"=some (.ref cM)
 mL:mg "NothingLeft"=some (.ref cL)
 kE:a4t K cE
structure b6i (K:W.Frag) (c cE cB cH cR cT cM cL:Addr) (b1 b2 b3 b4 b5 b6:Bool):Prop where
 k:a4t K c
 sub:W.mroIn K c (.ref cE)=some true
 i1:W.kitOne K (.ref c) (.ref cB)=some b1
 i2:W.kitOne K (.ref c) (.ref cH)=some b2
 i3:W.kitOne K (.ref c) (.ref cR)=some b3
 i4:W.kitOne K (.ref c) (.ref cT)=some b4
 i5:W.kitOne K (.ref c) (.ref cM)=some b5
 i6:W.kitOne K (.ref c) (.ref cL)=some b6
 v:W.kitOne K (.ref c) (.type "ValueError")=some true
section
variable {P:Program} {w:World} {K:W.Frag} {mg:Str->Option Value} {base:Heap} {f g:Addr} {fd gd:FuncData} {n:Nat}
structure b6D (P:Program) (w:World) (K:W.Frag) (mg:Str->Option Value) (base:Heap) (n:Nat) (x:Str) (ps:List Str) (sp:Sp) (fa:Addr) (d:FuncData):Prop where
 ok:FnU P w K mg base n fa d ps sp
 b:Binds K d ps []
 k:W.keepIn K (.ref fa)=true
 m:mg x=some (.ref fa)
end
end Rim
namespace L2
open PySem PySem.Spec PyProof.Rows
section
variable {M:Model} {A:Around} {E:Value->Shared->Prop} {s:Shared} {B:Heap} {l outer:List Env} {env:Env} {L e:Addr} {cls a0 fl:Value} {Q:Unit->Shared->Prop}
theorem UpToSlots.refl (h:Heap):h.UpToSlots h:=λ _ o e _=>⟨o.slots,e⟩
theorem W6 {h:Heap} {T:Addr} {oT:Obj} {ts:Array Value} {g:Obj->Obj} (hT:h.get? T=some oT) (hd:oT.data=.fields ts) {b:Addr} {o:Obj} (q:h.get? b=some o) (hn:∀ vs,o.data≠.fields vs):(h.update T g).get? b=some o:=by
 have:T≠b:=λ z=>by
  rw [<- z,hT] at q
  cases q;exact hn ts hd
 rw [Heap.get?_update_other _ _ this]; exact q
theorem a2R {h:Heap} {T:Addr} {g:Obj->Obj} (k:B.StaysIn h) (hn:B.get? T=none):B.StaysIn (h.update T g):=λ b o q=>by
 have:T≠b:=λ z=>by rw [<- z,hn] at q; cases q
 rw [Heap.get?_update_other _ _ this]; exact k b o q
theorem a1R (fr:Option Addr) (k1:B.StaysIn s.heap) (k2:s.heap.FunFrames B l) (k3:s.heap.TracedAtW B e cls a0 fl)
  (h:∀ h',B.StaysIn h'->h'.FunFrames B l->h'.TracedAtW B e cls a0 (fr.elim Value.none λ f=>rawInt f)->s.heap.UpToSlots h'->Q () { s with heap:=h' }):wpAny M A (setFlight (.ref e) fr) Q E s:=by
 obtain ⟨oe,vs,T,oT,ts,he,hc,hd,h1,hn,ne,hT,hdT,h3⟩:=k3;have sz:3<ts.size:=(iL.mp h3).1;unfold setFlight;refine wpAny_bind (wpAny_field he hd h1 ?_);rw [if_pos (by simp)];refine wpAny_setField hT hdT sz (h _ (a2R k1 hn) (k2.of_keeps λ b o q z=>⟨o,W6 hT hdT q z,rfl⟩) ?_ λ b o q z=>⟨o.slots,W6 hT hdT q z⟩);refine ⟨oe,vs,T,_,_,?_,hc,hd,h1,hn,ne,Heap.get?_update_self _ hT (Obj.isFreed_of_fields (Obj.data_mapFields hdT _)),Obj.data_mapFields hdT _,by simp [sz]⟩;rw [Heap.get?_update_other _ _ ne]; exact he
theorem b0h (hfr:A.frames=some (env::outer)) (hf:env.frame=some L) (k1:B.StaysIn s.heap) (kn:B.get? e=none) (k2:s.heap.FunFrames B (env::outer)) (k3:s.heap.TracedAtW B e cls a0 fl)
  (h:∀ h',Heap.HeldW B (env::outer) e cls a0 L h'->s.heap.UpToSlots h'->Q () { s with heap:=h' }):wpAny M A (noteFrame (.ref e) env) Q E s:=by
 by_cases ef:(fl==rawInt L)=true
 ·have ef':fl=rawInt L:=by
   simpa using ef
  subst ef';exact wpAny_noteFrame_againW hf k3 (h s.heap ⟨k1,kn,k2,k3⟩ (UpToSlots.refl _))
 obtain ⟨oe,vs,T,oT,ts,he,⟨hc,h0⟩,hd,h1,hn,ne,hT,hdT,h3⟩:=k3;subst hc;have sz:3<ts.size:=(iL.mp h3).1;unfold noteFrame;simp only [hf];refine wpAny_bind (wpAny_field he hd h1 ?_);rw [if_pos (by simp)];refine wpAny_bind (wpAny_field hT hdT h3 ?_);rw [if_neg ef];refine wpAny_bind (wpAny_setField hT hdT sz ?_);refine wpAny_entryW hfr (k2.of_keeps λ b o q z=>⟨o,W6 hT hdT q z,rfl⟩) hf (by rw [Heap.get?_update_other _ _ ne]; exact he) (a2R k1 hn) kn hd (iL.mp h1).1 h0 λ h' N=>?_;exact h h' ⟨N.1,kn,N.2.1,N.2.2.1⟩ λ b o q z=>N.2.2.2 b o (W6 hT hdT q z) z
theorem a7R (hfr:A.frames=some (env::outer)) (hf:env.frame=some L) (k1:B.StaysIn s.heap) (kn:B.get? e=none) (k2:s.heap.FunFrames B (env::outer)) (k3:s.heap.TracedAtW B e cls a0 fl)
  (h:∀ h',B.FlyingW outer e cls a0 h'->s.heap.UpToSlots h'->Q () { s with heap:=h' }):wpAny M A (leaving env (.ref e)) Q E s:=by
 unfold leaving;refine wpAny_bind (b0h hfr hf k1 kn k2 k3 λ h1 ⟨c1,c2,c3,c4⟩ u1=>?_);refine a1R (s:={ s with heap:=h1 }) none c1 c3 c4 λ h2 d1 d2 d3 u2=>h h2 ⟨d1,kn,d2.2.2,d3⟩ λ b o q z=>?_;obtain ⟨sl,q1⟩:=u1 b o q z;obtain ⟨sl2,q2⟩:=u2 b { o with slots:=sl } q1 z;exact ⟨sl2,q2⟩
theorem a5n {what:String} {cenv:Env} (k1:B.StaysIn s.heap) (k2:s.heap.FunFrames B l) (k3:s.heap.TracedAtW B e cls a0 fl)
  (h:∀ h' fl',B.StaysIn h'->h'.FunFrames B l->h'.TracedAtW B e cls a0 fl'->s.heap.UpToSlots h'->E (.ref e) { s with heap:=h' }):wpAny M A (lS (α:=Value) what (.ref e) cenv) (λ _ _=>False) E s:=by
 obtain ⟨oe,vs,T,oT,ts,he,hc,hd,h1,hn,ne,hT,hdT,h3⟩:=id k3;unfold lS;refine wpAny_bind (wpAny_field he hd h1 ?_);rw [if_neg (by simp)];exact wpAny_bind (a1R cenv.frame k1 k2 k3 λ h' d1 d2 d3 u=>wpAny_throw (h h' _ d1 d2 d3 u))
end
theorem a5y {prog:Program} {w:World} {A:Around} {R:Result->Shared->Prop} {s:Shared} {elt target iter:Expr} {scope:Scope} {pos:Pos} {it acc:Value} {env:Env} (I:Nat->Shared->Prop)
  (turn:∀ n s,I n s->wpAny (model prog w) A (pyNext it) (λ r s₁=>match r with
   | none=>R (.ok .next) s₁
   | some v=>wpAny (model prog w) A (letOwnedTupleGo target it v) (λ _ s₀=>wpAny (model prog w) A (assign target env v) (λ _ s₂ =>
     wpAny (model prog w) A (eval elt env) (λ x s₄ =>
       wpAny (model prog w) A (call (.builtin "list.append") [acc,x]) (λ _ s₅=>∃ m,m<n/\I m s₅) (λ _ _=>False) s₄) (notedBy (model prog w) A env λ x s'=>R (.error x) s') s₂) (λ _ _=>False) s₀) (λ _ _=>False) s₁) (λ _ _=>False) s)
  (n:Nat) (h:I n s) :
  codeAny (model prog w) A (.compLoop (.ListComp elt [⟨target,iter,[],0⟩] scope pos) 0 it acc env) R s:=by
 refine codeAny_loop rfl I (λ n s hI=>?_) n h
 show wpAny _ A ((compTurn (.ListComp elt [⟨target,iter,[],0⟩] scope pos) 0 it acc env).onRaise (λ x=>do noteFrame x env; theTreesLotGoes x)) _ _ s
 refine wpAny_noted ?_;rw [compTurn_list];refine wpAny_bind (wpAny_standAt (wpAny_bind (wpAny_mono (turn n s hI) (λ r s₁ h₁=>?_) λ _ _ h'=>h'.elim)))
 cases r with
 | none=>exact wpAny_pure h₁
 | some v =>
  refine wpAny_bind (wpAny_mono h₁ (λ _ s₀ h₀=>?_) λ _ _ h'=>h'.elim);refine wpAny_bind (wpAny_mono h₀ (λ _ s₂ h₂=>?_) λ _ _ h'=>h'.elim);refine wpAny_bind (wpAny_tests_nil ?_);exact wpAny_bind (wpAny_bind (wpAny_mono h₂ (λ x s₄ h₄=>wpAny_bind (wpAny_mono h₄ (λ _ s₅ h₅=>wpAny_pure (wpAny_pure ⟨rfl,h₅⟩)) λ _ _ h'=>h'.elim)) λ _ _ h'=>h'))
section
variable {X:Cx} {os:List Str} {fr:List Nat} {scope:Scope} {elt tg iter:Expr} {pos:Pos} {wi:TI} {g:TG} {te:TE} {E:XK}
structure a4h (X:Cx) (E:XK):Prop where
 st:X.stack=X.env::X.outer
 fr:X.env.frame=some X.env.locals
 ex:X.ex=[]
 xe:∀ e s',wpAny (model X.prog X.w) X.A (leaving X.env e) (λ _ s''=>CX1 X.prog X.w X.outer X.H₀ X.s₀ E e s'') (λ e' s''=>CX1 X.prog X.w X.outer X.H₀ X.s₀ E e' s'') s'->X.xe e s'
theorem a4f {pins:List (Addr×Obj)} {σ:St} {H H':Hp} {s s':Shared} {ea t D C:Addr} {B:Heap} {acc:Value} {use:Option (Value->Sem Unit)} {Q:Value->Shared->Prop} {m0:Str->Option Value} (Lv:a4h X E) (I:Inv X pins σ H s) (hC:X.s₀.heap.objs.size<=C) (hCf:C ∉ frs X.stack) (hCH:H' C=none) (hCs:∃ o,s.heap.get? C=some o) (hN:s'.heap.Ns C m0)
  (F:Fly X.prog X.w X.stack H s ea t D B H' s') (hE:E (.ref D) none H') {cenv:Env} (hce:cenv.frame=X.env.frame) :
  notedBy (model X.prog X.w) X.A cenv (λ x s''=>compPost (model X.prog X.w) X.A X.xe use Q acc C (.error x) s'') (.ref ea) s':=by
 have hfr:X.A.frames=some (X.env::X.outer):=by rw [<- Lv.st]; exact I.ok.frames
 have Ff:=F.fly;rw [Lv.st] at Ff
 show wpAny _ _ (noteFrame (.ref ea) cenv) _ _ s'
 have en:noteFrame (.ref ea) cenv=noteFrame (.ref ea) X.env:=by
  unfold noteFrame PySem.frameOf;rw [hce]
 rw [en];refine wpAny_looks_onW hfr Lv.fr Ff λ h1 Hd1 u1=>?_;obtain ⟨c1,c2,c3,c4⟩:=Hd1;obtain ⟨oC,es,ep,gC,dC,kC,fC⟩:=hN;obtain ⟨slC,gC1⟩:=u1 C oC gC (λ vs z=>by rw [dC] at z; cases z);refine ⟨m0,⟨_,es,ep,gC1,dC,kC,fC⟩,λ h2 sb cenv2 _=>?_⟩;have toB2:∀ {b o},B.get? b=some o->b≠C->(W.hideAll B [C]).get? b=some o:=λ q z=>W.hideAll_get [C] q (by simpa using z);have ofB2:∀ {b o},(W.hideAll B [C]).get? b=some o->B.get? b=some o:=λ q=>W.of_hideAll [C] q;have noC:(W.hideAll B [C]).get? C=none:=W.hideAll_none [C] (by simp);have neC:∀ {b o},(W.hideAll B [C]).get? b=some o->b≠C:=λ q z=>by rw [z,noC] at q; cases q
 have kn:(W.hideAll B [C]).get? ea=none:=by
  cases q:(W.hideAll B [C]).get? ea with
  | none=>rfl
  | some o=>have:=ofB2 q; rw [c2] at this; cases this
 have h2of:∀ {b o},h1.get? b=some o->b≠C->h2.get? b=some o:=λ q z=>(sb.2 _ z).trans q;have mem1:∀ {b},b∈frs (X.env::X.outer)->b≠C:=λ hb z=>hCf (by rw [Lv.st,<- z]; exact hb);have k1:(W.hideAll B [C]).StaysIn h2:=λ b o q=>h2of (c1 b o (ofB2 q)) (neC q);have k2:h2.FunFrames (W.hideAll B [C]) (X.env::X.outer):=by
  have mv:∀ l:List Env,(∀ b∈frs l,b≠C)->h1.FunFrames B l->h2.FunFrames (W.hideAll B [C]) l:=by
   intro l
   induction l with
   | nil=>intro _ _; rw [Heap.FunFrames]; trivial
   | cons e0 r ih =>
    intro hm hx;rw [Heap.FunFrames] at hx ⊢;obtain ⟨x1,⟨L0,o0,y1,y2,y3,y4⟩,x3⟩:=hx;have hL:L0∈frs (e0::r):=eP.mpr ⟨e0,cJ,y1⟩;refine ⟨x1,⟨L0,o0,y1,?_,h2of y3 (hm L0 hL),y4⟩,ih (λ b hb=>hm b ?_) x3⟩
    ·cases q:(W.hideAll B [C]).get? L0 with
     | none=>rfl
     | some o=>have:=ofB2 q; rw [y2] at this; cases this
    ·obtain ⟨e1,z1,z2⟩:=eP.mp hb
     exact eP.mpr ⟨e1,bL _ z1,z2⟩
  exact mv _ (λ b hb=>mem1 hb) c3
 have eaC:ea≠C:=λ z=>by
  obtain ⟨oe,vs,T,oT,ts,he,hc,hd,_⟩:=Ff.2.2.2;rw [z,gC] at he; cases he;rw [dC] at hd; cases hd
 have k3:h2.TracedAtW (W.hideAll B [C]) ea (.ref D) (.ref t) (rawInt X.env.locals):=by
  obtain ⟨oe,vs,T,oT,ts,he,hc,hd,x1,hn,ne,hT,hdT,h3⟩:=c4;have TC:T≠C:=λ z=>by
   rw [z,gC1] at hT; cases hT;rw [show ({ oC with slots:=slC }:Obj).data=oC.data from rfl,dC] at hdT; cases hdT
  refine ⟨oe,vs,T,oT,ts,h2of he eaC,hc,hd,x1,?_,ne,h2of hT TC,hdT,h3⟩
  cases q:(W.hideAll B [C]).get? T with
  | none=>rfl
  | some o=>have:=ofB2 q; rw [hn] at this; cases this
 refine a5n k1 k2 k3 λ h3 fl' d1 d2 d3 u3=>Lv.xe _ _ ?_;refine a7R hfr Lv.fr d1 kn d2 d3 λ h4 fl u4=>?_;have I':=F.inv I;have st:∀ b o,B.get? b=some o->b≠C->h4.get? b=some o:=λ b o q z=>fl.1 b o (toB2 q z);have s0C:∀ {b o0},X.s₀.heap.get? b=some o0->b≠C:=λ q z=>by
  have:=Heap.lt_size q;rw [z] at this;exact absurd this (Nat.not_lt.mpr hC)
 have bin:∀ b o,s'.heap.get? b=some o->(∃ o0,X.s₀.heap.get? b=some o0)->b ∉ frs X.outer->B.get? b=some o:=λ b o q ⟨o0,z⟩ hn=>by
  obtain ⟨o1,q1⟩:=I.base.there b o0 z (by rw [Lv.ex]; simp);exact F.inb b o q (.inl ⟨⟨o1,q1⟩,V1 I z hn⟩)
 have hHC:∀ {b u},H' b=some u->b≠C:=λ q z=>by rw [z,hCH] at q; cases q
 have un:=I'.base;rw [Lv.ex] at un;refine ⟨ea,t,D,W.hideAll B [C],H',rfl,⟨I'.os,F.bare,un.slots (λ b o q z hn=>st b o (bin b o q z hn) (s0C z.choose_spec)) (λ b hb o q=>?_),F.hok.slots (λ b u o e q=>st b o (F.inb b o q (.inr (by rw [e]; simp))) (hHC e)),fl,λ b o q z=>?_⟩,hE⟩
 ·have hb':b∈frs (X.env::X.outer):=by
   obtain ⟨e1,z1,z2⟩:=eP.mp hb;exact eP.mpr ⟨e1,bL _ z1,z2⟩
  obtain ⟨_,o',ho',hd⟩:=Ff.2.2.1.mem hb';rw [q] at ho'; cases ho';obtain ⟨sl1,q1⟩:=u1 b o q hd;obtain ⟨sl3,q3⟩:=u3 b _ (h2of q1 (mem1 hb')) hd;obtain ⟨sl4,q4⟩:=u4 b _ q3 hd;exact ⟨sl4,q4⟩
 ·have:∃ o1,B.get? b=some o1/\b≠C:=by
   rcases z with ⟨⟨o0,z⟩,hn⟩ | z
   ·obtain ⟨o1,q1⟩:=I'.base.there b o0 z (by rw [Lv.ex]; simp)
    exact ⟨o1,bin b o1 q1 ⟨o0,z⟩ hn,s0C z⟩
   ·cases e:H' b with
    | none=>exact absurd e z
    | some u =>
     obtain ⟨o1,q1⟩:=(F.hok b u e).got;exact ⟨o1,F.inb b o1 q1 (.inr z),hHC e⟩
  obtain ⟨o1,b1,nc⟩:=this;have:=st b o1 b1 nc;rw [show h4.get? b=some o from q] at this
  cases this;exact toB2 b1 nc
theorem a8c {pins:List (Addr×Obj)} {σ:St} {s2:Shared} {D:Addr->Hp->Prop} {itv:Value} {use:Option (Value->Sem Unit)} {QQ:Value->Shared->Prop}
  (Lv:a4h X E) (hc:X.calm=true) (hg:∀ C fp s₀ H₀,PG (R7 X os fr scope C fp s₀ H₀) tg g) (he:∀ C fp s₀ H₀ xe,M6 (CX1 X.prog X.w) ((R7 X os fr scope C fp s₀ H₀).wish xe) E->PE ((R7 X os fr scope C fp s₀ H₀).wish xe) elt te)
  (hk:scope.kind=.function) (hok:X5 X.env.scope scope X.N fr=true)
  (h2:PIE X pins σ tg (λ J H1=>∀ p,H1 p=none->lcW os.length fr g te σ J H1 p (D p)) itv s2)
  (hRR:∀ p C s3 H3 s' H',Inv X pins σ H3 s3->s3.heap.objs.size=C->H' C=none->Inv X pins σ H' s'->(∃ m,s'.heap.Ns C m)->D p H'->compPost (model X.prog X.w) X.A X.xe use QQ (.ref p) C (.ok .next) s') :
  wpAny (model X.prog X.w) X.A (newList []) (λ acc s₃=>wpAny (model X.prog X.w) X.A (newFunctionEnv scope X.env.globals (clo X.env scope.names []) [] X.env.qual none .none (some X.env)) (λ cenv s₄ =>
   codeAny (model X.prog X.w) X.A (.compStart (.ListComp elt [⟨tg,iter,[],0⟩] scope pos) 0 itv acc { cenv with scope:=relabel scope X.env }) (compPost (model X.prog X.w) X.A X.xe use QQ acc cenv.locals) s₄) X.xe s₃) X.xe s2:=by
 obtain ⟨it,fp,tn,J,H2,e,I2,T,st2,f2,hR⟩:=h2;subst e;refine wpAny_newObj_type ?_;have fresh:H2 s2.heap.objs.size=none:=I2.fresh;obtain ⟨W,⟨m0,w0⟩,turn⟩:=hR s2.heap.objs.size fresh;have I3:Inv X pins σ (upd H2 s2.heap.objs.size (.lst [])) { s2 with heap:=s2.heap.push { cls:=.type "list",dict:=none,data:=.seq ([]:List Value).toArray } }:=I2.lnew (ys:=[]) (its:=[]) (t':=s2.toks) .nil (bW _);have obj2:=T.obj _ _ st2;have ne2:∀ b∈fp,b≠s2.heap.objs.size:=λ b hb=>by
  obtain ⟨o,e,_⟩:=obj2 b hb;exact bD (Heap.lt_size e)
 have st3:tn 0 (s2.heap.push { cls:=.type "list",dict:=none,data:=.seq ([]:List Value).toArray }):=T.keep _ _ _ st2 λ b hb o e=>Heap.get?_push_of_some _ e;have f3:∀ b∈fp,Q7 X pins (upd H2 s2.heap.objs.size (.lst [])) b:=λ b hb=>⟨by rw [d0 (ne2 b hb)]; exact (f2 b hb).1,(f2 b hb).2⟩;generalize hs3:({ s2 with heap:=s2.heap.push { cls:=.type "list",dict:=none,data:=.seq ([]:List Value).toArray } }:Shared)=s3 at I3 ⊢;have st3':tn 0 s3.heap:=by rw [<- hs3]; exact st3
 generalize s2.heap.objs.size=p at *;refine a0r ?_;have hns:(pushCells (s3.heap.push { cls:=.type "dict",data:=.dict #[] }) scope.names).Ns s3.heap.objs.size λ _=>none:=(Heap.Ns.new s3.heap (.type "dict")).keeps (pushCells_keeps _ _);have hkeep:∀ b o,s3.heap.get? b=some o->(pushCells (s3.heap.push { cls:=.type "dict",data:=.dict #[] }) scope.names).get? b=some o:=λ b o e=>pushCells_keeps _ _ b o (Heap.get?_push_of_some _ e);have hcl:=cellsFrom_ok scope.names (s3.heap.push { cls:=.type "dict",data:=.dict #[] }) (s3.heap.objs.size+1) [] ⟨λ _ _ hm=>(nomatch hm),kP⟩ (by rw [Heap.size_push]; exact aF _);rw [Heap.size_push] at hcl;generalize pushCells (s3.heap.push { cls:=.type "dict",data:=.dict #[] }) scope.names=h₁ at hns hkeep hcl ⊢;have obj3:∀ b∈fp,∃ o,s3.heap.get? b=some o:=λ b hb=>by
  obtain ⟨o,e,_⟩:=T.obj _ _ st3' b hb;exact ⟨o,e⟩
 have J0:=I3.block (os:=os) (t':=s3.toks) hk hok f3 obj3 (h₁:=h₁) hns hkeep hcl;have ok0:=J0.ok;have fpY:∀ {H':Hp},(∀ b∈fp,H' b=none)->∀ b∈fp,Q7 (R7 X os fr scope s3.heap.objs.size fp s3 (upd H2 p (.lst []))) [] H' b:=λ hn b hb =>
  ⟨hn b hb,(ok0.exf b hb).1,ok0.exfs b hb,.inl hb,(ok0.exf b hb).2,λ q hq=>nomatch hq⟩
 have st4:tn 0 h₁:=T.keep _ _ _ st3' λ b hb o e=>hkeep b o e;have fr0:∀ b∈fp,upd H2 p (.lst []) b=none:=λ b hb=>(f3 b hb).1;have hC0:X.s₀.heap.objs.size<=s3.heap.objs.size:=I3.sz;have pass:M6 (CX1 X.prog X.w) ((R7 X os fr scope s3.heap.objs.size fp s3 (upd H2 p (.lst []))).wish (notedBy (model X.prog X.w) X.A (compEnvC scope (M7 X.env scope s3.heap.objs.size) s3.heap.objs.size X.env) λ x s''=>compPost (model X.prog X.w) X.A X.xe use QQ (.ref p) s3.heap.objs.size (.error x) s'')) E:=by
  intro pins' σ' H s e s' J' h;obtain ⟨ea,t,D',B,H',rfl,Fl,hE⟩:=h;have J:=J'.unwish;have JF:Inv (R7 X os fr scope s3.heap.objs.size fp s3 (upd H2 p (.lst []))) pins' σ' H' s':=Fl.inv J;obtain ⟨mC,nC,_⟩:=JF.loc;obtain ⟨mC0,nC0,_⟩:=J.loc;have J0':Inv (R7 X os fr scope s3.heap.objs.size fp s3 (upd H2 p (.lst []))) [] σ' H s:=⟨J.ok,J.os,J.bare,J.base,J.loc,J.cell,J.free,J.freeC,λ q hq=>(nomatch hq),J.hok,J.len⟩;obtain ⟨oC,_,_,gC,_⟩:=nC0;exact a4f Lv (I3.unblock f3 J0') hC0 (λ hm=>by
   obtain ⟨_,o,ho,_⟩:=I3.stack.mem hm;exact bR _ (Heap.lt_size ho)) JF.free ⟨oC,gC⟩ nC Fl hE rfl
 have loop:∀ s4:Shared,s4={ s3 with heap:=h₁,toks:=s3.toks } →
   codeAny (model X.prog X.w) X.A (.compLoop (.ListComp elt [⟨tg,iter,[],0⟩] scope pos) 0 (.ref it) (.ref p) (compEnvC scope (M7 X.env scope s3.heap.objs.size) s3.heap.objs.size X.env)) (compPost (model X.prog X.w) X.A X.xe use QQ (.ref p) s3.heap.objs.size) s4:=by
  rintro s4 rfl;refine a5y (λ n s'=>∃ i ys H',Inv (R7 X os fr scope s3.heap.objs.size fp s3 (upd H2 p (.lst []))) [] (blkσ os.length fr σ) H' s'/\tn i s'.heap/\(∀ b∈fp,H' b=none)/\W i n ys H') ?_ m0 ⟨0,[],_,J0,st4,fr0,w0⟩;rintro n s5 ⟨i,ys,H5,I5,st5,fr5,w5⟩;rcases turn i n ys H5 w5 with ⟨stop',qd⟩ | ⟨go,step⟩
  ·refine B6 (T.done (R7 X os fr scope s3.heap.objs.size fp s3 (upd H2 p (.lst []))) rfl rfl rfl hc i [] s5 _ H5 (λ _ _=>False) I5 (fpY fr5) st5 stop') λ r s6 ⟨hr,I6⟩=>?_
   subst hr;exact hRR p _ s3 _ s6 H5 I3 rfl I6.free (I3.unblock f3 I6) (let ⟨m,hm,_⟩:=I6.loc; ⟨m,hm⟩) qd
  ·refine B6 (T.item (R7 X os fr scope s3.heap.objs.size fp s3 (upd H2 p (.lst []))) rfl rfl rfl hc i [] s5 _ H5 (λ _ _=>False) I5 (fpY fr5) st5 go) λ r s6 ⟨u,hr,h6⟩=>?_
   subst hr;refine B6 h6 λ _ s7 ⟨x,H7,I7,r7,y7,st7,fr7⟩=>?_;have I7':=I7.pinned (fpY fr7) (T.obj _ _ st7);refine B6 (hg _ _ _ _ _ s7 _ H7 x u _ I7' r7 (step x H7 y7)) λ _ s8 ⟨σ8,H8,I8,wk8,q8⟩=>?_;have again:∀ {H':Hp} {s':Shared} {zs:List V} {m':Nat},Inv (R7 X os fr scope s3.heap.objs.size fp s3 (upd H2 p (.lst []))) ([]++a0H fp s7.heap) σ8 H' s'->m'<n->W (i+1) m' zs H' →
     ∃ m,m<n/\∃ i ys H',Inv (R7 X os fr scope s3.heap.objs.size fp s3 (upd H2 p (.lst []))) [] (blkσ os.length fr σ) H' s'/\tn i s'.heap/\(∀ b∈fp,H' b=none)/\W i m ys H':=λ {H' s' zs m'} J' hm' w'=>by
    refine ⟨m',hm',i+1,zs,H',(J'.weak wk8.1.symm λ i v e=>wk8.2 i v e).unpinned,T.keep _ _ _ st7 λ b hb o e=>(J'.pin (b,o) (cF _ (cF _ (K7 hb e)))).1,λ b hb=>?_,w'⟩;obtain ⟨o,e,d⟩:=T.obj _ _ st7 b hb;exact (J'.pin (b,o) (cF _ (cF _ (K7 hb e)))).2.1
   refine wpAny_mono (he _ _ _ _ _ pass _ s8 σ8 H8 _ (I8.wish _) q8) (λ y s10 ⟨v,H10,I10',r10,hp10,hz10,m',hm',w10⟩=>?_) λ _ _ z=>z;have I10:=I10'.unwish;refine B6 (N4 (X:=R7 X os fr scope s3.heap.objs.size fp s3 (upd H2 p (.lst []))) _ s10 σ8 H10 (.ref p) [v] (.ref p) [y] (λ _ H'=>H'=upd H10 p (.lst (ys++[v]))) I10 rfl (.cons r10 .nil) ⟨p,ys,v,rfl,rfl,hp10,hz10,rfl⟩) λ _ s11 ⟨_,H11,I11,_,e11⟩=>?_;subst e11;exact again I11 hm' w10
 exact codeAny_compStart_list (loop _ rfl) (wpAny_mono (T.self _ 0 _ _ _ st4 (loop _ rfl)) (λ _ _ z=>z) λ _ _ z=>z)
theorem b3j {i:Nat} {x:Str} {pos' spos:Pos} (os:List Str) (fr:List Nat) (Lv:a4h X E) (hN:X.N.Nodup) (hi':X.N[i]?=some x) (hx:X.env.scope.names.lookup x=some .local)
  (hc:X.calm=true) (hi:PI X tg iter wi) (hg:∀ C fp s₀ H₀,PG (R7 X os fr scope C fp s₀ H₀) tg g) (he:∀ C fp s₀ H₀ xe,M6 (CX1 X.prog X.w) ((R7 X os fr scope C fp s₀ H₀).wish xe) E->PE ((R7 X os fr scope C fp s₀ H₀).wish xe) elt te)
  (hsw:swapsWith (.ListComp elt [⟨tg,iter,[],0⟩] scope pos) (some (.Name x pos')) spos.line X.env=pure true:=by rfl)
  (hk:scope.kind=.function:=by rfl) (hok:X5 X.env.scope scope X.N fr=true:=by rfl) (hs:∀ x,foldedSetIterable iter X.env x=pure x:=by intro _; rfl) :
  PS X (.Assign [.Name x pos'] (.ListComp elt [⟨tg,iter,[],0⟩] scope pos) spos) (a4K (tLC os.length fr wi g te) (K5 i)):=by
 intro pins s σ H D I h;unfold a4K tLC at h;rw [exec_Assign_Name_used _ _ _ _ hsw];refine wpAny_bind (wpAny_standAt (wpAny_bind ?_))
 show wpAny _ X.A (do let _ <- comprehension (.ListComp elt [⟨tg,iter,[],0⟩] scope pos) scope X.env _ (newList []) false (eval iter X.env) (some (assign (.Name x pos') X.env))) _ _ s
 refine wpAny_bind (wpAny_mono (wpAny_comprehension_free (use:=some (assign (.Name x pos') X.env)) (Q:=λ _ s'=>SP X pins D .next s') rfl hs (C7 (O7 I hok)) hk (λ x hx hl=>by have:=(M5 hok x hx).1; rw [hl] at this; exact this)
  (B6 (hi pins s σ H _ I h) λ v s1 h1=>B6 h1 λ itv s2 h2=>?_)) (λ _ s' hq=>wpAny_pure (wpAny_pure hq)) λ _ _ e=>e)
 refine a8c (os:=os) (D:=λ p H'=>D.nx (σ.set i (some (.ref p))) H') (use:=some (assign (.Name x pos') X.env)) (QQ:=λ _ s'=>SP X pins D .next s') Lv hc hg he hk hok h2 ?_;intro p C s3 H3 s' H' I3 eC hn I' ⟨m,hm⟩ q
 show wpAny _ X.A (assign (.Name x pos') X.env (.ref p)) _ _ _
 refine wpAny_assign_Name (X1 (v:=.ref p) I' hN hi' (.inl hx) rfl (λ s'' I'' ⟨a,hsa,ha⟩=>?_) (.inr hx));have hCa:C≠a:=by
  rcases ha with e | e
  ·rw [e]; exact cU (by rw [<- eC]; exact I3.lt)
  ·obtain ⟨v,z⟩:=I3.cell x a e
   exact cU (by rw [<- eC]; exact z.lt)
 exact ⟨m,hm.sameBut hsa hCa,λ h' hs'=>⟨_,H',I3.letgo I'' hn (by omega) hs',q⟩⟩
theorem b0M {P:Program} {w:World} {K:W.Frag} {mg:Str->Option Value} {base:Heap} {N:List Str} {qual:Str} {scope:Scope} {f:Addr} {cd:Value} {A:Around} {outer:List Env} {s₀:Shared} {H₀:Hp} {E:XK}:a4h (J6 (CX1 P w) P w K mg base N qual scope f cd A outer s₀ H₀ E) E:=⟨rfl,rfl,rfl,λ _ _ h=>h⟩
end
end L2
namespace Rim
open PySem L2 Fr
abbrev a9d (K:W.Frag) (H:Hp):List V->List (List Int)->Prop:=bZ λ v row=>∃ a,v=.ref a/\SqT K H a (row.map V.int)
theorem a9J (K:W.Frag) {X:Cx} {tg l:Expr} {tl:TE} (h:X.K=K) (hl:PE X l tl):PI X tg l (b1N K tl):=by subst h; exact w8 hl
def a1J (rows:List (List Int)) (k:Nat):List Int:=(aH k).map λ i=>(col rows i).sum
section
variable {P:Program} {w:World} {K:W.Frag} {mg:Str->Option Value} {base:Heap} {f:Addr} {fd:FuncData} {n:Nat} {CN:Addr}
def a8F (K:W.Frag):Sp:=λ vs H Q _=>∃ (rl:Addr) (rvs:List V) (rows:List (List Int)) (k:Nat),vs=[.ref rl]/\SqL K H rl rvs/\a9d K H rvs rows/\1<=rows.length/\rows.length<=100/\k<=100/\(∀ r∈rows,r.length=k) ∧
 ∀ (r:Addr) (H':Hp),Same H H'->H' r=some (.tup ((a1J rows k).map V.int))->Q (.ref r) H'
theorem b4q:r8 ["rows"] ["rows"] (i9 Y6):=⟨rfl,rfl,rfl,by decide +kernel,rfl,by decide +kernel,by decide +kernel⟩
theorem b4z:(["kind","rows"]:List Str).Nodup:=by decide +kernel
theorem b4e:(["row","kind"]:List Str).Nodup:=by decide +kernel
theorem b2E (F:Fun K "together" "together" Y6 f fd) (T:A3 mg):FnOk P w K mg base J7 (n+1) f fd ["rows"] (a8F K):=by
 refine F.ok b4q (λ vs H Q E h=>?_) (λ cdv A outer s H vs Q E hr h=>?_)
 ·obtain ⟨rl,rvs,rows,k,rfl,_⟩:=h
  rfl
 obtain ⟨rl,rvs,rows,k,rfl,hR,hRw,h1,h100,hk,hrow,q⟩:=h;refine ⟨_,j8 (v5 (v9 E9 rfl T.tuple gF (c5 (M8 ["kind"] [0] rfl (J5 rfl T.range (c5 (m9 j9 rfl T.len bQ (c5 (m8 j6 (pv 0) h8 (λ _ _=>rfl)) c7)) c7)) (λ _ _ _ _=>j3 (i:=0) b4z rfl (cI rfl))
   (λ _ _ _ _=>m9 (a6k K rfl rfl) rfl T.sum iK (c5 (M8 ["row"] [0] rfl (a9J K rfl (pv 1)) (λ _ _ _ _=>j3 (i:=0) b4e rfl (aC rfl)) (λ _ _ _ _=>m8 (a3r K rfl) (pv 0) (pv 1) (λ _ _=>rfl))) c7))) c7))),?_⟩
 have rl':rvs.length=rows.length:=Paired.length hRw;have h0v:0<rvs.length:=by omega
 obtain ⟨row0,hrow0,⟨a0,ha0,hS0⟩⟩:=Paired.at hRw (aD h0v);have hr0:=hrow row0 (aU hrow0);have at0:S8 rvs 0=some (.ref a0):=by
  rw [<- ha0];exact v8 (j:=0) (aD h0v)
 have l0:(row0.map V.int).length=k:=by rw [aA]; exact hr0
 refine ⟨_,rfl,rl,_,0,_,rfl,rfl,hR,at0,a0,_,rfl,.inr hS0,_,rfl,by omega,by omega,λ p hp=>?_⟩;refine D3 (xs:=(aH k).map λ (i:Nat)=>V.int (0+(i:Int))) (by rw [l0,aV]; exact a1Q) hp (by rw [aA,cW]; exact j4 (by omega))
   (λ i y _=>y=.int (col rows i).sum) (λ _ _ _ _ r _=>r) (λ i x H' ys N hx e hp' hN=>?_) (λ ys H' e hp' len pr=>?_)
 ·rw [aE] at hx
  cases hri:(aH k)[i]? with
  | none=>rw [hri] at hx; cases hx
  | some i' =>
   obtain ⟨hik,hi'⟩:=aY.mp hri;rw [List.getElem_range] at hi';subst hi';rw [cW] at hik;rw [hri] at hx
   cases hx;refine ⟨Wk.set (by decide),?_⟩;refine ⟨_,rfl,rl,rfl,⟨_,e.seq hR⟩,λ p2 hp2=>?_⟩;refine D3 (t8 (e.seq hR:SqL K _ _ _)) hp2 (j4 (by omega)) (λ j y _=>y=.int ((col rows i).getD j 0)) (λ _ _ _ _ r _=>r) (λ j u H2 zs N2 hu e2 hp2' hN2=>?_) (λ zs H2 e2 hp2' len2 pr2=>?_)
   ·obtain ⟨row,hrowj,⟨b,rfl,hb⟩⟩:=Paired.at hRw hu
    have hki:i<row.length:=by rw [hrow row (aU hrowj)]; exact hik
    have ar:S8 (row.map V.int) (0+(i:Int))=some (.int row[i]):=by
     rw [fX];exact v8 (by rw [aE,aD hki]; rfl)
    have ec:(col rows i).getD j 0=row[i]:=by
     unfold col;rw [aG,aE,hrowj,dW,iD,aG,aD hki]; rfl
    refine ⟨Wk.set (by decide),_,rfl,_,rfl,b,_,_,_,rfl,rfl,(e.trans e2).tseq hb,ar,hN2 _ _ (Same.refl _) ?_⟩;rw [ec]
   ·have ez:zs=(col rows i).map V.int:=by
     have hcl:(col rows i).length=rows.length:=aA _;refine cC λ j=>?_
     by_cases hj:j<zs.length
     ·rw [aD hj,pr2 j _ (aD hj),aE,aD (by omega),aG,aD (by omega)]; rfl
     ·rw [aW (by omega),aW (by rw [aA]; omega)]
    rw [ez] at hp2';exact ⟨p2,_,rfl,.inl (SqL.of hp2'),hN _ _ e2 rfl⟩
 ·have ey:ys=(a1J rows k).map V.int:=by
   rw [aA,cW] at len;unfold a1J;refine cC λ i=>?_
   by_cases hi:i<ys.length
   ·rw [aD hi,pr i _ (aD hi),aE,aE,bI (by omega)]; rfl
   ·rw [aW (by omega),aW (by rw [aA,aA,cW]; omega)]
  rw [ey] at hp';refine ⟨p,_,rfl,.inl ⟨SqL.of hp',λ l hl=>?_⟩⟩;exact q l _ (e.trans (Same.new hl _)) upd_same
end
end Rim
namespace L2
open PySem PySem.Spec PyProof.Rows
abbrev en2 (b:Bool) (h:Heap) (t:Addr):Heap:=(zg1 b h t).push { cls:=.type "enumerate",data:=.fields #[.none,.bool false,.ref h.objs.size,rawInt 0,.none,.none] }
theorem b0X {prog:Program} {w:World} {A:Around} {E:Value->Shared->Prop} {s:Shared} {c:Value} {Q:Bool->Shared->Prop} (h:∀ b,Q b s):wpAny (model prog w) A (Builtin.SmallTypes.calledThroughType c) Q E s:=by
 unfold Builtin.SmallTypes.calledThroughType;exact wpAny_bind (wpAny_stack_any λ st=>wpAny_pure (h _))
theorem b3i (b:Bool) (t:Addr) (xs:Array Value) :
  Meets (Builtin.«enumerate.__new__» ⟨[.type "enumerate",.ref t],[]⟩) (λ _ R s=>IsB b s.heap t xs/\R (.ok (.ret (.ref (zg1 b s.heap t).objs.size))) { s with heap:=en2 b s.heap t }) :=
 .of_wp λ prog w A R s h=>by
  obtain ⟨hp,g,d,tk,os⟩:=s;obtain ⟨e1,h⟩:=h;have hsub:=sub_enumerate;have m1:IsB b (Shared.heap ⟨hp,g,d,tk,os⟩) t xs:=e1
  wp_walk using a4p m1,b0X
  intro c
  cases c
  ·wp_walk using a4p m1
   exact ⟨_,rfl,h⟩
  ·wp_walk using a4p m1
   exact ⟨_,rfl,h⟩
section
variable {prog:Program} {w:World} {A:Around} {E:Value->Shared->Prop} {s:Shared}
theorem b0L {b:Bool} {t:Addr} {xs:Array Value} {Q:Value->Shared->Prop} (l1:IsB b s.heap t xs)
  (q:∀ h',IsEnum h' (s.heap.objs.size+1) s.heap.objs.size 0 .none->ItB b h' s.heap.objs.size t 0->(∀ c o,s.heap.get? c=some o->h'.get? c=some o)->Q (.ref (s.heap.objs.size+1)) { s with heap:=h' }) :
  wpAny (model prog w) A (call (.type "enumerate") [.ref t]) Q E s:=by
 refine callType_new F.called_enumerate (by decide) (F.typeCall_enumerate_1 _) (F.newCall_enumerate_1 _) (λ ob=>F.args_object_init_2 ob _) F.entry_enumerate_new (b3i b t xs) ⟨l1,?_⟩;have n1:(zg1 b s.heap t).objs.size=s.heap.objs.size+1:=Heap.size_push ..;have p2:(en2 b s.heap t).get? (zg1 b s.heap t).objs.size=some _:=Heap.get?_push_size _ rfl;have p1:(en2 b s.heap t).get? s.heap.objs.size=some _:=Heap.get?_push_of_some _ (Heap.get?_push_size _ rfl);rw [n1] at p2
 show _/\_
 rw [n1];exact ⟨⟨_,p2,rfl⟩,q _ p2 (ItB.mk p1) λ c o m=>Heap.get?_push_of_some _ (Heap.get?_push_of_some _ m)⟩
theorem b0b {b:Bool} (hh:A.handled=none) (it t:Addr) (hne:t≠it) (xs:Array Value):Draws prog w A it [it,t] xs.size (λ i v=>xs[i]?=some v) (λ i h=>ItB b h it t i/\IsB b h t xs) where
 live:=λ i h st=>by obtain ⟨o,e,_⟩:=st.1.obj; exact ⟨o,e⟩
 frame:=λ i h h' st k=>⟨st.1.at' λ o e=>k it (by simp) o e,st.2.at' λ o e=>k t (by simp) o e⟩
 item:=λ i s Q E hi st q=>by
  refine Z7 st.1 st.2 (x:=xs[i]) (dP hi) λ h' a1 a2=>?_;exact q _ h' s.toks (dP hi) ⟨a1,st.2.extBut a2.extBut hne⟩ a2
 done:=λ s Q E st q=>a1C hh st.1 st.2 (by simp) λ h' e a1 a2=>q h' e a1 a2
end
def Itn (b:Bool) (K:W.Frag) (l:Addr):It :=
  ⟨λ i H=>∃ xs x,SqB b K H l xs/\xs[i]?=some x,
   λ i H x H'=>∃ p a,H p=none/\x=.ref p/\H'=upd H p (.tup [.int (i:Int),a])/\∀ xs,SqB b K H l xs->xs[i]?=some a,
   λ i H=>∃ xs,SqB b K H l xs/\xs.length<=i⟩
theorem b1k {b:Bool} {P:Program} {w:World} {K:W.Frag} {elts:List Expr} {x1:Nat} {pos:Pos} {e it l:Addr} (hne:e≠it) (hle:l≠e) (hli:l≠it) :
  a5F P w K (.Tuple elts x1 pos) (Itn b K l) [e,it] e (λ i h=>(∃ old,IsEnum h e it (i:Int) old)/\ItB b h it l i) where
 mem:=by simp
 obj:=λ i h st c hb=>by
  obtain ⟨⟨old,he⟩,h1⟩:=st;obtain ⟨o1,e1,v1,d1⟩:=h1.obj;simp only [aL,bV,or_false] at hb;rcases hb with rfl | rfl
  ·exact ⟨_,he,λ v q=>by cases q⟩
  ·exact ⟨o1,e1,λ v q=>by rw [d1] at q; cases q⟩
 keep:=λ i h h' st k=>by
  obtain ⟨⟨old,he⟩,h1⟩:=st;exact ⟨⟨old,k e (by simp) _ he⟩,h1.at' λ o q=>k it (by simp) o q⟩
 item:=by
  intro X hP hw hK hc i pins s σ H E I hf st hg;subst hP hw hK;obtain ⟨xs,x,hq,hx⟩:=hg;obtain ⟨⟨old,he⟩,h1⟩:=st;obtain ⟨its,rv,p,_⟩:=I.sqB hq;obtain ⟨u,hu,ru⟩:=rv.get hx;have hu':its.toArray[i]?=some u:=by simpa using hu
  have il:i<its.toArray.size:=(iL.mp hu').1;refine wpAny_pyNext_enum_itemD (b0b (A:=X.A.in1) (b:=b) (show X.A.in1.handled=none from I.ok.hd hc) it l hli its.toArray) he ⟨h1,p⟩ il hne (by simp; exact ⟨hne,aO hle⟩) λ v h' tk hv a1 a2 a3 a4 a5=>?_;rw [hu'] at hv
  cases hv;refine ⟨_,rfl,wpAny_letOwnedTupleGo_enum (s:={ s with heap:=h',toks:=tk+1 }) a1 λ h'' he'' hs''=>?_⟩;have ie:s.heap.get? e=_:=he;obtain ⟨o1,ei,_⟩:=h1.obj;have neT:∀ c∈[e,it],c≠s.heap.objs.size:=λ c hb q=>by
   have:∃ o,s.heap.get? c=some o:=by
    simp only [aL,bV,or_false] at hb;rcases hb with rfl | rfl
    ·exact ⟨_,ie⟩
    ·exact ⟨_,ei⟩
   obtain ⟨o,ho⟩:=this;exact absurd (Heap.lt_size ho) (by rw [q]; exact bR _)
  have kk:∀ c o,c ∉ [e,it]->s.heap.get? c=some o->h''.get? c=some o:=λ c o hb q=>by
   simp only [aL,bV,or_false,not_or] at hb;exact hs''.extBut c o hb.1 (a5 c o hb.1 hb.2 q)
  have it'':ItB b h'' it l (i+1):=a2.1.extBut hs''.extBut (aO hne);have hoF:∀ c∈[e,it],∃ o,h''.get? c=some o:=λ c hb=>by
   obtain ⟨o2,e2,_⟩:=it''.obj;simp only [aL,bV,or_false] at hb;rcases hb with rfl | rfl
   ·exact ⟨_,he''⟩
   ·exact ⟨_,e2⟩
  have es:e≠s.heap.objs.size:=neT e (by simp);have tup:IsTup h'' s.heap.objs.size [Value.int (i:Int) tk,u].toArray:=⟨_,hs''.extBut _ _ (aO es) a3,rfl,0,rfl⟩;refine ⟨.ref s.heap.objs.size,upd H s.heap.objs.size (.tup [.int (i:Int),x]),(I.turnedLaid (h':=h'') hf kk hoF (aF _) (by show 2<=sizeLine; decide) (show Vals [.int (i:Int),x] [Value.int (i:Int) tk,u] from .cons ⟨_,rfl⟩ (.cons ru .nil)) tup).tok _,rfl,⟨_,x,I.fresh,rfl,rfl,λ xs' q1=>?_⟩,⟨⟨_,he''⟩,it''⟩,λ c hb=>?_⟩
  ·rw [I.sqB_inj q1 hq]; exact hx
  ·rw [d0 (neT c hb)]; exact (hf c hb).1
 done:=by
  intro X hP hw hK hc i pins s σ H E I hf st hg;subst hP hw hK;obtain ⟨xs,hq,hend⟩:=hg;obtain ⟨⟨old,he⟩,h1⟩:=st;obtain ⟨its,rv,p,_⟩:=I.sqB hq;have hl:=rv.length
  by_cases hi:i=its.length
  ·subst hi
   refine wpAny_pyNext_enum_endD (b0b (A:=X.A.in1) (b:=b) (show X.A.in1.handled=none from I.ok.hd hc) it l hli its.toArray) he ⟨by simpa using h1,p⟩ λ h' k=>⟨rfl,I.turnedAll hf λ c o hb q=>?_⟩;simp only [aL,bV,or_false,not_or] at hb;exact k c o hb.2 q
  ·have d:Draws X.prog X.w X.A.in1 it [it,l] 0 (λ _ _=>True) (λ _ h=>ItB b h it l i/\IsB b h l its.toArray):=⟨λ j h st=>by obtain ⟨o,e,_⟩:=st.1.obj; exact ⟨o,e⟩,λ j h h' st k=>⟨st.1.at' λ o e=>k it (by simp) o e,st.2.at' λ o e=>k l (by simp) o e⟩,λ j s Q E hj=>absurd hj (gW _),λ s Q E st q=>a1C (show X.A.in1.handled=none from I.ok.hd hc) st.1 st.2 (by simp; omega) λ h' e a1 a2=>q h' e a1 a2⟩
   refine wpAny_pyNext_enum_endD d he ⟨h1,p⟩ λ h' k=>⟨rfl,I.turnedAll hf λ c o hb q=>?_⟩;simp only [aL,bV,or_false,not_or] at hb;exact k c o hb.2 q
 self:=λ _ _ _ _ _ st h=>by
  obtain ⟨⟨old,he⟩,_⟩:=st;exact wpAny_pyIter_enum he h
def iEn (b:Bool) (K:W.Frag) (ta:TA):TI:=λ σ H R=>ta σ H λ vs H1=>∃ l,vs=[.ref l]/\(∃ xs,SqB b K H1 l xs)/\R (Itn b K l) H1
theorem b3Q (b:Bool) (K:W.Frag) {X:Cx} {a:Expr} {ta:TA} {p pos pos':Pos} {elts:List Expr} {x1:Nat} (hK:X.K=K) (hg:Gl X "enumerate") (hm:X.mg "enumerate"=none) (ha:PA X [a] ta) (hs:starEach [a] X.env=[(false,eval a X.env)]:=by rfl) (hs2:starEach ([]:List Expr) X.env=[]:=by rfl) :
  PI X (.Tuple elts x1 pos') (.Call (.Name "enumerate" p) [a] [] pos) (iEn b K ta):=by
 subst hK;intro pins s σ H R I h;refine Call_ (S5 I hg hm boot_enumerate (fP (B6 (ha pos pins s σ H _ I h) λ us s1 ⟨vs,H1,I1,r1,q1⟩=>?_) (by rw [hs,hs2]) (by rw [hs2]; rfl)));obtain ⟨l,e,⟨xs,q1⟩,q⟩:=q1;subst e;obtain ⟨u,rfl,ru⟩:=N9 r1
 cases ru;obtain ⟨its,rv,p,_⟩:=I1.sqB q1;have lt1:l<s1.heap.objs.size:=p.lt;refine b0L p λ h' z1 z2 k=>?_;have I2:Inv X pins σ H1 { s1 with heap:=h' }:=I1.kept (t':=s1.toks) k;refine wpAny_pyIter_enum z1 ?_;refine ⟨s1.heap.objs.size+1,[s1.heap.objs.size+1,s1.heap.objs.size],_,_,H1,rfl,I2,b1k (b:=b) (l:=l) (e:=s1.heap.objs.size+1) (it:=s1.heap.objs.size) (jD _) (bD (dQ lt1)) (bD lt1),⟨⟨_,z1⟩,z2⟩,λ b hb=>?_,q⟩;have hb':s1.heap.objs.size<=b:=by
  simp only [aL,bV,or_false] at hb;rcases hb with rfl | rfl
  ·exact fB _
  ·exact aF _
 exact I1.fpOk hb' (I1.hok.fresh hb')
section
variable {b:Bool} {xs:List V} {K:W.Frag} {l:Addr} {fr:List Nat} {te:TE} {σ:St} {H1:Hp} {p:Addr} {D:Hp->Prop}
end
def T1 (q:Nat->Bool) (F:Nat->V->V) (xs:List V) (n:Nat):List V:=((aH n).filter q).filterMap λ i=>(xs[i]?).map (F i)
theorem a6b (q:Nat->Bool) (F:Nat->V->V) (xs:List V) (n:Nat):(T1 q F xs n).length<=n:=by
 unfold T1;have h1:=List.length_filterMap_le (λ i=>(xs[i]?).map (F i)) ((aH n).filter q);have h2:=gY q (aH n);rw [cW] at h2;omega
theorem a0S {q:Nat->Bool} {F:Nat->V->V} {xs:List V} {n:Nat} {x:V} (h:xs[n]?=some x):T1 q F xs (n+1)=T1 q F xs n++(if q n=true then [F n x] else []):=by
 unfold T1;rw [fK,fT,jQ]
 congr 1
 cases e:q n with
 | true=>simp [e,h]
 | false=>simp [e]
section
variable {b:Bool} {xs:List V} {K:W.Frag} {l:Addr} {fr:List Nat} {tc:TT} {te:TE} {σ:St} {H1:Hp} {p:Addr} {D:Hp->Prop}
theorem b3d (hl:SqB b K H1 l xs) (hp:H1 p=none) (hz:xs.length<sizeLine) (q:Nat->Bool) (F:Nat->V->V)
  (test:∀ (i:Nat) x H ys (N:Bool->Hp->Prop),xs[i]?=some x->Same H1 H->H p=some (.lst ys)->(∀ H3,Same H H3->N (q i) H3)->tc (((blkσ 2 fr σ).set 0 (some (.int (i:Int)))).set 1 (some x)) H N)
  (step:∀ (i:Nat) x H (N:VK),xs[i]?=some x->q i=true->Same H1 H->N (F i x) H->te (((blkσ 2 fr σ).set 0 (some (.int (i:Int)))).set 1 (some x)) H N)
  (hd:∀ H,Same H1 H->H p=some (.lst (T1 q F xs xs.length))->D H):lcI 2 fr (a8d K 2 (a0i (K5 0) (a0i (K5 1) a9X))) tc te σ (Itn b K l) H1 p D:=by
 refine ⟨λ i m ys H=>m=xs.length - i/\i<=xs.length/\Same H1 H/\H p=some (.lst ys)/\ys=T1 q F xs i,⟨xs.length,by simp,bW _,Same.new hp _,upd_same,rfl⟩,?_⟩;rintro i m ys H ⟨rfl,hi,e,hH,rfl⟩
 by_cases hlt:i<xs.length
 ·refine .inr ⟨⟨xs,xs[i],e.sqB hl,aD hlt⟩,λ u H' y=>?_⟩
  obtain ⟨z,a,hz',rfl,rfl,hab⟩:=y;have ha:=hab xs (e.sqB hl);have s1:=Same.new hz' (.tup [.int (i:Int),a]);refine ⟨z,_,rfl,SqT.of upd_same,rfl,_,_,rfl,_,_,rfl,rfl,?_,?_⟩
  ·refine ⟨by simp,λ k w ek=>?_⟩
   have:¬ k<2:=λ hk=>by
    unfold blkσ at ek;rw [bF (by simpa using hk),dI] at ek
    split at ek <;> cases ek
   rw [bS (by omega),bS (by omega)]; exact ek
  ·refine test i a _ _ _ ha (e.trans s1) (s1 _ _ hH) λ H3 s3=>?_
   have hH3:=s3 _ _ (s1 _ _ hH)
   cases hq:q i with
   | false =>
    rw [if_neg bK];exact ⟨xs.length - (i+1),by omega,rfl,hlt,e.trans (s1.trans s3),hH3,by rw [a0S ha,hq]; simp⟩
   | true =>
    rw [if_pos rfl];refine step i a _ _ ha hq (e.trans (s1.trans s3)) ⟨hH3,?_,xs.length - (i+1),by omega,rfl,hlt,(e.trans (s1.trans s3)).write hp,upd_same,by rw [a0S ha,hq]; simp⟩;have:=a6b q F xs i;omega
 ·have:i=xs.length:=by omega
  subst this;exact .inl ⟨⟨xs,e.sqB hl,by omega⟩,hd H e hH⟩
end
end L2
namespace HT
open PySem PySem.Spec PyProof.Rows L2
section
variable {prog:Program} {w:World} {A:Around} {E:Value->Shared->Prop} {s:Shared}
end
end HT
namespace L2
open PySem PySem.Spec PyProof.Rows
section
variable {X:Cx}
theorem a9j (xs:List V) (h:xs≠[]):A7 xs none (some (-1))=xs.take (xs.length - 1)/\A7 xs (some (-1)) none=xs.drop (xs.length - 1):=by
 have hl:0<xs.length:=iZ.mpr h;have e:∀ d,HT.sIx xs.length d (some (-1))=xs.length - 1:=λ d=>by
  show (if (-1:Int)<0 then ((-1:Int)+(xs.length:Int)).toNat else min (-1:Int).toNat xs.length)=_
  rw [if_pos (by decide)]; omega
 constructor
 ·unfold A7
  rw [e,HT.sIx_none,gZ,Nat.sub_zero]
 ·unfold A7
  rw [e,HT.sIx_none,fF];rw [dL]; omega
end
end L2
namespace Rim
open PySem L2 Fr
theorem a8w (K:W.Frag) {X:Cx} (h:X.K=K):X7 X (compareOp .NotIn) (rIn K true):=by subst h; exact a3P
def P1 (hs:List i7) (ns:List Int):List i7:=ns.map λ m=>hs.getD m.toNat ([],[])
def mgH (hs:List i7) (ns:List Int) (kt kg:Nat):i7:=(a1J ((P1 hs ns).map lT) kt,a1J ((P1 hs ns).map lU) kg)
def X8 (ns:List Int) (place:Int) (i:Nat):Bool:=decide ((i:Int)=place) || !ns.contains (i:Int)
def b0U (hs:List i7) (ns:List Int) (kt kg:Nat) (place:Int):List i7:=((aH hs.length).filter (X8 ns place)).filterMap λ i=>(hs.set place.toNat (mgH hs ns kt kg))[i]?
structure a2S (ns:List Int) (p:Int):Prop where
 m:p∈ns
 le:∀ x∈ns,p<=x
section
variable {P:Program} {w:World} {K:W.Frag} {mg:Str->Option Value} {base:Heap} {f:Addr} {fd:FuncData} {n:Nat} {CN CM:Addr}
def b2o (K:W.Frag) (CN CM:Addr):Sp:=λ vs H Q E=>∃ (ba nl:Addr) (xs:List V) (hs:List i7) (ns:List Int) (far:Int) (kt kg:Nat),vs=[.ref ba,.ref nl]/\P4 K H ba xs hs far kt kg/\1<=kt/\1<=kg/\SqL K H nl (ns.map V.int)/\1<=ns.length/\ns.length<=100/\(∀ m∈ns,m.natAbs.log2<1920) ∧
 (∀ H',Same H H'->(∃ m∈ns,¬ a1m xs.length m)->E (.ref CN) none H') ∧
 (∀ H',Same H H'->(∀ m∈ns,a1m xs.length m)->(∃ v∈(mgH hs ns kt kg).1++(mgH hs ns kt kg).2,1000000000<v)->E (.ref CM) none H') ∧
 (∀ (r:Addr) (ys:List V) (place:Int) (H':Hp),Same H H'->H r=none->(∀ m∈ns,a1m xs.length m)->(∀ v∈(mgH hs ns kt kg).1++(mgH hs ns kt kg).2,v<=1000000000)->a2S ns place->H' r=some (.lst ys)->Bk K H' ys (b0U hs ns kt kg place)->Q (.ref r) H')
theorem scMrg:r8 ["book","numbers","houses","takes","gives","place","told"] ["book","numbers"] (i9 P9):=⟨rfl,rfl,rfl,by decide +kernel,rfl,by decide +kernel,by decide +kernel⟩
theorem b3S:(["number","book"]:List Str).Nodup:=by decide +kernel
theorem b2c:(["house"]:List Str).Nodup:=by decide +kernel
theorem b2i:(["number","house","place","numbers"]:List Str).Nodup:=by decide +kernel
noncomputable def b6f {cdv:Value} {A:Around} {outer:List Env} {s:Shared} {H:Hp} {E:XK} {f1 f2:Addr} {d1 d2:FuncData} {tm:Tok} (T:A3 mg) (kM:a4t K CM) (mM:mg "TooMany"=some (.ref CM)) (hma:mg "MOST_AMOUNT"=some (.int 1000000000 tm)) (Ch:a5X P w K mg base n "house_of" ["book","number"] (a5j K CN) f1 d1) (Ct:SCal P w K mg base n "together" ["rows"] (a8F K) f2 d2)
  (hr:Room n (A.deeper (dU "merged" (i9 P9) s.heap.objs.size f cdv))) :
  { t:TS // PSs (J6 (CX1 P w) P w K mg base ["book","numbers","houses","takes","gives","place","told"] "merged" (i9 P9) f cdv A outer s H E) (v4 P9) t } :=
 ⟨_,r6 (b3j (i:=2) ["number"] [0] b0M scMrg.nd rfl rfl rfl (w8 (pv 1)) (λ _ _ _ _=>j3 (i:=0) b3S rfl (aC rfl)) (λ _ _ _ _ _ hx=>m6 Ch.ok hr rfl Ch.m Ch.k Ch.b .nil hx (c5 (pv 1) (c5 (pv 0) c7))))
  (r6 (p6 (i:=3) scMrg.nd rfl (aC rfl) (m6 Ct.ok hr rfl Ct.m Ct.k Ct.b .nil u0 (c5 (M8 ["house"] [] rfl (w8 (pv 2)) (λ _ _ _ _=>j3 (i:=0) b2c rfl (aC rfl)) (λ _ _ _ _=>m8 (a3r K rfl) (pv 0) h8 (λ _ _=>rfl))) c7)))
  (r6 (p6 (i:=4) scMrg.nd rfl (aC rfl) (m6 Ct.ok hr rfl Ct.m Ct.k Ct.b .nil u0 (c5 (M8 ["house"] [] rfl (w8 (pv 2)) (λ _ _ _ _=>j3 (i:=0) b2c rfl (aC rfl)) (λ _ _ _ _=>m8 (a3r K rfl) (pv 0) h8 (λ _ _=>rfl))) c7)))
  (r6 (E2 (r9 a1d (m9 (a0M rfl) rfl T.max jJ (c5 (j5 a7d (pv 3) (pv 4)) c7)) (a1q (v:=.int 1000000000) rfl hma ⟨_,rfl⟩) (t9 _)) (j8 (a4q kM rfl mM hr.hd (c5 R9 c7))) y6)
  (PSs.nox (j0 (p6 (i:=5) scMrg.nd rfl (cI rfl) (m9 (a7B rfl) rfl T.min gE (c5 (pv 1) c7)))
  (j0 (p6 (i:=6) scMrg.nd rfl (aC rfl) (v9 E5 rfl T.list eL (c5 (pv 0) c7)))
  (j0 (E4 (O9 (c5 (pv 3) (c5 (pv 4) c7))) (P0 (pv 6) (pv 5) E8))
  (j8 (v5 (a3R ["number","house"] [5,1] rfl (b3Q true K rfl rfl T.enum (c5 (pv 6) c7)) (λ _ _ _ _=>K8 K (n:=2) rfl rfl (j7 (j3 (i:=0) b2i rfl (aC rfl)) (j7 (j3 (i:=1) b2i rfl (aC rfl)) x9)))
   (λ _ _ _ _=>PW.pt (a9B (r9 a1c (pv 0) (pv 2) (t9 _)) (a6a (r9 (a8w K rfl) (pv 0) (pv 3) rfl)))) (λ _ _ _ _=>pv 1)))))))))))⟩
theorem b2g {ns:List Int} {i:Nat} {x:V} (h:(ns.map V.int)[i]?=some x):∃ k,x=.int k/\ns[i]?=some k:=by
 rw [aE] at h
 cases e:ns[i]? with
 | none=>rw [e] at h; cases h
 | some k=>rw [e] at h; cases h; exact ⟨k,rfl,rfl⟩
theorem a2D {α β:Type} {R:α->β->Prop} {x:α} {y:β} (r:R x y):∀ {xs:List α} {ys:List β} (i:Nat),Paired R xs ys->Paired R (xs.set i x) (ys.set i y)
 | _,_,_,.nil=>.nil
 | _,_,0,.cons _ t=>.cons r t
 | _,_,i+1,.cons q t=>.cons q (a2D r i t)
theorem U0 {α β:Type} {R:α->β->Prop} {xs:List α} {ys:List β} (h:Paired R xs ys):∀ l:List Nat,Paired R (l.filterMap λ i=>xs[i]?) (l.filterMap λ i=>ys[i]?)
 | []=>.nil
 | i::l=>by
  rw [fN,fN]
  cases e:xs[i]? with
  | none =>
   have:ys[i]?=none:=aW (by have:=iP.mp e; have:=Paired.length h; omega);rw [this]; exact U0 h l
  | some x =>
   obtain ⟨y,hy,r⟩:=Paired.at h e;rw [hy]; exact .cons r (U0 h l)
theorem a8l (ns:List Int):(ns.map V.int).all a0c=true:=by
 rw [List.all_map];exact iX.mpr λ _ _=>rfl
theorem a4u (x:Int):∀ ns:List Int,inV (.int x) (ns.map V.int)=ns.contains x
 | []=>rfl
 | y::r=>by
  have ih:=a4u x r;unfold inV at ih ⊢;rw [aQ,iU,ih,List.contains_cons]
  show (y==x || _)=_
  rw [show (y==x)=(x==y) from Bool.beq_comm]
theorem a1r (rows:List (List Int)) (k:Nat):(a1J rows k).length=k:=by unfold a1J; rw [aA,cW]
theorem a4P {H:Hp} {j:Nat}:∀ (zs:List V) (gs:List i7),zs.length=gs.length->(∀ (i:Nat) (z:V),zs[i]?=some z->∃ h a,gs[i]?=some h/\z=.ref a/\SqT K H a ((D4 j h).map V.int))->a9d K H zs (gs.map (D4 j))
 | [],[],_,_=>.nil
 | [],_::_,h,_=>by simp at h
 | _::_,[],h,_=>by simp at h
 | z::zs,g::gs,hl,h=>by
  obtain ⟨h',a,e,rfl,hs⟩:=h 0 z rfl
  cases e;exact .cons ⟨a,rfl,hs⟩ (a4P zs gs (by simpa using hl) λ i z hz=>h (i+1) z (by simpa using hz))
theorem b2C {f1 f2:Addr} {d1 d2:FuncData} (F:Fun K "merged" "merged" P9 f fd) (T:A3 mg) (kM:a4t K CM) (mM:mg "TooMany"=some (.ref CM)) (hC:∃ t,mg "MOST_AMOUNT"=some (.int 1000000000 t)) (Ch:a5X P w K mg base n "house_of" ["book","number"] (a5j K CN) f1 d1) (Ct:SCal P w K mg base n "together" ["rows"] (a8F K) f2 d2) :
  FnOk P w K mg base (CX1 P w) (n+1) f fd ["book","numbers"] (b2o K CN CM):=by
 refine F.ok1 scMrg (λ vs H Q E h=>?_) (λ cdv A outer s H vs Q E hr h=>?_)
 ·obtain ⟨ba,nl,xs,hs,ns,far,kt,kg,rfl,_⟩:=h
  rfl
 obtain ⟨ba,nl,xs,hs,ns,far,kt,kg,rfl,B,kt1,kg1,hNl,n1,n100,lm,qN,qM,q⟩:=h;obtain ⟨tm,hma⟩:=hC;refine ⟨_,(b6f T kM mM hma Ch Ct hr).2,?_⟩;have xl:xs.length=hs.length:=Paired.length B.b;have few:=B.few;have bt:=B.t;have bk:=B.k;have small:=j4 (show (1000:Nat)<=1000 from aF _);have hol:(P1 hs ns).length=ns.length:=by unfold P1; rw [aA]
 refine ⟨λ σ' H'=>∃ (hl:Addr) (ys:List V),σ'=[some (.ref ba),some (.ref nl),some (.ref hl),none,none,none,none]/\Same H H'/\H' hl=some (.lst ys)/\ys.length=ns.length/\(∀ m∈ns,a1m xs.length m)/\∀ (i:Nat) y,ys[i]?=some y->∃ h,(P1 hs ns)[i]?=some h/\HS K H' y h/\h∈hs,?_,?_⟩
 ·refine ⟨_,rfl,nl,rfl,⟨_,hNl⟩,λ p hp=>?_⟩
  refine D3 (t8 hNl) hp (by rw [aA]; exact j4 (by omega)) (λ i y _=>∃ k:Nat,ns[i]?=some (k:Int)/\xs[k]?=some y) (λ _ _ _ _ r _=>r) (λ i x H' ys N hx e hp' hN=>?_) (λ ys H' e hp' len pr=>?_)
  ·obtain ⟨m,rfl,hm⟩:=b2g hx
   have hmm:=aU hm;exact ⟨Wk.set (by decide),_,rfl,_,rfl,ba,xs,m,rfl,e.seq B.l,lm m hmm,λ k x hk hx=>hN _ _ (Same.refl _) ⟨k,by rw [hm,hk],hx⟩,λ bad=>qN _ e ⟨m,hmm,bad⟩⟩
  ·rw [aA] at len
   have gd:∀ m∈ns,a1m xs.length m:=λ m hm=>by
    obtain ⟨i,hi⟩:=eE hm;have hil:=(aY.mp hi).1;obtain ⟨k,hk,hx⟩:=pr i _ (aD (show i<ys.length by omega));rw [hi] at hk; cases hk;have:=(aY.mp hx).1;exact ⟨by omega,by omega⟩
   refine ⟨p,ys,rfl,e,hp',len,gd,λ i y hy=>?_⟩;obtain ⟨k,hk,hx⟩:=pr i y hy;obtain ⟨h,hh,hs'⟩:=Paired.at B.b hx;refine ⟨h,?_,hs'.same e,aU hh⟩;unfold P1;rw [aE,hk,dW,aV,aG,hh]; rfl
 intro σ1 H1 hM_; refine C9 λ G_ hG_=>?_; obtain ⟨hl,ys,rfl,e1,hhl,yl,gd,pr⟩:=hM_; subst hG_;have row:∀ (j:Nat) (hj:j<2) {H2:Hp} (p:Addr) (zs:List V),Same H1 H2->H2 p=some (.lst zs)->zs.length=ys.length->(∀ (i:Nat) (z:V),zs[i]?=some z->∃ h a,(P1 hs ns)[i]?=some h/\z=V.ref a/\SqT K H1 a ((D4 j h).map V.int))->a9d K H2 zs ((P1 hs ns).map (D4 j)):=λ j _ {H2} p zs e2 _ len pz =>
  a4P zs _ (by omega) λ i z hz=>by
   obtain ⟨h,a,z1,z2,z3⟩:=pz i z hz;exact ⟨h,a,z1,z2,e2.tseq z3⟩
 have inh:∀ h∈P1 hs ns,h∈hs:=λ h hh=>by
  obtain ⟨i,hi⟩:=eE hh;have hil:=(aY.mp hi).1;obtain ⟨h',z1,_,z3⟩:=pr i _ (aD (show i<ys.length by omega));rw [hi] at z1; cases z1; exact z3
 refine ⟨λ σ' H'=>∃ (ta:Addr),σ'=[some (.ref ba),some (.ref nl),some (.ref hl),some (.ref ta),none,none,none]/\Same H1 H'/\H' ta=some (.tup ((mgH hs ns kt kg).1.map V.int)),?_,?_⟩
 ·refine ⟨_,rfl,hl,rfl,⟨_,SqL.of hhl⟩,λ p hp=>?_⟩
  refine D3 (t8 (SqL.of hhl)) hp (j4 (by omega)) (λ i y _=>∃ h a,(P1 hs ns)[i]?=some h/\y=.ref a/\SqT K H1 a ((D4 0 h).map V.int)) (λ _ _ _ _ r _=>r) (λ i x H' zs N hx e hp' hN=>?_) (λ zs H' e hp' len pz=>?_)
  ·obtain ⟨h,z1,⟨a,t0,g0,rfl,p1,p2,p3⟩,_⟩:=pr i x hx
   exact ⟨Wk.set (by decide),_,rfl,a,_,0,_,rfl,rfl,e.tseq p1,a9u _ _,hN _ _ (Same.refl _) ⟨h,t0,z1,rfl,p2⟩⟩
  ·refine ⟨p,zs,_,kt,rfl,SqL.of hp',row 0 (by decide) p zs e hp' len pz,by rw [aA]; omega,by rw [aA]; omega,by omega,λ r hr=>?_,λ r H2 e2 hr2=>⟨r,rfl,e.trans e2,hr2⟩⟩
   obtain ⟨h,hh,rfl⟩:=aK.mp hr;exact (B.g h (inh h hh)).lt
 intro σ2 H2 hM_; refine C9 λ G_ hG_=>?_; obtain ⟨ta,rfl,e2,hta⟩:=hM_; subst hG_;have hhl2:=e2 _ _ hhl;refine ⟨λ σ' H'=>∃ (ga:Addr),σ'=[some (.ref ba),some (.ref nl),some (.ref hl),some (.ref ta),some (.ref ga),none,none]/\Same H2 H'/\H' ga=some (.tup ((mgH hs ns kt kg).2.map V.int)),?_,?_⟩
 ·refine ⟨_,rfl,hl,rfl,⟨_,SqL.of hhl2⟩,λ p hp=>?_⟩
  refine D3 (t8 (SqL.of hhl2)) hp (j4 (by omega)) (λ i y _=>∃ h a,(P1 hs ns)[i]?=some h/\y=.ref a/\SqT K H1 a ((D4 1 h).map V.int)) (λ _ _ _ _ r _=>r) (λ i x H' zs N hx e hp' hN=>?_) (λ zs H' e hp' len pz=>?_)
  ·obtain ⟨h,z1,⟨a,t0,g0,rfl,p1,p2,p3⟩,_⟩:=pr i x hx
   exact ⟨Wk.set (by decide),_,rfl,a,_,1,_,rfl,rfl,(e2.trans e).tseq p1,a9C _ _,hN _ _ (Same.refl _) ⟨h,g0,z1,rfl,p3⟩⟩
  ·refine ⟨p,zs,_,kg,rfl,SqL.of hp',row 1 (by decide) p zs (e2.trans e) hp' len pz,by rw [aA]; omega,by rw [aA]; omega,by omega,λ r hr=>?_,λ r H3 e3 hr3=>⟨r,rfl,e.trans e3,hr3⟩⟩
   obtain ⟨h,hh,rfl⟩:=aK.mp hr;exact (B.g h (inh h hh)).lg
 intro σ3 H3 hM_; refine C9 λ G_ hG_=>?_; obtain ⟨ga,rfl,e3,hga⟩:=hM_; subst hG_;have hta3:=e3 _ _ hta;have e03:=e1.trans (e2.trans e3);have l1:(mgH hs ns kt kg).1.length=kt:=a1r _ _;have l2:(mgH hs ns kt kg).2.length=kg:=a1r _ _;refine ⟨λ σ' H'=>σ'=[some (.ref ba),some (.ref nl),some (.ref hl),some (.ref ta),some (.ref ga),none,none]/\Same H3 H'/\∀ v∈(mgH hs ns kt kg).1++(mgH hs ns kt kg).2,v<=1000000000,?_,?_⟩
 ·refine ⟨_,rfl,_,rfl,ta,ga,_,_,rfl,rfl,SqT.of hta3,SqT.of hga,λ z=>?_,?_,λ z=>?_,λ _ p hp=>?_⟩
  ·have:=congrArg fD z
   rw [aA] at this;simp only [dO] at this;omega
  ·rw [aA,aA]; show _<=sizeLine; omega
  ·have:=congrArg fD z
   rw [aA] at this;simp only [dO] at this;omega
  have s1:=Same.new hp (.tup ((mgH hs ns kt kg).1.map V.int++(mgH hs ns kt kg).2.map V.int));rw [<- bN] at s1 ⊢;refine ⟨p,_,rfl,.inr (SqT.of upd_same),λ z=>?_,λ M hM hle=>⟨_,_,rfl,rfl,_,rfl,G5 (λ c=>?_) (λ c=>⟨rfl,s1,λ v hv=>?_⟩)⟩⟩
  ·have:=congrArg fD z
   simp only [aJ,dO] at this;omega
  ·exact ⟨(by show 1<=1000; decide),qM _ (e03.trans s1) gd ⟨M,hM,of_decide_eq_true c⟩⟩
  ·have c':¬ M>1000000000:=of_decide_eq_false (by simpa using c)
   have:=hle v hv;omega
 intro σ4 H4 hM_; refine C9 λ G_ hG_=>?_; obtain ⟨rfl,e4,fit⟩:=hM_; subst hG_;have e04:=e03.trans e4;have hta4:=e4 _ _ hta3;have hga4:=e4 _ _ hga;refine ⟨_,rfl,nl,ns,rfl,.inl (e04.seq hNl),λ z=>by rw [z] at n1; simp at n1,λ pl hpl hle=>?_⟩;have gp:=gd pl hpl;refine ⟨_,rfl,ba,_,rfl,.inl (e04.seq B.l),λ tl htl=>?_⟩;have s5:=Same.new htl (.lst xs);refine ⟨_,rfl,_,rfl,(by show 2<=sizeLine; decide),λ hv hhv=>?_⟩;have s6:=Same.new hhv (.tup [V.ref ta,V.ref ga]);have tlv:tl≠hv:=i8 upd_same hhv;have htl2:H tl=none:=by
  cases e:H tl with
  | none=>rfl
  | some o=>rw [e04 _ _ e] at htl; cases htl
 have hH6:(upd (upd H4 tl (.lst xs)) hv (.tup [V.ref ta,V.ref ga])) tl=some (.lst xs):=s6 _ _ upd_same;have e06:=e04.trans (s5.trans s6);have hv6:(upd (upd H4 tl (.lst xs)) hv (.tup [V.ref ta,V.ref ga])) hv=some (.tup [V.ref ta,V.ref ga]):=upd_same;have ta6:=(s5.trans s6) _ _ hta4;have ga6:=(s5.trans s6) _ _ hga4;generalize upd (upd H4 tl (.lst xs)) hv (.tup [V.ref ta,V.ref ga])=H6 at *;refine ⟨_,rfl,_,rfl,tl,xs,pl,_,rfl,rfl,hH6,W8 gp.1 gp.2,?_⟩;have e07:Same H (upd H6 tl (.lst (xs.set pl.toNat (.ref hv)))):=e06.write htl2;have nt:∀ {b o},H6 b=some o->(∀ l,o≠.lst l)->b≠tl:=λ hb hn z=>by rw [z,hH6] at hb; exact hn _ (aM hb).symm
 have hv7:(upd H6 tl (.lst (xs.set pl.toNat (.ref hv)))) hv=some (.tup [V.ref ta,V.ref ga]):=by rw [d0 (nt hv6 nofun)]; exact hv6
 have ta7:(upd H6 tl (.lst (xs.set pl.toNat (.ref hv)))) ta=_:=(d0 (nt ta6 nofun)).trans ta6;have ga7:(upd H6 tl (.lst (xs.set pl.toNat (.ref hv)))) ga=_:=(d0 (nt ga6 nofun)).trans ga6;have tl7:(upd H6 tl (.lst (xs.set pl.toNat (.ref hv)))) tl=some (.lst (xs.set pl.toNat (.ref hv))):=upd_same;generalize upd H6 tl (.lst (xs.set pl.toNat (.ref hv)))=H7 at *;refine ⟨_,rfl,tl,rfl,⟨_,SqL.of tl7⟩,λ p hp=>?_⟩;have hp0:H p=none:=by
  cases e:H p with
  | none=>rfl
  | some o=>rw [e07 _ _ e] at hp; cases hp
 refine b3d (b:=true) (SqL.of tl7) hp (by rw [bY]; exact j4 (by omega)) (X8 ns pl) (λ _ y=>y) (λ i y H2 zs N hy e hp' hNN=>?_) (λ i y H2 N hy hq e hNN=>⟨_,rfl,hNN⟩) (λ H2 e hp'=>?_)
 ·refine ⟨_,rfl,_,rfl,rfl,_,rfl,G5 (λ c=>?_) (λ c=>?_)⟩
  ·have st:X8 ns pl i=true:=by unfold X8; rw [decide_eq_true (V.int.inj (of_decide_eq_true c))]; rfl
   have:=hNN _ (Same.refl _);rw [st] at this;exact this
  ·refine ⟨_,rfl,_,rfl,nl,_,rfl,.inl ((e07.trans e).seq hNl),rfl,a8l ns,_,rfl,?_⟩
   have st:X8 ns pl i=!inV (.int (i:Int)) (ns.map V.int):=by
    unfold X8;rw [a4u,decide_eq_false (λ z=>(of_decide_eq_false (fY.mpr c)) (by rw [z])),Bool.false_or]
   have:=hNN _ (Same.refl _);rw [st] at this;exact this
 ·refine q p _ pl H2 (e07.trans e) hp0 gd fit ⟨hpl,hle⟩ hp' ?_
  have hb:Bk K H2 (xs.set pl.toNat (.ref hv)) (hs.set pl.toNat (mgH hs ns kt kg)):=a2D ⟨hv,ta,ga,rfl,SqT.of (e _ _ hv7),SqT.of (e _ _ ta7),SqT.of (e _ _ ga7)⟩ _ (Bk.same (e07.trans e) B.b);have:=U0 hb ((aH hs.length).filter (X8 ns pl));unfold b0U T1;rw [bY,xl]
  simpa using this
end
structure GrU (z:Str) (hs:List i7) (h:i7) (kt kg:Nat) (A B:Int):Prop where
 s:b2K z hs h kt kg A B
 a:Big 20000 A
 p:0<A
 b:0<B
 c:B<2 ^ 8000
section
variable {P:Program} {w:World} {K:W.Frag} {mg:Str->Option Value} {base:Heap} {f Pt d CN CB:Addr} {fd:FuncData} {n:Nat} {C:Addr}
end
structure b6u (z:Str) (hs:List i7) (h:i7) (kt kg:Nat) (ws:List Int) (v:Int):Prop where
 m:Mx z hs ws v
 t:∀ j,j<kt->D9 hs ws 0 j<=h.1.getD j 0*v
 g:∀ j,j<kg->h.2.getD j 0*v<=D9 hs ws 1 j
 s:h.2.sum*v - h.1.sum*v<t7 (hs.map λ g=>g.2.sum - g.1.sum) ws
section
variable {z:Str} {hs:List i7} {h:i7} {kt kg i:Nat} {S:Lp.Bo} {far:Int}
end
section
variable {z:Str} {hs:List i7} {h:i7} {kt kg i:Nat} {far:Int}
end
def Dom (z:Str) (hs R:List i7) (kt kg:Nat):Prop:=∀ ws D,Mx z hs ws D->∃ ws' e,0<e/\Mx z R ws' (D*e)/\(∀ j,j<kt->D9 R ws' 0 j<=D9 hs ws 0 j*e)/\∀ j,j<kg->D9 hs ws 1 j*e<=D9 R ws' 1 j
section
variable {z:Str} {hs R:List i7} {h:i7} {kt kg:Nat} {far A B:Int}
theorem Shr.dom {ws:List Int} {D:Int} (S:Shr z hs h kt kg A B ws D) (d:Dom z hs R kt kg) (hB:0<B):∃ ws' D',Shr z R h kt kg A B ws' D':=by
 obtain ⟨w1,e1,p1,M1,t1,g1⟩:=d ws D S.m;refine ⟨w1,D*e1,M1,λ j hj=>?_,λ j hj=>?_⟩
 ·have a:=dA (t1 j hj) (aN hB)
  have b:=dA (S.t j hj) (aN p1);have e:D9 hs ws 0 j*e1*B=D9 hs ws 0 j*B*e1:=by ac_rfl
  rw [e] at a;rw [<- aX];exact eX a b
 ·have b:=dA (S.g j hj) (aN p1)
  rw [<- aX];exact eX b (g1 j hj)
theorem IsShare.dom (I:IsShare z hs h kt kg A B) (d:Dom z hs R kt kg) (hs':∀ g∈R,g∈hs):IsShare z R h kt kg A B:=by
 obtain ⟨b,⟨ws,D,S⟩,pt,pg,ps,P,pp,e⟩:=I;obtain ⟨w,D',S'⟩:=S.dom d b;exact ⟨b,⟨w,D',S'⟩,pt,pg,ps,P.sub hs',pp,e⟩
theorem Px.dom {pt pg:List Int} {ps:Int} (hz:Szw z) (P:Px z R kt kg pt pg ps) (d:Dom z hs R kt kg) (hk:∀ g∈hs,g.1.length=kt/\g.2.length=kg) (hkR:∀ g∈R,g.1.length=kt/\g.2.length=kg):Px z hs kt kg pt pg ps:=by
 refine ⟨P.lt,P.lg,P.tn,P.gn,P.sign,λ g hg=>?_⟩;obtain ⟨i,hi⟩:=eE hg;have S:=a9b (z:=z) (kt:=kt) (kg:=kg) hi;obtain ⟨w,D',S'⟩:=S.dom d (by decide);have:=S'.weak hz P hkR (hk g hg).1 (hk g hg).2 (by decide);omega
theorem b1c (hz:Szw z) (d:Dom z hs R kt kg) (hk:∀ g∈hs,g.1.length=kt/\g.2.length=kg) (hR:∀ g∈R,g∈hs) (hm:h∈hs):a1h z R h ↔ a1h z hs h:=by
 constructor
 ·rintro ⟨pt,pg,ps,r⟩
  have lt:pt.length=kt:=r.lt.trans (hk h hm).1;have lg:pg.length=kg:=r.lg.trans (hk h hm).2;have P:Px z R kt kg pt pg ps:=⟨lt,lg,λ x hx=>aN (r.tp x hx),λ x hx=>aN (r.gp x hx),r.sign,r.fair⟩;exact ⟨pt,pg,ps,r.lt,r.lg,r.tp,r.gp,r.sign,(P.dom hz d hk λ g hg=>hk g (hR g hg)).fair,r.firm⟩
 ·rintro ⟨pt,pg,ps,r⟩
  exact ⟨pt,pg,ps,r.lt,r.lg,r.tp,r.gp,r.sign,λ g hg=>r.fair g (hR g hg),r.firm⟩
end
end Rim
namespace L2
open PySem
theorem a9m (K:W.Frag) {X:Cx} (h:X.K=K):SlR X (b3L K):=by subst h; exact G4
theorem a9W (xs:List V) (k:Nat) (h:k<=xs.length) (h1:1<=xs.length):A7 xs (some (k:Int)) (some (-1))=(xs.drop k).take (xs.length - 1 - k):=by
 have e:HT.sIx xs.length xs.length (some (-1))=xs.length - 1:=by
  show (if (-1:Int)<0 then ((-1:Int)+(xs.length:Int)).toNat else min (-1:Int).toNat xs.length)=_
  rw [if_pos (by decide)]; omega
 unfold A7;rw [e,HT.sIx_nat,fU h]
end L2
namespace Rim
open PySem L2 Fr
def C6 (D L x:Int):Int:=(low x D).1*(L / (low x D).2)
theorem Z0 {D L x:Int} (hD:0<D) (h:(low x D).2∣L):C6 D L x*D=x*L:=by
 unfold C6;obtain ⟨c,hc⟩:=h;have h0:(low x D).2≠0:=by have:=R1 (t:=x) hD; omega
 have e:L / (low x D).2=c:=by rw [hc]; exact jG c h0
 rw [e,Int.mul_right_comm,X2 hD,hc,aX]
theorem a2h {D L x:Int} {n:Nat} (hD:0<D) (hL:0<L) (hLD:L<=D) (h:(low x D).2∣L) (hx:Big n x):Big n (C6 D L x):=by
 have e:=Z0 (x:=x) hD h;have e1:(C6 D L x).natAbs*D.natAbs=x.natAbs*L.natAbs:=by rw [<- fR,<- fR,e]
 have e2:x.natAbs*L.natAbs<=x.natAbs*D.natAbs:=Nat.mul_le_mul_left _ (by omega);rw [<- e1] at e2;have e3:=Nat.le_of_mul_le_mul_right e2 (by omega);unfold Big at *;omega
theorem a6n {D L x:Int} (hD:0<D) (hL:0<L) (hx:0<=x):0<=C6 D L x:=cK (b2T hD hx) (Int.ediv_nonneg (aN hL) (aN (R1 hD)))
theorem a3y {D L:Int} (hD:0<D):∀ (ns xs:List Int),(∀ x∈xs,(low x D).2∣L)->(bB (·*·) ns (xs.map (C6 D L))).sum*D=(bB (·*·) ns xs).sum*L
 | [],_,_=>by simp
 | _::_,[],_=>by simp
 | a::ns,x::xs,h=>by
  rw [aQ,cN,cN,bC,bC,cD,cD,a3y hD ns xs λ y hy=>h y (bL _ hy),aX,Z0 hD (h x cJ),aX]
section
variable {P:Program} {w:World} {K:W.Frag} {mg:Str->Option Value} {base:Heap} {f:Addr} {fd:FuncData} {n:Nat}
theorem a3B {n:Nat} {fr:List Nat} {σ:St} {i j:Nat} {v u:V} (hi:i<n) (hj:j<n):Wk (blkσ n fr σ) (((blkσ n fr σ).set i (some v)).set j (some u)):=by
 refine ⟨by simp,λ k w e=>?_⟩;have:¬ k<n:=λ hk=>by
  unfold blkσ at e;rw [bF (by simpa using hk),dI] at e
  split at e <;> cases e
 rw [bS (by omega),bS (by omega)]; exact e
def a3L (K:W.Frag):Sp:=λ vs H Q _=>∃ (a:Addr) (ys:List V) (xs:List Int) (D:Int),vs=[.ref a]/\SqL K H a ys/\b4D K H ys xs D/\xs.length<=100/\(∀ x∈xs,Big 20000 x)/\0<D/\D<2 ^ 8000 ∧
 ∀ (r tl:Addr) (H':Hp) (L:Int),Same H H'->H' r=some (.tup [.ref tl,.int L])->H' tl=some (.lst ((xs.map (C6 D L)).map V.int))->0<L->L∣D->(∀ x∈xs,(low x D).2∣L)->Q (.ref r) H'
theorem scOver:r8 ["ones","shared","top","bottom"] ["ones"] (i9 J8):=⟨rfl,rfl,rfl,by decide +kernel,rfl,by decide +kernel,by decide +kernel⟩
theorem b0l:(["top","bottom","shared"]:List Str).Nodup:=by decide +kernel
theorem b1J {fa:Addr} {da:FuncData} (F:Fun K "over_one_bottom" "over_one_bottom" J8 f fd) (C:Cal P w K mg base n "common_divisor" ["one","other"] a9D fa da):FnOk P w K mg base J7 (n+1) f fd ["ones"] (a3L K):=by
 refine F.ok scOver (λ vs H Q E h=>?_) (λ cdv A outer s H vs Q E hr h=>?_)
 ·obtain ⟨a,ys,xs,D,rfl,_⟩:=h
  rfl
 obtain ⟨a,ys,xs,D,rfl,hS,hF,hl100,hbig,hD,hD8,q⟩:=h;refine ⟨_,j0 (p6 (i:=1) scOver.nd rfl (cI rfl) h8)
  (j0 (Y2 PassesOwn.never rfl (w8 (pv 0)) (O2 rfl (j7 (j3 (i:=2) scOver.nd rfl (aC rfl)) (j7 (j3 (i:=3) scOver.nd rfl (aC rfl)) x9)))
   (j8 (p6 (i:=1) scOver.nd rfl (cI rfl) (j5 N1 (j5 T5 (pv 1) (m6 C.ok hr rfl C.m C.k C.b .nil u0 (c5 (pv 1) (c5 (pv 3) c7)))) (pv 3)))))
  (j8 (v5 (O9 (c5 (M8 ["top","bottom"] [1] rfl (w8 (pv 0)) (λ _ _ _ _=>K8 K (n:=2) rfl rfl (j7 (j3 (i:=0) b0l rfl (aC rfl)) (j7 (j3 (i:=1) b0l rfl (aC rfl)) x9))) (λ _ _ _ _=>j5 N1 (pv 0) (j5 T5 (pv 2) (pv 1)))) (c5 (pv 1) c7)))))),?_⟩
 have xl:ys.length=xs.length:=hF.1;have b8:∀ {x:Int},0<x->x<=D->Big 1000000 x:=λ h1 h2=>(a1u (n:=8000) (aN h1) (eY h2 hD8)).mono (by decide);refine ⟨_,rfl,a,rfl,⟨_,hS⟩,?_⟩;refine a4m (xs:=ys) (λ i σ H'=>∃ (L:Int) (o2 o3:Option V),σ=[some (.ref a),some (.int L),o2,o3]/\H'=H/\0<L/\L∣D/\∀ j x,j<i->xs[j]?=some x->(low x D).2∣L)
  ⟨1,_,_,rfl,rfl,by decide,⟨D,(fH D).symm⟩,λ j x hj=>absurd hj (gW _)⟩ (λ i σ H' _ ⟨_,_,_,_,e,_⟩=>by rw [e]; exact hS) ?_ ?_
 ·rintro i y σ H' hy ⟨L,o2,o3,rfl,rfl,hL,hLD,hdv⟩
  have hil:i<xs.length:=by rw [<- xl]; exact (aY.mp hy).1
  have hxi:xs[i]?=some (xs.getD i 0):=by rw [aG,aD hil]; rfl
  obtain ⟨b,rfl,hb⟩:=hF.2 i y hy;generalize xs.getD i 0=x at *;have hq:=R1 (t:=x) hD;have hqd:=a6P (x:=x) hD;generalize hfe:low x D=fq at *;have hqD:=fG hD hqd;have hg:=S9 (a:=L) hq;have hgq:=b2m (a:=L) hq;obtain ⟨d1,d2⟩:=O3 hL hg (J3 L fq.2);have hLd:L / gI L fq.2<=L:=by
   have:=a2k d1 hg;rw [aR,d2] at this;exact this
  refine ⟨b,_,rfl,hb,rfl,_,_,rfl,_,_,rfl,rfl,?_⟩;refine ⟨_,rfl,_,rfl,_,rfl,L,fq.2,rfl,aN hq,_,_,rfl,rfl,⟨hg,eY hgq (eY hqD hD8)⟩,_,rfl,_,_,rfl,rfl,⟨b8 d1 (eX hLd (fG hD hLD)),b8 hq hqD⟩,?_⟩;refine ⟨_,_,_,rfl,rfl,dR d1 hq,a9L hL hq hLD hqd,λ j y hj hy'=>?_⟩
  by_cases hji:j<i
  ·have h1:=hdv j y hji hy'
   have e:L / gI L fq.2*fq.2=L*(fq.2 / gI L fq.2):=by
    obtain ⟨_,d4⟩:=O3 hq hg (A6 L fq.2)
    calc L / gI L fq.2*fq.2=L / gI L fq.2*(gI L fq.2*(fq.2 / gI L fq.2)):=by rw [d4]
     _=(gI L fq.2*(L / gI L fq.2))*(fq.2 / gI L fq.2):=by ac_rfl
     _=L*(fq.2 / gI L fq.2):=by rw [d2]
   show (low y D).2∣L / gI L fq.2*fq.2
   rw [e];exact jF h1
  ·have:j=i:=by omega
   subst this;rw [hxi] at hy'
   cases hy';rw [hfe];exact Int.dvd_mul_of_dvd_right (Int.dvd_refl _)
 ·rintro σ H' ⟨L,o2,o3,rfl,rfl,hL,hLD,hdv⟩
  have hdiv:∀ x∈xs,(low x D).2∣L:=λ y hy=>by
   obtain ⟨j,hj,rfl⟩:=gU hy;exact hdv j _ (by omega) (aD hj)
  have hLe:=fG hD hLD;refine ⟨_,rfl,a,rfl,⟨_,hS⟩,λ p hp=>?_⟩;refine D3 (t8 hS) hp (j4 (by omega)) (λ i y _=>∃ x,xs[i]?=some x/\y=.int (C6 D L x)) (λ _ _ _ _ r _=>r) (λ i y H2 zs N hy e hp' hN=>?_) (λ zs H2 e hp' len pr=>?_)
  ·have hil:i<xs.length:=by rw [<- xl]; exact (aY.mp hy).1
   have hxi:xs[i]?=some (xs.getD i 0):=by rw [aG,aD hil]; rfl
   obtain ⟨b,rfl,hb⟩:=hF.2 i y hy;have hbx:=hbig _ (aU hxi);have hdx:=hdiv _ (aU hxi);generalize xs.getD i 0=x at *;have hq:=R1 (t:=x) hD;have hqD:=a5H (t:=x) hD;obtain ⟨d1,d2⟩:=O3 hL hq hdx;have hLd:L / (low x D).2<=L:=by
    have:=a2k d1 hq;rw [aR,d2] at this;exact this
   refine ⟨b,_,rfl,e.tseq hb,rfl,_,_,rfl,_,_,rfl,rfl,a3B (by decide) (by decide),?_⟩;refine ⟨_,rfl,_,rfl,_,rfl,_,_,rfl,rfl,⟨hq,eY hqD hD8⟩,_,_,rfl,rfl,⟨(a3q hD hbx).mono (by decide),b8 d1 (eX hLd hLe)⟩,?_⟩;exact hN _ _ (Same.refl _) ⟨x,hxi,rfl⟩
  ·have ey:zs=(xs.map (C6 D L)).map V.int:=by
    refine cC λ i=>?_
    by_cases hi:i<zs.length
    ·obtain ⟨x,z1,z2⟩:=pr i _ (aD hi)
     rw [aD hi,z2,aE,aE,z1]; rfl
    ·rw [aW (by omega),aW (by rw [aA,aA]; omega)]
   rw [ey] at hp';refine ⟨_,rfl,(by show 2<=sizeLine; decide),λ r hr2=>?_⟩;have f2:=Same.new hr2 (.tup [V.ref p,V.int L]);exact q r p _ L (e.trans f2) upd_same (f2 _ _ hp') hL hLD hdiv
def Z5 (K:W.Frag):Sp:=λ vs H Q _=>∃ (b1 b2:Bool) (a t:Addr) (xs ys:List Int),vs=[.ref a,.ref t]/\SqB b1 K H a (xs.map V.int)/\SqB b2 K H t (ys.map V.int)/\xs.length<=1000/\(∀ x∈xs,Big 100000 x)/\(∀ y∈ys,Big 100000 y)/\∀ H',Same H H'->Q (.int (bB (·*·) xs ys).sum) H'
theorem b4g:r8 ["amounts","tops"] ["amounts","tops"] (i9 a3C):=⟨rfl,rfl,rfl,by decide +kernel,rfl,by decide +kernel,by decide +kernel⟩
theorem b1S:(["amount","top"]:List Str).Nodup:=by decide +kernel
theorem a9w (F:Fun K "come_to" "come_to" a3C f fd) (N:A3 mg):FnOk P w K mg base J7 (n+1) f fd ["amounts","tops"] (Z5 K):=by
 refine F.ok b4g (λ vs H Q E h=>?_) (λ cdv A outer s H vs Q E hr h=>?_)
 ·obtain ⟨b1,b2,a,t,xs,ys,rfl,_⟩:=h
  rfl
 obtain ⟨b1,b2,a,t,xs,ys,rfl,ha,ht,hl,hx,hy,k⟩:=h;refine ⟨_,j8 (v5 (m9 (a4E rfl) rfl N.sum iK (c5 (M8 ["amount","top"] [] rfl (a8O λ b1=>a8O λ b2=>a4Y b1 b2 K rfl rfl N.zip (c5 (pv 0) (c5 (pv 1) c7)))
  (λ _ _ _ _=>K8 K (n:=2) rfl rfl (j7 (j3 (i:=0) b1S rfl (aC rfl)) (j7 (j3 (i:=1) b1S rfl (aC rfl)) x9))) (λ _ _ _ _=>j5 N1 (pv 0) (pv 1))) c7))),?_⟩
 refine ⟨b1,b2,_,rfl,_,rfl,a,t,rfl,⟨_,ha⟩,⟨_,ht⟩,λ l hl'=>?_⟩;refine b2q ha ht hl' (by rw [aA]; exact j4 hl) (λ u v=>.int (vI u*vI v)) (λ i u v H' N' hu hv e hN=>?_) (λ H' e hH=>?_)
 ·obtain ⟨x,rfl,hxm⟩:=K9 hu
  obtain ⟨y,rfl,hym⟩:=K9 hv;exact ⟨_,rfl,_,rfl,_,_,rfl,rfl,⟨(hx _ hxm).mono (by decide),(hy _ hym).mono (by decide)⟩,hN⟩
 ·rw [a3p _ (·*·) (λ _ _=>rfl)] at hH
  exact ⟨l,_,rfl,.inl (SqL.of hH),k H' e⟩
structure b3m (pt pg:List Int) (ps D L:Int):Prop where
 l:0<L
 d:L∣D
 t:∀ x∈pt,(low x D).2∣L
 g:∀ x∈pg,(low x D).2∣L
 s:(low ps D).2∣L
def a2e (K:W.Frag):Sp:=λ vs H Q _=>∃ (ba t:Addr) (xs:List V) (hs:List i7) (pt pg:List Int) (ps D far:Int) (kt kg:Nat),vs=[.ref ba,.ref t]/\SqL K H ba xs/\Bk K H xs hs/\hs.length<=100/\(∀ h∈hs,HG far kt kg h)/\far<=2 ^ 60/\kt<=20/\kg<=20/\PrA H t pt pg ps D/\PrN pt pg ps D kt kg ∧
 ∀ (r pl gl:Addr) (L:Int) (H':Hp),Same H H'->b3m pt pg ps D L->H' r=some (.tup [.ref pl,.ref gl,.int (C6 D L ps),.int L])->H' pl=some (.lst ((hs.map λ h=>(bB (·*·) h.1 (pt.map (C6 D L))).sum).map V.int)) →
  H' gl=some (.lst ((hs.map λ h=>(bB (·*·) h.2 (pg.map (C6 D L))).sum).map V.int))->Q (.ref r) H'
theorem scWo':r8 ["book","prices","for_takes","for_gives","for_size","tops","bottom","many","paid","given"] ["book","prices"] (i9 P8):=⟨rfl,rfl,rfl,by decide +kernel,rfl,by decide +kernel,by decide +kernel⟩
theorem a6L:(["takes","gives","tops","many"]:List Str).Nodup:=by decide +kernel
noncomputable def b5p {cdv:Value} {A:Around} {outer:List Env} {s:Shared} {H:Hp} {E:XK} {fa fb:Addr} {da db:FuncData} (T:A3 mg) (Co:SCal P w K mg base n "over_one_bottom" ["ones"] (a3L K) fa da) (Cc:SCal P w K mg base n "come_to" ["amounts","tops"] (Z5 K) fb db)
  (hr:Room n (A.deeper (dU "worths" (i9 P8) s.heap.objs.size f cdv))) :
  { t:TS // PSs (J6 J7 P w K mg base ["book","prices","for_takes","for_gives","for_size","tops","bottom","many","paid","given"] "worths" (i9 P8) f cdv A outer s H E).nox (v4 P8) t } :=
 ⟨_,j0 (E4 (pv 1) (O2 rfl (j7 (j3 (i:=2) scWo'.nd rfl (aC rfl)) (j7 (j3 (i:=3) scWo'.nd rfl (aC rfl)) (j7 (j3 (i:=4) scWo'.nd rfl (aC rfl)) x9)))))
  (j0 (E4 (m6 Co.ok hr rfl Co.m Co.k Co.b .nil u0 (c5 (j5 C2 (j5 C2 (pv 2) (pv 3)) (u9 (c5 (pv 4) c7))) c7)) (O2 rfl (j7 (j3 (i:=5) scWo'.nd rfl (cI rfl)) (j7 (j3 (i:=6) scWo'.nd rfl (aC rfl)) x9))))
  (r6 (p6 (i:=7) scWo'.nd rfl (cI rfl) (m9 j9 rfl T.len bQ (c5 (pv 2) c7)))
  (r6 (P5 (i:=8) ["takes","gives"] [5,7] scWo'.nd rfl rfl rfl (w8 (pv 0)) (λ _ _ _ _=>K8 K (n:=2) rfl rfl (j7 (j3 (i:=0) a6L rfl (aC rfl)) (j7 (j3 (i:=1) a6L rfl (aC rfl)) x9)))
   (λ _ _ _ _=>m6 Cc.ok hr rfl Cc.m Cc.k Cc.b .nil u0 (c5 (pv 0) (c5 (C8 (a9m K rfl) (pv 2) O8 (B8 (pv 3))) c7))))
  (r6 (P5 (i:=9) ["takes","gives"] [5,7] scWo'.nd rfl rfl rfl (w8 (pv 0)) (λ _ _ _ _=>K8 K (n:=2) rfl rfl (j7 (j3 (i:=0) a6L rfl (aC rfl)) (j7 (j3 (i:=1) a6L rfl (aC rfl)) x9)))
   (λ _ _ _ _=>m6 Cc.ok hr rfl Cc.m Cc.k Cc.b .nil u0 (c5 (pv 1) (c5 (C8 (a9m K rfl) (pv 2) (B8 (pv 3)) (B8 (K2 D6 h8))) c7))))
  (j8 (v5 (O9 (c5 (pv 8) (c5 (pv 9) (c5 (m8 j6 (pv 5) (K2 D6 h8) (λ _ _=>rfl)) (c5 (pv 6) c7)))))))))))⟩
end
section
variable {P:Program} {w:World} {K:W.Frag} {mg:Str->Option Value} {base:Heap} {f:Addr} {fd:FuncData} {n:Nat}
theorem FrsAt.cat {H:Hp} {ys zs:List V} {xs ws:List Int} {D:Int} (a:FrsAt H ys xs D) (b:FrsAt H zs ws D):FrsAt H (ys++zs) (xs++ws) D:=by
 refine ⟨by simp [a.1,b.1],λ i y hy=>?_⟩;rw [C3]
 by_cases hi:i<ys.length
 ·rw [bF hi] at hy
  rw [if_pos (by rw [<- a.1]; exact hi)];exact a.2 i y hy
 ·rw [bU (by omega)] at hy
  rw [if_neg (by rw [<- a.1]; exact hi),<- a.1];exact b.2 _ y hy
theorem a8n {fa fb:Addr} {da db:FuncData} (F:Fun K "worths" "worths" P8 f fd) (T:A3 mg) (Co:SCal P w K mg base n "over_one_bottom" ["ones"] (a3L K) fa da) (Cc:SCal P w K mg base n "come_to" ["amounts","tops"] (Z5 K) fb db) :
  FnOk P w K mg base J7 (n+1) f fd ["book","prices"] (a2e K):=by
 refine F.ok scWo' (λ vs H Q E h=>?_) (λ cdv A outer s H vs Q E hr h=>?_)
 ·obtain ⟨ba,t,xs,hs,pt,pg,ps,D,far,kt,kg,rfl,_⟩:=h
  rfl
 obtain ⟨ba,t,xs,hs,pt,pg,ps,D,far,kt,kg,rfl,hS,hB,few,hG,hfar,hkt,hkg,⟨fa',ga',u,fts,gts,h1,h2,h3,h4,h5,h6⟩,hN,q⟩:=h;refine ⟨_,(b5p T Co Cc hr).2,?_⟩;have xl:xs.length=hs.length:=Paired.length hB;have s1k:=j4 (show (1000:Nat)<=1000 from aF _);have D8:D<2 ^ 8000:=lV hN.d2 (by exact_mod_cast iG (show 1<2 by decide) (show 4000<8000 by decide));have lft:fts.length=kt:=by rw [h3.1,hN.lt]
 have lgt:gts.length=kg:=by rw [h5.1,hN.lg]
 refine ⟨_,rfl,t,_,rfl,SqT.of h1,rfl,_,_,rfl,_,_,rfl,_,_,rfl,rfl,?_⟩;refine ⟨_,rfl,_,rfl,fa',ga',fts,gts,rfl,rfl,h2,h4,by omega,λ p1 k1=>?_⟩;have s1:=Same.new k1 (.lst (fts++gts));refine ⟨_,rfl,(by show 1<=sizeLine; decide),λ p2 k2=>?_⟩;have s2:=Same.new k2 (.lst [u]);refine ⟨p1,p2,_,_,rfl,rfl,s2 _ _ upd_same,upd_same,by simp; omega,λ p3 k3=>?_⟩;have s3:=Same.new k3 (.lst ((fts++gts)++[u]));have s123:=s1.trans (s2.trans s3);have hF:FrsAt H ((fts++gts)++[u]) ((pt++pg)++[ps]) D:=(h3.cat h5).snoc h6;refine ⟨p3,_,(pt++pg)++[ps],D,rfl,SqL.of upd_same,(hF.same s123).v,by simp [hN.lt,hN.lg]; omega,λ x hx=>?_,hN.d,D8,λ r tl H1 L e1 hr1 htl hL hLD hdiv=>?_⟩
 ·rcases aT.mp hx with hx | hx
  ·rcases aT.mp hx with hx | hx
   ·exact (hN.bt x hx).2.mono (by decide)
   ·exact (hN.bg x hx).2.mono (by decide)
  ·rw [bH.mp hx]; exact hN.bs.mono (by decide)
 have e01:=s123.trans e1;have OB:b3m pt pg ps D L:=⟨hL,hLD,λ x hx=>hdiv x (cQ _ (cQ _ hx)),λ x hx=>hdiv x (cQ _ (cF _ hx)),hdiv ps (cF _ (bH.mpr rfl))⟩;have hLe:=fG hN.d hLD;have etl:((((pt++pg)++[ps]).map (C6 D L)).map V.int)=((pt.map (C6 D L)).map V.int++(pg.map (C6 D L)).map V.int)++[V.int (C6 D L ps)]:=by simp
 rw [etl] at htl;refine ⟨r,_,rfl,SqT.of hr1,rfl,_,_,rfl,_,_,rfl,rfl,?_⟩;generalize hpt':(pt.map (C6 D L))=pt' at *;generalize hpg':(pg.map (C6 D L))=pg' at *;have lp':pt'.length=kt:=by rw [<- hpt',aA,hN.lt]
 have lg':pg'.length=kg:=by rw [<- hpg',aA,hN.lg]
 have bpt:∀ x∈pt',Big 100000 x:=λ x hx=>by
  rw [<- hpt'] at hx;obtain ⟨y,hy,rfl⟩:=aK.mp hx;exact (a2h hN.d hL hLe (OB.t y hy) (hN.bt y hy).2).mono (by decide)
 have bpg:∀ x∈pg',Big 100000 x:=λ x hx=>by
  rw [<- hpg'] at hx;obtain ⟨y,hy,rfl⟩:=aK.mp hx;exact (a2h hN.d hL hLe (OB.g y hy) (hN.bg y hy).2).mono (by decide)
 generalize hps':C6 D L ps=ps' at *;refine ⟨λ σ' H'=>σ'=[some (.ref ba),some (.ref t),some (.ref fa'),some (.ref ga'),some u,some (.ref tl),some (.int L),some (.int (kt:Int)),none,none]/\H1=H',?_,?_⟩
 ·refine ⟨_,rfl,fa',_,rfl,.inl (SqL.of (e01 _ _ h2)),?_⟩
  rw [lft];exact ⟨rfl,rfl⟩
 rintro _ _ ⟨rfl,rfl⟩;have hS1:=e01.seq hS;have hB1:=Bk.same e01 hB;have cT:∀ a:List V,A7 (((pt'.map V.int++pg'.map V.int)++[V.int ps'])) none (some (kt:Int))=pt'.map V.int:=λ _=>by
  rw [a3j _ kt (by simp; omega),dE,gA (by simp [lp'])]
 have cG:A7 (((pt'.map V.int++pg'.map V.int)++[V.int ps'])) (some (kt:Int)) (some (-1))=pg'.map V.int:=by
  rw [a9W _ kt (by simp; omega) (by simp; omega),dE,jP (by simp [lp'])];rw [gA (by simp; omega)]
 refine ⟨λ σ' H'=>∃ pl:Addr,σ'=[some (.ref ba),some (.ref t),some (.ref fa'),some (.ref ga'),some u,some (.ref tl),some (.int L),some (.int (kt:Int)),some (.ref pl),none]/\Same H1 H'/\H' pl=some (.lst ((hs.map λ h=>(bB (·*·) h.1 pt').sum).map V.int)),?_,?_⟩
 ·refine ⟨_,rfl,ba,rfl,⟨_,hS1⟩,λ p hp=>?_⟩
  refine D3 (t8 hS1) hp (j4 (by omega)) (λ i y _=>∃ h,hs[i]?=some h/\y=.int (bB (·*·) h.1 pt').sum) (λ _ _ _ _ r _=>r) (λ i y H2 zs N hy e hp' hNN=>?_) (λ zs H2 e hp' len pr=>?_)
  ·obtain ⟨h,hh,⟨a,ta,gb,rfl,q0,q1,q2⟩⟩:=Paired.at hB1 hy
   have gh:=hG h (aU hh);refine ⟨a,_,rfl,e.tseq q0,rfl,_,_,rfl,_,_,rfl,rfl,a3B (by decide) (by decide),?_⟩;refine ⟨_,rfl,_,rfl,_,rfl,_,rfl,tl,_,rfl,SqL.of (e _ _ htl),λ p4 k4=>?_⟩;rw [cT []];refine ⟨false,true,ta,p4,h.1,pt',rfl,((e.trans (Same.new k4 _)).tseq q1:SqT K _ _ _),SqL.of upd_same,by rw [gh.lt]; omega,λ x hx=>(a2i gh hfar 0 x hx).mono (by decide),bpt,λ H3 e3=>?_⟩;exact hNN _ _ ((Same.new k4 _).trans e3) ⟨h,hh,rfl⟩
  ·have ez:zs=(hs.map λ h=>(bB (·*·) h.1 pt').sum).map V.int:=by
    refine cC λ i=>?_
    by_cases hi:i<zs.length
    ·obtain ⟨x,z1,z2⟩:=pr i _ (aD hi)
     rw [aD hi,z2,aE,aE,z1]; rfl
    ·rw [aW (by omega),aW (by rw [aA,aA]; omega)]
   rw [ez] at hp';exact ⟨p,rfl,e,hp'⟩
 intro σ2 H2 hM_; refine C9 λ G_ hG_=>?_; obtain ⟨pl,rfl,e2,hpl⟩:=hM_; subst hG_;have hS2:=e2.seq hS1;have hB2:=Bk.same e2 hB1;have htl2:=e2 _ _ htl;refine ⟨λ σ' H'=>∃ gl:Addr,σ'=[some (.ref ba),some (.ref t),some (.ref fa'),some (.ref ga'),some u,some (.ref tl),some (.int L),some (.int (kt:Int)),some (.ref pl),some (.ref gl)]/\Same H2 H'/\H' gl=some (.lst ((hs.map λ h=>(bB (·*·) h.2 pg').sum).map V.int)),?_,?_⟩
 ·refine ⟨_,rfl,ba,rfl,⟨_,hS2⟩,λ p hp=>?_⟩
  refine D3 (t8 hS2) hp (j4 (by omega)) (λ i y _=>∃ h,hs[i]?=some h/\y=.int (bB (·*·) h.2 pg').sum) (λ _ _ _ _ r _=>r) (λ i y H3 zs N hy e hp' hNN=>?_) (λ zs H3 e hp' len pr=>?_)
  ·obtain ⟨h,hh,⟨a,ta,gb,rfl,q0,q1,q2⟩⟩:=Paired.at hB2 hy
   have gh:=hG h (aU hh);refine ⟨a,_,rfl,e.tseq q0,rfl,_,_,rfl,_,_,rfl,rfl,a3B (by decide) (by decide),?_⟩;refine ⟨_,rfl,_,rfl,_,rfl,_,rfl,_,rfl,_,rfl,tl,_,rfl,SqL.of (e _ _ htl2),λ p4 k4=>?_⟩;rw [cG];refine ⟨false,true,gb,p4,h.2,pg',rfl,((e.trans (Same.new k4 _)).tseq q2:SqT K _ _ _),SqL.of upd_same,by rw [gh.lg]; omega,λ x hx=>(a2i gh hfar 1 x hx).mono (by decide),bpg,λ H3 e3=>?_⟩;exact hNN _ _ ((Same.new k4 _).trans e3) ⟨h,hh,rfl⟩
  ·have ez:zs=(hs.map λ h=>(bB (·*·) h.2 pg').sum).map V.int:=by
    refine cC λ i=>?_
    by_cases hi:i<zs.length
    ·obtain ⟨x,z1,z2⟩:=pr i _ (aD hi)
     rw [aD hi,z2,aE,aE,z1]; rfl
    ·rw [aW (by omega),aW (by rw [aA,aA]; omega)]
   rw [ez] at hp';exact ⟨p,rfl,e,hp'⟩
 intro σ3 H3 hM_; refine C9 λ G_ hG_=>?_; obtain ⟨gl,rfl,e3,hgl⟩:=hM_; subst hG_;have htl3:=e3 _ _ htl2;refine ⟨_,rfl,_,rfl,_,rfl,_,rfl,tl,_,-1,_,rfl,rfl,SqL.of htl3,a0s _ _,_,rfl,(by show 4<=sizeLine; decide),λ r' hr'=>?_⟩;have s4:=Same.new hr' (.tup [V.ref pl,V.ref gl,V.int ps',V.int L]);subst hpt' hpg' hps';exact q r' pl gl L _ (e01.trans (e2.trans (e3.trans s4))) OB upd_same (s4 _ _ (e3 _ _ hpl)) (s4 _ _ hgl)
def jud (pt pg:List Int) (ps:Int) (h:i7):Option Q2:=if pay h pt=0 then none else some (low (earn h pg ps) (pay h pt))
def JV (H:Hp) (v:V):Option Q2->Prop
 | none=>v=.non
 | some x=>FrT H v x
theorem a0k {far:Int} {kt kg:Nat} {h:i7} {pt:List Int} (g:HG far kt kg h) (hp:∀ x∈pt,0<=x):0<=pay h pt:=by
 unfold pay;have:∀ (a b:List Int),(∀ x∈a,0<=x)->(∀ x∈b,0<=x)->0<=(bB (·*·) a b).sum:=by
  intro a
  induction a with
  | nil=>intro b _ _; simp
  | cons x a ih =>
   intro b h1 h2
   cases b with
   | nil=>simp
   | cons y b =>
    rw [cN,bC];exact Int.add_nonneg (cK (h1 x cJ) (h2 y cJ)) (ih b (λ z hz=>h1 z (bL _ hz)) λ z hz=>h2 z (bL _ hz))
 exact this _ _ (λ x hx=>by have:=(g.t x hx).1; omega) hp
theorem b1K {far:Int} {kt kg:Nat} {h:i7} {pt pg:List Int} {ps D L:Int} (g:HG far kt kg h) (hN:PrN pt pg ps D kt kg) (OB:b3m pt pg ps D L) :
  jud (pt.map (C6 D L)) (pg.map (C6 D L)) (C6 D L ps) h=jud pt pg ps h:=by
 have e1:pay h (pt.map (C6 D L))*D=pay h pt*L:=a3y hN.d _ _ OB.t;have e2:earn h (pg.map (C6 D L)) (C6 D L ps)*D=earn h pg ps*L:=by
  unfold earn;rw [cD,cD,a3y hN.d _ _ OB.g,Z0 hN.d OB.s]
 have n1:=a0k g λ x hx=>(hN.bt x hx).1;have n2:0<=pay h (pt.map (C6 D L)):=a0k g λ x hx=>by
  obtain ⟨y,hy,rfl⟩:=aK.mp hx;exact a6n hN.d OB.l (hN.bt y hy).1
 have hD:=hN.d;have hL:=OB.l;unfold jud;generalize pay h (pt.map (C6 D L))=p' at *;generalize pay h pt=p at *;generalize earn h (pg.map (C6 D L)) (C6 D L ps)=a' at *;generalize earn h pg ps=a at *
 by_cases hp:p=0
 ·have:p'=0:=by
   rw [hp,dY] at e1;rcases fW.mp e1 with z | z
   ·exact z
   ·omega
  rw [if_pos hp,if_pos this]
 ·have:p'≠0:=λ z=>by
   rw [z,dY] at e1;rcases fW.mp e1.symm with z | z
   ·exact hp z
   ·omega
  rw [if_neg hp,if_neg this]
  congr 1
  refine a8M (by omega) (by omega) ?_;have:D*L≠0:=Int.ne_of_gt (dR hD hL);refine gX this ?_
  calc a'*p*(D*L)=(a'*D)*(p*L):=by ac_rfl
   _=(a*L)*(p'*D):=by rw [e2,e1]
   _=a*p'*(D*L):=by ac_rfl
def a4G (K:W.Frag):Sp:=λ vs H Q _=>∃ (ba t:Addr) (xs:List V) (hs:List i7) (pt pg:List Int) (ps D far:Int) (kt kg:Nat),vs=[.ref ba,.ref t]/\SqL K H ba xs/\Bk K H xs hs/\hs.length<=100/\(∀ h∈hs,HG far kt kg h)/\far<=2 ^ 60/\kt<=20/\kg<=20/\PrA H t pt pg ps D/\PrN pt pg ps D kt kg ∧
 ∀ (l:Addr) (ys:List V) (H':Hp),Same H H'->H l=none->H' l=some (.lst ys)->bZ (JV H') ys (hs.map (jud pt pg ps))->Q (.ref l) H'
theorem scJu:r8 ["book","prices","paid","given","size","bottom"] ["book","prices"] (i9 Q1):=⟨rfl,rfl,rfl,by decide +kernel,rfl,by decide +kernel,by decide +kernel⟩
theorem b3X:(["pays","gives","size"]:List Str).Nodup:=by decide +kernel
noncomputable def b5R {cdv:Value} {A:Around} {outer:List Env} {s:Shared} {H:Hp} {E:XK} {fa fb:Addr} {da db:FuncData} (T:A3 mg) (Cw:SCal P w K mg base n "worths" ["book","prices"] (a2e K) fa da) (Cl:Cal P w K mg base n "lowest" ["top","bottom"] a0W fb db)
  (hr:Room n (A.deeper (dU "judged" (i9 Q1) s.heap.objs.size f cdv))) :
  { t:TS // PSs (J6 J7 P w K mg base ["book","prices","paid","given","size","bottom"] "judged" (i9 Q1) f cdv A outer s H E).nox (v4 Q1) t } :=
 ⟨_,j0 (E4 (m6 Cw.ok hr rfl Cw.m Cw.k Cw.b .nil u0 (c5 (pv 0) (c5 (pv 1) c7))) (O2 rfl (j7 (j3 (i:=2) scJu.nd rfl (aC rfl)) (j7 (j3 (i:=3) scJu.nd rfl (aC rfl)) (j7 (j3 (i:=4) scJu.nd rfl (cI rfl)) (j7 (j3 (i:=5) scJu.nd rfl (aC rfl)) x9))))))
  (j8 (v5 (M8 ["pays","gives"] [4] rfl (a4Y true true K rfl rfl T.zip (c5 (pv 2) (c5 (pv 3) c7))) (λ _ _ _ _=>K8 K (n:=2) rfl rfl (j7 (j3 (i:=0) b3X rfl (aC rfl)) (j7 (j3 (i:=1) b3X rfl (aC rfl)) x9)))
   (λ _ _ _ _=>a9K (r9 a1c (pv 0) h8 (t9 _)) R0 (m6 Cl.ok hr rfl Cl.m Cl.k Cl.b .nil u0 (c5 (j5 B9 (pv 1) (pv 2)) (c5 (pv 0) c7)))))))⟩
theorem a7J {fa fb:Addr} {da db:FuncData} (F:Fun K "judged" "judged" Q1 f fd) (T:A3 mg) (Cw:SCal P w K mg base n "worths" ["book","prices"] (a2e K) fa da) (Cl:Cal P w K mg base n "lowest" ["top","bottom"] a0W fb db) :
  FnOk P w K mg base J7 (n+1) f fd ["book","prices"] (a4G K):=by
 refine F.ok scJu (λ vs H Q E h=>?_) (λ cdv A outer s H vs Q E hr h=>?_)
 ·obtain ⟨ba,t,xs,hs,pt,pg,ps,D,far,kt,kg,rfl,_⟩:=h
  rfl
 obtain ⟨ba,t,xs,hs,pt,pg,ps,D,far,kt,kg,rfl,hS,hB,few,hG,hfar,hkt,hkg,hP,hN,q⟩:=h;refine ⟨_,(b5R T Cw Cl hr).2,?_⟩;refine ⟨_,rfl,_,rfl,ba,t,xs,hs,pt,pg,ps,D,far,kt,kg,rfl,hS,hB,few,hG,hfar,hkt,hkg,hP,hN,λ r pl gl L H1 e1 OB hr1 hpl hgl=>?_⟩;refine ⟨r,_,rfl,SqT.of hr1,rfl,_,_,rfl,_,_,rfl,_,_,rfl,_,_,rfl,rfl,?_⟩;refine ⟨_,rfl,_,rfl,pl,gl,rfl,⟨_,SqL.of hpl⟩,⟨_,SqL.of hgl⟩,λ p hp=>?_⟩;have hLe:=fG hN.d OB.d;have hpH:H p=none:=by
  cases e:H p with
  | none=>rfl
  | some o=>rw [e1 _ _ e] at hp; cases hp
 refine a3t (b1:=true) (b2:=true) (SqL.of hpl) (SqL.of hgl) hp (j4 (by simp; omega)) (λ i y H'=>∃ h,hs[i]?=some h/\JV H' y (jud pt pg ps h)/\y≠.ref p) (λ i y Ha Hb ⟨h,h1,h2,h3⟩ st=>?_) ?_ ?_
 ·refine ⟨h,h1,?_,h3⟩
  cases o:jud pt pg ps h with
  | none=>rw [o] at h2; exact h2
  | some x =>
   rw [o] at h2;obtain ⟨a,rfl,ha⟩:=h2;exact ⟨a,rfl,st a _ (λ z=>h3 (by rw [z])) ha⟩
 ·intro i x y H2 zs N hx hy e hp' hNN
  have hil:i<hs.length:=by
   have:=(aY.mp hx).1
   simpa using this
  obtain ⟨h,hh⟩:∃ h,hs[i]?=some h:=⟨_,aD hil⟩;have gh:=hG h (aU hh);rw [aE,aE,hh] at hx hy
  cases hx
  cases hy;have JT:=b1K (pt:=pt) (pg:=pg) (ps:=ps) gh hN OB;have ep:(bB (·*·) h.1 (pt.map (C6 D L))).sum=pay h (pt.map (C6 D L)):=rfl;have eg:(bB (·*·) h.2 (pg.map (C6 D L))).sum+C6 D L ps=earn h (pg.map (C6 D L)) (C6 D L ps):=rfl;have nn:0<=pay h (pt.map (C6 D L)):=a0k gh λ x hx=>by
   obtain ⟨y,hy,rfl⟩:=aK.mp hx;exact a6n hN.d OB.l (hN.bt y hy).1
  have bP:Big 7000 (pay h (pt.map (C6 D L))):=(a1t (a2a (a:=100) (b:=5001) (a2i gh hfar 0) (λ x hx=>by
   obtain ⟨y,hy,rfl⟩:=aK.mp hx;exact (a2h hN.d OB.l hLe (OB.t y hy) (hN.bt y hy).2).mono (by decide))) (by
    have:=gh.lt;have:(D4 0 h).length=kt:=this;rw [eK]; omega)).mono (by decide)
  refine ⟨_,rfl,rfl,_,rfl,G5 (λ c=>?_) (λ c=>?_)⟩
  ·have c':pay h (pt.map (C6 D L))=0:=by
    have:=of_decide_eq_true c;exact V.int.inj this
   refine hNN _ _ (Same.refl _) ⟨h,hh,?_,nofun⟩;rw [<- JT];unfold jud;rw [if_pos c'];exact rfl
  ·have c':pay h (pt.map (C6 D L))≠0:=λ z=>c (decide_eq_true (show V.int (pay h (pt.map (C6 D L)))=V.int 0 by rw [z]))
   refine ⟨_,rfl,_,rfl,_,_,rfl,rfl,_,rfl,_,_,rfl,?_,?_,λ v H3 e3 hv=>?_⟩
   ·show 0<pay h (pt.map (C6 D L)); omega
   ·show pay h (pt.map (C6 D L))<2 ^ 8000; exact lV (Rim.Big.lt bP) (by exact_mod_cast iG (show 1<2 by decide) (show 7000<8000 by decide))
   ·refine hNN _ _ e3 ⟨h,hh,?_,λ z=>?_⟩
    ·rw [<- JT]
     unfold jud;rw [if_neg c'];exact hv
    ·obtain ⟨a,ha1,ha2⟩:=hv
     rw [z] at ha1
     cases ha1;rw [e3 _ _ hp'] at ha2
     cases ha2
 ·intro zs H2 e hp' len pr
  refine q p zs H2 (e1.trans e) hpH hp' ?_;have len':zs.length=hs.length:=by rw [len]; simp
  clear len
  have:∀ (zs:List V) (gs:List i7),zs.length=gs.length->(∀ (i:Nat) (z:V),zs[i]?=some z->∃ h,gs[i]?=some h/\JV H2 z (jud pt pg ps h)/\z≠.ref p)->bZ (JV H2) zs (gs.map (jud pt pg ps)):=by
   intro zs
   induction zs with
   | nil=>intro gs hl _; cases gs with
    | nil=>exact .nil
    | cons _ _=>simp at hl
   | cons z zs ih =>
    intro gs hl hq
    cases gs with
    | nil=>simp at hl
    | cons g gs =>
     obtain ⟨h,h1,h2,_⟩:=hq 0 z rfl
     cases h1;exact .cons h2 (ih gs (by simpa using hl) λ i z hz=>hq (i+1) z hz)
  exact this zs hs len' pr
end
section
variable {P:Program} {w:World} {K:W.Frag} {mg:Str->Option Value} {base:Heap} {f:Addr} {fd:FuncData} {n:Nat}
def ltQ (x y:Q2):Bool:=decide (x.1*y.2<y.1*x.2)
structure b5L (l:List (Option Q2)) (o:Option Q2):Prop where
 n:o=none->∀ y,some y ∉ l
 m:∀ b,o=some b->some b∈l/\∀ y,some y∈l->ltQ b y=false
theorem a8Z {far:Int} {kt kg:Nat} {h:i7} {pt pg:List Int} {ps D:Int} (gh:HG far kt kg h) (hfar:far<=2 ^ 60) (hkt:kt<=20) (hkg:kg<=20) (hN:PrN pt pg ps D kt kg) {x:Q2} (e:jud pt pg ps h=some x):Big 1000000 x.1/\Big 1000000 x.2:=by
 unfold jud at e
 split at e
 ·cases e
 ·rename_i hne
  cases e;have n0:=a0k gh λ x hx=>(hN.bt x hx).1;have hp:0<pay h pt:=by omega
  have bP:Big 7000 (pay h pt):=(a1t (a2a (a:=100) (b:=5000) (a2i gh hfar 0) λ x hx=>(hN.bt x hx).2) (by
   have:(D4 0 h).length=kt:=gh.lt;rw [eK]; omega)).mono (by decide)
  have bG:Big 7000 (bB (·*·) h.2 pg).sum:=(a1t (a2a (a:=100) (b:=5000) (a2i gh hfar 1) λ x hx=>(hN.bg x hx).2) (by
   have:(D4 1 h).length=kg:=gh.lg;rw [eK]; omega)).mono (by decide)
  have bE:Big 7001 (earn h pg ps):=Big.add bG (hN.bs.mono (by decide));refine ⟨(a3q hp bE).mono (by decide),?_⟩;have:=a5H (t:=earn h pg ps) hp;exact (a1u (n:=7000) (aN (R1 hp)) (eY this (Rim.Big.lt bP))).mono (by decide)
end
section
variable {z:Str} {hs:List i7} {h:i7} {kt kg:Nat} {ws pt pg:List Int} {D ps:Int}
end
def dJ:Option Q2->PyData
 | none=>.none
 | some x=>dF x
theorem JV.dp {K:W.Frag} {H:Hp} {v:V} {o:Option Q2} (h:JV H v o):Dp K H v (dJ o):=by
 cases o with
 | none=>have h':v=.non:=h; subst h'; exact .non
 | some x=>exact FrV.dp (FrT.v h)
theorem b3T (o:Option Q2):(dJ o).canLay0=true:=by
 cases o with
 | none=>show PyData.none.canLay0=true; rw [PyData.canLay0]
 | some x=>exact a1f x
structure SumOf (m:i7) (L:List i7) (kt kg:Nat):Prop where
 lt:m.1.length=kt
 lg:m.2.length=kg
 ct:∀ i,i<kt->m.1.getD i 0=(L.map λ g=>g.1.getD i 0).sum
 cg:∀ i,i<kg->m.2.getD i 0=(L.map λ g=>g.2.getD i 0).sum
theorem a6Q {rows:List (List Int)} {k i:Nat} (h:i<k):(a1J rows k).getD i 0=(col rows i).sum:=by
 unfold a1J;rw [aG,aE,bI h]; rfl
theorem a5c (hs:List i7) (ns:List Int) (kt kg:Nat):SumOf (mgH hs ns kt kg) (P1 hs ns) kt kg:=by
 refine ⟨a1r _ _,a1r _ _,λ i hi=>?_,λ i hi=>?_⟩
 ·show (a1J _ kt).getD i 0=_
  rw [a6Q hi]; unfold col; rw [aS]; rfl
 ·show (a1J _ kg).getD i 0=_
  rw [a6Q hi]; unfold col; rw [aS]; rfl
theorem a7c {f:i7->List Int} {L:List i7} {l p:List Int} {k:Nat} (hl:l.length=k) (hp:p.length=k) (hL:∀ g∈L,(f g).length=k) (h:∀ i,i<k->l.getD i 0=(L.map λ g=>(f g).getD i 0).sum):t7 l p=(L.map λ g=>t7 (f g) p).sum:=by
 have e:=Z4 (f:=f) (k:=k) (hs:=L) (ws:=aI L.length 1) (p:=p) (by simp) hL hp;rw [U8 (by simp),dD] at e;rw [e]
 congr 1
 refine cC λ j=>?_
 by_cases hj:j<k
 ·rw [aE,bI hj,dW,U8 (by simp),dD,<- h j hj,aG,aD (by omega)]; rfl
 ·rw [aW (by omega),aW (by simp; omega)]
theorem O1 {f g:i7->Int}:∀ {L:List i7},(∀ x∈L,f x<=g x)->(L.map f).sum<=(L.map g).sum
 | [],_=>bO _
 | x::r,h=>by
  have:=O1 (L:=r) λ y hy=>h y (.tail _ hy);have:=h x (.head _);rw [aQ,bC,aQ,bC];omega
theorem a5Y {f g:i7->Int}:∀ {L:List i7},(∀ x∈L,f x<=g x)->(∃ x∈L,f x<g x)->(L.map f).sum<(L.map g).sum
 | [],_,⟨_,h,_⟩=>by cases h
 | x::r,h,⟨y,hy,p⟩=>by
  have a:=O1 (L:=r) λ y hy=>h y (.tail _ hy);have b:=h x (.head _);rw [aQ,bC,aQ,bC];rcases aL.mp hy with rfl | hy
  ·omega
  ·have:=a5Y (L:=r) (λ y hy=>h y (.tail _ hy)) ⟨y,hy,p⟩
   omega
theorem a0F (f:i7->Int) (c:Int):∀ L:List i7,(L.map λ x=>f x*c).sum=(L.map f).sum*c
 | []=>by simp
 | x::r=>by rw [aQ,bC,aQ,bC,a0F f c r,cD]
theorem Q4 (c:Int):∀ L:List i7,(L.map λ _=>c).sum=c*L.length
 | []=>by simp
 | x::r=>by
  rw [aQ,bC,Q4 c r,cV,Int.natCast_add,eU];simp; omega
theorem a3n {L:List i7} {e p:i7->Int} {A B:Int} (ne:L≠[]) (h:A*(L.map p).sum<=(L.map e).sum*B):∃ g∈L,A*p g<=e g*B:=by
 apply fJ;intro c;have lt:∀ g∈L,e g*B<p g*A:=λ g hg=>by
  rcases lW (e g*B) (p g*A) with q | q
  ·exact q
  ·exact absurd ⟨g,hg,by rw [aR]; exact q⟩ c
 obtain ⟨g,hg⟩:=jR L ne;have:=a5Y (f:=λ g=>e g*B) (g:=λ g=>p g*A) (λ g hg=>aN (lt g hg)) ⟨g,hg,lt g hg⟩;rw [a0F,a0F,aR _ A] at this;omega
section
variable {m h:i7} {L hs:List i7} {kt kg:Nat} {far A B:Int} {pt pg:List Int} {ps:Int}
theorem SumOf.pay (S:SumOf m L kt kg) (hL:∀ g∈L,HG far kt kg g) (hp:pt.length=kt):pay m pt=(L.map λ g=>pay g pt).sum :=
 a7c (f:=lT) S.lt hp (λ g hg=>(hL g hg).lt) S.ct
theorem SumOf.earn (S:SumOf m L kt kg) (hL:∀ g∈L,HG far kt kg g) (hp:pg.length=kg):earn m pg 0=(L.map λ g=>earn g pg 0).sum:=by
 have e:∀ g:i7,Rim.earn g pg 0=t7 g.2 pg:=λ g=>dH _;rw [e,cZ λ g _=>e g];exact a7c (f:=lU) S.lg hp (λ g hg=>(hL g hg).lg) S.cg
theorem a2F {l:List Int} {x:Int} (hx:x∈l):∃ i,i<l.length/\l.getD i 0=x:=by
 obtain ⟨i,hi,rfl⟩:=gU hx;exact ⟨i,hi,by rw [aG,aD hi]; rfl⟩
theorem a0j {l:List Int} {i:Nat} (h:i<l.length):l.getD i 0∈l:=by
 rw [aG,aD h]; exact cS h
theorem SumOf.good (S:SumOf m L kt kg) (hL:∀ g∈L,HG (10 ^ 7) kt kg g) (ne:L≠[]) (few:L.length<=100):HG (10 ^ 9) kt kg m:=by
 obtain ⟨g0,hg0⟩:=jR L ne;have l1:1<=L.length:=List.length_pos_of_mem hg0;have up:∀ (f:i7->Int),(∀ g∈L,f g<=10 ^ 7)->(L.map f).sum<=10 ^ 9:=λ f hf=>by
  have:=O1 (f:=f) (g:=λ _=>10 ^ 7) hf;rw [Q4] at this;have:(10:Int) ^ 7*L.length<=10 ^ 7*100:=eW (by omega) (by decide);omega
 refine ⟨S.lt,S.lg,λ x hx=>?_,λ x hx=>?_,?_⟩
 ·obtain ⟨i,hi,rfl⟩:=a2F hx
  rw [S.lt] at hi;rw [S.ct i hi];have at_:∀ g∈L,1<=g.1.getD i 0/\g.1.getD i 0<=10 ^ 7:=λ g hg=>(hL g hg).t _ (a0j (by rw [(hL g hg).lt]; exact hi));have:=O1 (f:=λ _=>1) (g:=λ g:i7=>g.1.getD i 0) λ g hg=>(at_ g hg).1;rw [Q4] at this;exact ⟨by omega,up _ λ g hg=>(at_ g hg).2⟩
 ·obtain ⟨i,hi,rfl⟩:=a2F hx
  rw [S.lg] at hi;rw [S.cg i hi];have at_:∀ g∈L,0<=g.2.getD i 0/\g.2.getD i 0<=10 ^ 7:=λ g hg=>(hL g hg).g _ (a0j (by rw [(hL g hg).lg]; exact hi));have:=O1 (f:=λ _=>0) (g:=λ g:i7=>g.2.getD i 0) λ g hg=>(at_ g hg).1;rw [Q4] at this;exact ⟨by omega,up _ λ g hg=>(at_ g hg).2⟩
 ·obtain ⟨x,hx,px⟩:=(hL g0 hg0).p
  obtain ⟨i,hi,rfl⟩:=a2F hx;rw [(hL g0 hg0).lg] at hi;refine ⟨m.2.getD i 0,a0j (by rw [S.lg]; exact hi),?_⟩;rw [S.cg i hi];have:=a5Y (f:=λ _=>0) (g:=λ g:i7=>g.2.getD i 0) (λ g hg=>((hL g hg).g _ (a0j (by rw [(hL g hg).lg]; exact hi))).1) ⟨g0,hg0,px⟩;rw [Q4] at this;omega
theorem HG.up {a b:Int} (g:HG a kt kg h) (hab:a<=b):HG b kt kg h:=⟨g.lt,g.lg,λ x hx=>⟨(g.t x hx).1,eX (g.t x hx).2 hab⟩,λ x hx=>⟨(g.g x hx).1,eX (g.g x hx).2 hab⟩,g.p⟩
theorem a5d (s D:Int):a1T "any" s D:=⟨λ q=>absurd q (by decide),λ q=>absurd q (by decide)⟩
theorem a2E (s:a0K "any" ps):ps=0:=by
 have:=s.1 (.inl rfl);have:=s.2 (.inl rfl);omega
theorem szA:Szw "any":=.inl rfl
theorem SumOf.dom (S:SumOf m L kt kg) (hL:∀ g∈L,g∈hs):Dom "any" (hs++[m]) hs kt kg:=λ ws D M=>by
 have lw:ws.length=hs.length+1:=by rw [M.lw,aJ]; rfl
 obtain ⟨us,a,rfl⟩:∃ us a,ws=us++[a]:=⟨ws.dropLast,ws.getLast (by intro z; rw [z] at lw; simp at lw),(iI _).symm⟩;have lu:us.length=hs.length:=by simpa using lw
 have a0:0<=a:=M.nn a (by simp);obtain ⟨ws',l',n',f'⟩:=a3N (hs':=hs) (hs:=hs++L) (ws:=us++aI L.length a) (by simp [lu]) (λ x hx=>by
  rcases aT.mp hx with q | q
  ·exact M.nn x (cQ _ q)
  ·rw [(iF.mp q).2]; exact a0) λ g hg=>(aT.mp hg).elim id (hL g)
 have e1:∀ f:i7->Int,t7 (hs.map f) ws'=t7 (hs.map f) us+(L.map f).sum*a:=λ f=>by
  rw [f',bN,Z8,aA,<- lu,jS,lX,U8 (by simp)]
 have e2:∀ f:i7->Int,t7 ((hs++[m]).map f) (us++[a])=t7 (hs.map f) us+f m*a:=λ f=>by
  rw [bN,Z8,aA,<- lu,jS,lX];simp [t7]
 refine ⟨ws',1,by decide,⟨l',n',by rw [dD]; exact M.d,a5d _ _⟩,λ j hj=>?_,λ j hj=>?_⟩
 ·rw [N3,N3,e1,e2,dD,show (D4 0 m).getD j 0=_ from S.ct j hj]
  exact bO _
 ·rw [N3,N3,e1,e2,dD,show (D4 1 m).getD j 0=_ from S.cg j hj]
  exact bO _
theorem b1x (gh:HG far kt kg h) (kt1:1<=kt) (hl:pt.length=kt) (hp:∀ x∈pt,0<=x) {g:i7} (hg:g.1.length=kt) (pp:0<pay g pt):0<pay h pt:=by
 rcases lW 0 (pay h pt) with q | q
 ·exact q
 ·have:=a1j g.1 (l:=h.1) (p:=pt) (by rw [gh.lt,hl]) (λ x hx=>(gh.t x hx).1) hp q
  have e:pay g pt=t7 g.1 pt:=rfl;omega
theorem SumOf.share (S:SumOf m L kt kg) (hL:∀ g∈L,HG far kt kg g) (hs':∀ g∈L,g∈hs) (hk:∀ g∈hs,g.1.length=kt/\g.2.length=kg) (ne:L≠[]) (kt1:1<=kt) (I:IsShare "any" (hs++[m]) m kt kg A B):∃ g∈L,∀ A' B',IsShare "any" hs g kt kg A' B'->A*B'<=A'*B:=by
 obtain ⟨b,_,pt,pg,ps,P,pp,e⟩:=I;have p0:=a2E P.sign;subst p0;rw [S.pay hL P.lt,S.earn hL P.lg] at e;obtain ⟨g,hg,q⟩:=a3n ne (Int.le_of_eq e.symm);refine ⟨g,hg,λ A' B' J=>?_⟩;have pos:=b1x (hL g hg) kt1 P.lt P.tn S.lt pp;obtain ⟨b',⟨ws,D,T⟩,_⟩:=J;have w:=T.weak szA (P.sub λ g hg=>cQ _ hg) hk (hL g hg).lt (hL g hg).lg b';refine hW (a:=Rim.pay g pt) ?_ pos;have c1:=dA q (aN b');have c2:=dA w (aN b);have r1:A*B'*Rim.pay g pt=A*Rim.pay g pt*B':=by ac_rfl
 have r2:A'*B*Rim.pay g pt=A'*Rim.pay g pt*B:=by ac_rfl
 have r3:Rim.earn g pg 0*B*B'=Rim.earn g pg 0*B'*B:=by ac_rfl
 rw [r1,r2];omega
theorem SumOf.twice (S:SumOf m [h,h] kt kg) (gh:HG far kt kg h) (I:IsShare "any" hs m kt kg A B):IsShare "any" hs h kt kg A B:=by
 have hL:∀ g∈[h,h],HG far kt kg g:=λ g hg=>by
  rcases aL.mp hg with rfl | hg
  ·exact gh
  ·rw [bH.mp hg]; exact gh
 obtain ⟨b,⟨ws,D,T⟩,pt,pg,ps,P,pp,e⟩:=I;have p0:=a2E P.sign;subst p0;rw [S.pay hL P.lt,S.earn hL P.lg] at e;rw [S.pay hL P.lt] at pp;simp only [aQ,eI,bC,jT,dH] at e pp;refine ⟨b,⟨ws,D*2,⟨⟨T.m.lw,T.m.nn,by have:=T.m.d; omega,a5d _ _⟩,λ j hj=>?_,λ j hj=>?_⟩⟩,pt,pg,0,P,by omega,?_⟩
 ·have:=T.t j hj
  rw [S.ct j hj] at this;simp only [aQ,eI,bC,jT,dH] at this;have r:(h.1.getD j 0+h.1.getD j 0)*A*D=h.1.getD j 0*A*(D*2):=by
   rw [cD,cD,<- aX]; omega
  omega
 ·have:=T.g j hj
  rw [S.cg j hj] at this;simp only [aQ,eI,bC,jT,dH] at this;have r:(h.2.getD j 0+h.2.getD j 0)*D=h.2.getD j 0*(D*2):=by
   rw [cD,<- aX]; omega
  omega
 ·rw [cD,eU] at e
  omega
theorem SumOf.rim (S:SumOf m L kt kg) (hL:∀ g∈L,g∈hs) (hk:∀ g∈hs,g.1.length=kt/\g.2.length=kg):(a3V "any" (hs++[m])).filter (λ k=>decide (k<hs.length))=a3V "any" hs:=by
 have hk':∀ g∈hs++[m],g.1.length=kt/\g.2.length=kg:=λ g hg=>by
  rcases aT.mp hg with q | q
  ·exact hk g q
  ·rw [bH.mp q]; exact ⟨S.lt,S.lg⟩
 unfold a3V;rw [aJ,cY,fK,fT,fT,lY,lY];rw [List.filter_cons_of_neg (a:=hs.length) (by simp),List.filter_nil,iS];refine List.filter_congr λ i hi=>?_;have hil:=dZ.mp hi;rw [decide_eq_true hil,Bool.true_and,show (hs++[m]).getD i ([],[])=hs.getD i ([],[]) by rw [aG,aG,bF hil]];have hm:hs.getD i ([],[])∈hs:=by rw [aG,aD hil]; exact cS hil
 exact decide_eq_decide.mpr (b1c szA (S.dom hL) hk' (λ g hg=>cQ _ hg) (cQ _ hm)).symm
theorem SumOf.betw (S:SumOf m L kt kg) (hL:∀ g∈L,HG far kt kg g) (ne:L≠[]) (gm:HG (10 ^ 9) kt kg m) (l1:pt.length=kt) (l2:pg.length=kg) (hp:∀ x∈pt,0<=x) {q:Q2} (hq:jud pt pg 0 m=some q) (some_:∀ g∈L,∃ x,jud pt pg 0 g=some x) :
  (∃ g∈L,∃ x:Q2,jud pt pg 0 g=some x/\¬ q.1*x.2<x.1*q.2)/\∃ g∈L,∃ x:Q2,jud pt pg 0 g=some x/\¬ x.1*q.2<q.1*x.2:=by
 have val:∀ {g:i7} {f:Int} {x:Q2},HG f kt kg g->jud pt pg 0 g=some x->0<Rim.pay g pt/\x=low (Rim.earn g pg 0) (Rim.pay g pt):=λ {g f x} gg e=>by
  have nn:=a0k gg hp;unfold jud at e
  split at e
  ·cases e
  ·cases e; exact ⟨by omega,rfl⟩
 obtain ⟨pm,rfl⟩:=val gm hq;have e1:=S.pay hL l1;have e2:=S.earn hL l2;obtain ⟨g1,h1,c1⟩:=a3n (e:=λ g=>Rim.pay g pt) (p:=λ g=>Rim.earn g pg 0) (A:=Rim.pay m pt) (B:=Rim.earn m pg 0) ne (by rw [<- e1,<- e2]; exact bO _);obtain ⟨g2,h2,c2⟩:=a3n (e:=λ g=>Rim.earn g pg 0) (p:=λ g=>Rim.pay g pt) (A:=Rim.earn m pg 0) (B:=Rim.pay m pt) ne (by rw [<- e1,<- e2]; exact bO _);obtain ⟨x1,j1⟩:=some_ g1 h1;obtain ⟨x2,j2⟩:=some_ g2 h2;obtain ⟨p1,rfl⟩:=val (hL g1 h1) j1;obtain ⟨p2,rfl⟩:=val (hL g2 h2) j2;refine ⟨⟨g1,h1,_,j1,λ c=>?_⟩,⟨g2,h2,_,j2,λ c=>?_⟩⟩
 ·have:=(a1N pm p1).mp c
  rw [aR (Rim.pay m pt),aR (Rim.pay g1 pt)] at c1;omega
 ·have:=(a1N p2 pm).mp c
  omega
end
end Rim
namespace L2
open PySem PySem.Spec PyProof.Rows
section
variable {X:Cx}
end
end L2
namespace L2
open PySem
theorem LamTab.ne {P:Addr} {pos:Pos} {qual:Str} {H:Hp} {b:Addr} {o:HO} (T:LamTab P pos qual H) (h:H b=some o) (n:∀ ps,o≠.tbl ps):b≠P:=λ z=>by
 subst z;rcases T with t | ⟨c,t,_⟩
 ·rw [h] at t; exact n _ (aM t)
 ·rw [h] at t; exact n _ (aM t)
section
variable {fr:List Nat} {te:TE} {σ:St} {H1:Hp} {p:Addr} {D:Hp->Prop} {P:Addr} {pos:Pos} {qual:Str} {n:Nat}
theorem b0O (T:LamTab P pos qual H1) (hp:H1 p=none) (hz:n<sizeLine) (R:Nat->V->Hp->Prop)
  (hR:∀ i y H H',LamTab P pos qual H->(∃ zs,H p=some (.lst zs))->R i y H->(∀ b o,b≠p->b≠P->H b=some o->H' b=some o)->R i y H')
  (step:∀ (i:Nat) H ys (N:VK),i<n->Same1 P H1 H->LamTab P pos qual H->H p=some (.lst ys)->(∀ v H3,Same1 P H H3->LamTab P pos qual H3->R i v H3->N v H3)->te ((blkσ 1 fr σ).set 0 (some (.int (i:Int)))) H N)
  (hd:∀ ys H,Same1 P H1 H->LamTab P pos qual H->H p=some (.lst ys)->ys.length=n->(∀ i y,ys[i]?=some y->R i y H)->D H):lcW 1 fr (K5 0) te σ (Itr 0 n) H1 p D:=by
 refine ⟨λ i m ys H=>m=n - i/\i<=n/\Same1 P H1 H/\LamTab P pos qual H/\H p=some (.lst ys)/\ys.length=i/\∀ j y,ys[j]?=some y->R j y H,⟨n,by simp,bW _,(Same.new hp _).to1,T.same (Same.new hp _),upd_same,rfl,λ j y e=>by simp at e⟩,?_⟩;rintro i m ys H ⟨rfl,hi,e,L,hH,len,pr⟩
 by_cases hlt:i<n
 ·refine .inr ⟨hlt,λ x H' y=>?_⟩
  obtain ⟨rfl,rfl⟩:=y;rw [fX];refine ⟨Wk.set (by decide),step i _ _ _ hlt e L hH λ v H3 e3 L3 r3=>?_⟩;have h3:=e3.get L hH nofun;refine ⟨h3,by omega,n - (i+1),by omega,rfl,hlt,(e.trans e3).write hp,L3.write h3,upd_same,by rw [aJ,len]; rfl,λ j y ey=>?_⟩;have up:∀ b o,b≠p->b≠P->H3 b=some o->upd H3 p (.lst (ys++[v])) b=some o:=λ b o hb _ q=>by rw [d0 hb]; exact q
  by_cases hj:j<ys.length
  ·rw [bF hj] at ey
   exact hR j y _ _ L ⟨_,hH⟩ (pr j y ey) λ b o hb hP q=>up b o hb hP (e3 _ _ hP q)
  ·rw [bU (by omega)] at ey
   have hj':j - ys.length=0:=by
    cases q:j - ys.length with
    | zero=>rfl
    | succ k=>rw [q] at ey; simp at ey
   rw [hj'] at ey;have:j=i:=by omega
   subst this;simp at ey;subst ey;exact hR j v _ _ L3 ⟨_,h3⟩ r3 up
 ·have:i=n:=by omega
  subst this;exact .inl ⟨Nat.le_refl _,hd ys H e L hH len pr⟩
end
end L2
namespace Rim
open PySem L2 Fr
section
variable {P:Program} {w:World} {K:W.Frag} {mg:Str->Option Value} {base:Heap} {f Pt CN:Addr} {fd:FuncData} {n:Nat}
end
section
variable {z:Str} {hs:List i7} {h:i7} {kt kg:Nat} {ws:List Int} {v:Int}
end
section
variable {z:Str} {hs:List i7} {h:i7} {S:Lp.Bo} {kt kg i:Nat} {far:Int}
end
section
variable {P:Program} {w:World} {K:W.Frag} {mg:Str->Option Value} {base:Heap} {f:Addr} {fd:FuncData} {n:Nat}
end
end Rim
namespace L2
open PySem PySem.Spec PyProof.Rows
section
variable {X:Cx}
def b0Q (K:W.Frag):R2:=λ x y H Q=>∃ (p:Addr) (xs:List V) (ds:List PyData) (d:PyData),y=.ref p/\SqL K H p xs/\Dps K H xs ds/\Dp K H x d/\PyData.canLayAll0 ds=true/\d.canLay0=true/\d.depth<=50/\Q (.bl (!ds.any λ e=>PyData.eqv e d)) H
theorem a7I {k:Nat} (hr:Room k X.A):X7 X (compareOp .NotIn) (b0Q X.K):=by
 intro pins s σ H x y v u Q I rx ry h;obtain ⟨p,xs,ds,d,rfl,hq,hD,hd,c1,c2,dp,q⟩:=h
 cases ry;obtain ⟨its,r,pl,hz⟩:=I.list hq;obtain ⟨as,rs⟩:=hD.reads I r;obtain ⟨bs,rx'⟩:=hd.reads I rx;refine SeqAt.notIn_listAt (λ w=>PyData.eqv (SeqAt.readOf s.heap w) d) pl.isList (SeqAt.items_eqAt (xs:=ds) (as:=as) (by simpa using rs) rx' c1 c2 (by have:=hr.units; omega)) ⟨.bl _,H,I,rfl,?_⟩;have e1:its.toArray.any (λ v=>PyData.eqv (SeqAt.readOf s.heap v) d)=ds.any λ e=>PyData.eqv e d:=by
  rw [<- SeqAt.readsAll_map ds its as c1 rs,List.any_map,List.any_toArray]; rfl
 rw [e1]; exact q
end
end L2
namespace Rim
open PySem L2 Fr
section
variable {P:Program} {w:World} {K:W.Frag} {mg:Str->Option Value} {base:Heap} {f:Addr} {fd:FuncData} {n:Nat}
theorem b3h:r8 ["one","other"] ["one","other"] (i9 U4):=⟨rfl,rfl,rfl,by decide +kernel,rfl,by decide +kernel,by decide +kernel⟩
theorem a7u (F:Fun K "_law_less" "_law_less" U4 f fd):FnOk P w K mg base J7 (n+1) f fd ["one","other"] (a3K K):=by
 refine F.ok b3h (λ vs H Q E h=>?_) (λ cdv A outer s H vs Q E hr h=>?_)
 ·obtain ⟨u,v,x,y,rfl,_⟩:=h
  rfl
 obtain ⟨u,v,x,y,rfl,⟨a,rfl,ha⟩,⟨b,rfl,hb⟩,⟨b1,b2,b3,b4⟩,q⟩:=h;refine ⟨_,j8 (v5 (R5 Z6 (j5 N1 (m8 a0v (pv 0) h8 (λ _ _=>rfl)) (m8 a0v (pv 1) h8 (λ _ _=>rfl))) (j5 N1 (m8 a0v (pv 1) h8 (λ _ _=>rfl)) (m8 a0v (pv 0) h8 (λ _ _=>rfl))) (t9 _))),?_⟩;refine ⟨_,rfl,a,_,0,_,rfl,rfl,ha,a9u _ _,_,rfl,b,_,1,_,rfl,rfl,hb,a9C _ _,_,_,rfl,rfl,⟨b1,b4⟩,?_⟩;exact ⟨_,rfl,b,_,0,_,rfl,rfl,hb,a9u _ _,_,rfl,a,_,1,_,rfl,rfl,ha,a9C _ _,_,_,rfl,rfl,⟨b3,b2⟩,_,_,rfl,rfl,q⟩
def a8S (x:Q2):Prop:=Big 1000000 x.1/\Big 1000000 x.2
def ltF (x y:Q2):Prop:=x.1*y.2<y.1*x.2
def a9U (K:W.Frag):Sp:=λ vs H Q _=>∃ (fl nl:Addr) (ys:List V) (qs:List Q2) (ns:List Nat) (lv:V) (q:Q2),vs=[.ref fl,.ref nl,lv]/\H fl=some (.lst ys)/\bZ (FrT H) ys qs/\H nl=some (.lst (ns.map λ (k:Nat)=>V.int (k:Int)))/\ns.length<=100/\FrT H lv q/\a8S q/\(∀ x∈qs,a8S x)/\(∀ k∈ns,k<qs.length) ∧
 (∃ k∈ns,∃ x,qs[k]?=some x/\¬ ltF q x)/\(∃ k∈ns,∃ x,qs[k]?=some x/\¬ ltF x q)/\∀ H',Same H H'->Q (.bl true) H'
theorem scBw:r8 ["found","numbers","last","some","low","high"] ["found","numbers","last"] (i9 A8):=⟨rfl,rfl,rfl,by decide +kernel,rfl,by decide +kernel,by decide +kernel⟩
theorem b3U:(["k","found"]:List Str).Nodup:=by decide +kernel
theorem b1U:(["one","last"]:List Str).Nodup:=by decide +kernel
noncomputable def bwT {cdv:Value} {A:Around} {outer:List Env} {s:Shared} {H:Hp} {E:XK} {f1:Addr} {d1:FuncData} (Cl:Cal P w K mg base n "_law_less" ["one","other"] (a3K K) f1 d1)
  (hr:Room n (A.deeper (dU "_law_a_between" (i9 A8) s.heap.objs.size f cdv))) :
  { t:TS // PSs (J6 J7 P w K mg base ["found","numbers","last","some","low","high"] "_law_a_between" (i9 A8) f cdv A outer s H E).nox (v4 A8) t } :=
 ⟨_,r6 (P5 (i:=3) ["k"] [0] scBw.nd rfl rfl rfl (w8 (pv 1)) (λ _ _ _ _=>j3 (i:=0) b3U rfl (aC rfl)) (λ _ _ _ _=>m8 (a0R K rfl) (pv 1) (pv 0) (λ _ _=>rfl)))
  (r6 (a6m (i:=4) ["one"] [2] scBw.nd rfl rfl rfl (w8 (pv 3)) (λ _ _ _ _=>j3 (i:=0) b1U rfl (aC rfl)) (λ _ _ _ _=>a1Z (a2l (m6 Cl.ok hr rfl Cl.m Cl.k Cl.b .nil u0 (c5 (pv 1) (c5 (pv 0) c7))))) (λ _ _ _ _=>pv 0))
  (r6 (a6m (i:=5) ["one"] [2] scBw.nd rfl rfl rfl (w8 (pv 3)) (λ _ _ _ _=>j3 (i:=0) b1U rfl (aC rfl)) (λ _ _ _ _=>a1Z (a2l (m6 Cl.ok hr rfl Cl.m Cl.k Cl.b .nil u0 (c5 (pv 0) (c5 (pv 1) c7))))) (λ _ _ _ _=>pv 0))
  (j8 (v5 (b2O (R5 (Y8 hr) (pv 4) (u9 c7) (t9 _)) (b3c (R5 (Y8 hr) (pv 5) (u9 c7) (t9 _))))))))⟩
theorem a8Q {H:Hp}:∀ {ys:List V},(∀ y∈ys,∃ q,FrT H y q)->∃ qs,bZ (FrT H) ys qs
 | [],_=>⟨[],.nil⟩
 | y::r,h=>by
  obtain ⟨q,hq⟩:=h y (.head _);obtain ⟨qs,hqs⟩:=a8Q (ys:=r) λ x hx=>h x (.tail _ hx);exact ⟨q::qs,.cons hq hqs⟩
theorem a1B {H:Hp}:∀ {ys:List V} {qs:List Q2},bZ (FrT H) ys qs->Dps K H ys (qs.map dF)
 | _,_,.nil=>.nil
 | _,_,.cons x r=>.cons (FrV.dp x.v) (a1B r)
theorem b1C (qs:List Q2):PyData.canLayAll0 (qs.map dF)=true:=by
 induction qs with
 | nil=>rw [eI,PyData.canLayAll0]
 | cons x l ih=>rw [aQ,PyData.canLayAll0,a1f,ih]; rfl
theorem b1h (qs:List Q2):PyData.depthAll (qs.map dF)<=20:=by
 induction qs with
 | nil=>simp [PyData.depthAll]
 | cons x l ih =>
  rw [aQ,PyData.depthAll];refine lZ.mpr ⟨?_,ih⟩;unfold dF; simp [PyData.depth,PyData.depthAll]
abbrev dQs (qs:List Q2):PyData:=.list (qs.map dF)
theorem a3M (qs:List Q2):(dQs qs).canLay0=true:=by rw [PyData.canLay0]; exact b1C qs
theorem a8L (qs:List Q2):(dQs qs).depth<=60:=by
 have:=b1h qs;rw [PyData.depth]; omega
theorem a9R {qs:List Q2} (h:qs≠[]):PyData.eqv (dQs qs) (.list [])=false:=by
 cases qs with
 | nil=>exact absurd rfl h
 | cons x r=>simp [PyData.eqv,PyData.eqvAll]
theorem a0C {α β:Type} {R:α->β->Prop}:∀ {xs:List α} {ys:List β},xs.length=ys.length->(∀ (i:Nat) x,xs[i]?=some x->∃ y,ys[i]?=some y/\R x y)->bZ R xs ys
 | [],[],_,_=>.nil
 | [],_::_,h,_=>by simp at h
 | _::_,[],h,_=>by simp at h
 | x::xs,y::ys,hl,h=>by
  obtain ⟨y',e,r⟩:=h 0 x rfl
  cases e;exact .cons r (a0C (by simpa using hl) λ i z hz=>h (i+1) z (by simpa using hz))
instance (x y:Q2):Decidable (ltF x y):=by unfold ltF; infer_instance
theorem b0R {f1:Addr} {d1:FuncData} (F:Fun K "_law_a_between" "_law_a_between" A8 f fd) (Cl:Cal P w K mg base n "_law_less" ["one","other"] (a3K K) f1 d1):FnOk P w K mg base J7 (n+1) f fd ["found","numbers","last"] (a9U K):=by
 refine F.ok scBw (λ vs H Q E h=>?_) (λ cdv A outer s H vs Q E hr h=>?_)
 ·obtain ⟨fl,nl,ys,qs,ns,lv,q,rfl,_⟩:=h
  rfl
 obtain ⟨fl,nl,ys,qs,ns,lv,q,rfl,hfl,hys,hnl,n100,hlv,bq,bqs,hk,⟨k1,m1,x1,e1,c1⟩,⟨k2,m2,x2,e2,c2⟩,qq⟩:=h;refine ⟨_,(bwT Cl hr).2,?_⟩;have yl:ys.length=qs.length:=Paired.length hys;have itn:∀ {i:Nat} {x:V},(ns.map λ (k:Nat)=>V.int (k:Int))[i]?=some x->∃ k:Nat,ns[i]?=some k/\x=.int (k:Int):=λ {i x} h=>by
  rw [aE] at h
  cases e:ns[i]? with
  | none=>rw [e] at h; cases h
  | some k=>rw [e] at h; cases h; exact ⟨k,rfl,rfl⟩
 obtain ⟨qz,hqz⟩:∃ qz,qz=ns.map λ k=>qs.getD k (0,1):=⟨_,rfl⟩;have qzl:qz.length=ns.length:=by rw [hqz,aA]
 have qza:∀ {i k:Nat} {x:Q2},ns[i]?=some k->qs[k]?=some x->qz[i]?=some x:=λ {i k x} h1 h2=>by
  rw [hqz,aE,h1,dW,aG,h2]; rfl
 have qzb:∀ x∈qz,a8S x:=λ x hx=>by
  rw [hqz] at hx;obtain ⟨k,hm,rfl⟩:=aK.mp hx;have hkl:=hk k hm;rw [aG,aD hkl];exact bqs _ (cS hkl)
 have qzm:∀ {k:Nat} {x:Q2},k∈ns->qs[k]?=some x->∃ i,i<ns.length/\qz.getD i (0,1)=x:=λ {k x} hm hx=>by
  obtain ⟨i,hi⟩:=eE hm;exact ⟨i,(aY.mp hi).1,by rw [aG,qza hi hx]; rfl⟩
 refine ⟨λ σ' H'=>∃ (sl:Addr) (zs:List V),σ'=[some (.ref fl),some (.ref nl),some lv,some (.ref sl),none,none]/\Same H H'/\H' sl=some (.lst zs)/\bZ (FrT H) zs qz,?_,?_⟩
 ·refine ⟨_,rfl,nl,rfl,⟨_,SqL.of hnl⟩,λ p hp=>?_⟩
  refine D3 (t8 (SqL.of hnl)) hp (by rw [aA]; exact j4 (by omega)) (λ i y _=>∃ x,qz[i]?=some x/\FrT H y x) (λ _ _ _ _ r _=>r) (λ i x H' zs N hx e hp' hN=>?_) (λ zs H' e hp' len pr=>⟨p,zs,rfl,e,hp',a0C (by rw [len,aA,qzl]) pr⟩);obtain ⟨k,hki,rfl⟩:=itn hx;have hkl:=hk k (aU hki);obtain ⟨v,hv⟩:∃ v,ys[k]?=some v:=⟨_,aD (by omega)⟩;obtain ⟨x',hx',hfr⟩:=Paired.at hys hv;exact ⟨Wk.set (by decide),_,rfl,_,rfl,fl,_,_,v,rfl,rfl,SqL.of (e _ _ hfl),v8 hv,hN _ _ (Same.refl _) ⟨x',qza hki hx',hfr⟩⟩
 intro σ1 H1 hM_; refine C9 λ G_ hG_=>?_; obtain ⟨sl,zs,rfl,s1,hsl,pz⟩:=hM_; subst hG_;have zl:zs.length=ns.length:=by rw [Paired.length pz,qzl]
 have fz:∀ z∈zs,∃ x,FrT H z x:=λ z hz=>by
  obtain ⟨i,hi⟩:=eE hz;obtain ⟨x,hx,hf⟩:=Paired.at pz hi;exact ⟨x,hf⟩
 have atz:∀ {i:Nat} {z:V},zs[i]?=some z->FrT H z (qz.getD i (0,1))/\a8S (qz.getD i (0,1)):=λ {i z} hi=>by
  obtain ⟨x,hx,hf⟩:=Paired.at pz hi;rw [aG,hx];exact ⟨hf,qzb x (aU hx)⟩
 refine ⟨λ σ' H'=>∃ (ll:Addr) (us:List V),σ'=[some (.ref fl),some (.ref nl),some lv,some (.ref sl),some (.ref ll),none]/\Same H1 H'/\H' ll=some (.lst us)/\us≠[]/\∀ u∈us,u∈zs,?_,?_⟩
 ·refine ⟨_,rfl,sl,rfl,⟨_,SqL.of hsl⟩,λ p hp=>?_⟩
  refine a0O (t8 (SqL.of hsl)) hp (j4 (by omega)) (λ i=>!decide (ltF q (qz.getD i (0,1)))) (λ i y H' us N hy e hp' hN=>?_) (λ us H' e hp' h0 h1 hm=>?_)
  ·obtain ⟨hf,bf⟩:=atz hy
   have s2:=s1.trans e;exact ⟨_,rfl,_,rfl,lv,y,q,_,rfl,(hlv.same s2).v,(hf.same s2).v,⟨bq.1,bq.2,bf.1,bf.2⟩,_,rfl,hN _ (Same.refl _)⟩
  ·obtain ⟨i,hi,ei⟩:=qzm m1 e1
   exact ⟨p,us,rfl,e,hp',h1 ⟨i,by omega,by rw [ei,decide_eq_false c1]; rfl⟩,hm⟩
 intro σ2 H2 hM_; refine C9 λ G_ hG_=>?_; obtain ⟨ll,us,rfl,s2,hll,une,hus⟩:=hM_; subst hG_;refine ⟨λ σ' H'=>∃ (hl:Addr) (ws:List V),σ'=[some (.ref fl),some (.ref nl),some lv,some (.ref sl),some (.ref ll),some (.ref hl)]/\Same H2 H'/\H' hl=some (.lst ws)/\ws≠[]/\∀ u∈ws,u∈zs,?_,?_⟩
 ·have hsl2:=s2 _ _ hsl
  refine ⟨_,rfl,sl,rfl,⟨_,SqL.of hsl2⟩,λ p hp=>?_⟩;refine a0O (t8 (SqL.of hsl2)) hp (j4 (by omega)) (λ i=>!decide (ltF (qz.getD i (0,1)) q)) (λ i y H' us N hy e hp' hN=>?_) (λ us H' e hp' h0 h1 hm=>?_)
  ·obtain ⟨hf,bf⟩:=atz hy
   have s3:=s1.trans (s2.trans e);exact ⟨_,rfl,_,rfl,y,lv,_,q,rfl,(hf.same s3).v,(hlv.same s3).v,⟨bf.1,bf.2,bq.1,bq.2⟩,_,rfl,hN _ (Same.refl _)⟩
  ·obtain ⟨i,hi,ei⟩:=qzm m2 e2
   exact ⟨p,us,rfl,e,hp',h1 ⟨i,by omega,by rw [ei,decide_eq_false c2]; rfl⟩,hm⟩
 intro σ3 H3 hM_; refine C9 λ G_ hG_=>?_; obtain ⟨hl,ws,rfl,s3,hhl,wne,hws⟩:=hM_; subst hG_;have s13:=s1.trans (s2.trans s3);have data:∀ {l:Addr} {us:List V} {H4:Hp},Same H3 H4->H4 l=some (.lst us)->us≠[]->(∀ u∈us,u∈zs)->∃ d,Dp K H4 (.ref l) d/\d.canLay0=true/\d.depth<=60/\PyData.eqv d (.list [])=false:=λ {l us H4} e hl hne hm=>by
  obtain ⟨qs',hq'⟩:=a8Q (H:=H4) (ys:=us) λ u hu=>by
   obtain ⟨x,hx⟩:=fz u (hm u hu);exact ⟨x,hx.same (s13.trans e)⟩
  have:qs'≠[]:=λ z=>by subst z; cases hq'; exact hne rfl
  exact ⟨dQs qs',.lst (SqL.of hl) (a1B hq'),a3M _,a8L _,a9R this⟩
 refine ⟨_,rfl,(by show 0<=sizeLine; decide),λ p4 hp4=>?_⟩;have s4:=Same.new hp4 (.lst []);obtain ⟨d1,hd1,la1,de1,ev1⟩:=data s4 (s4 _ _ (s3 _ _ hll)) une hus;refine ⟨d1,.list [],hd1,.lst (SqL.of upd_same) .nil,la1,rfl,bA (fM _ _) de1,?_⟩;rw [ev1];refine ⟨_,rfl,b1B ?_⟩;refine ⟨_,rfl,(by show 0<=sizeLine; decide),λ p5 hp5=>?_⟩;have s5:=Same.new hp5 (.lst []);obtain ⟨d2,hd2,la2,de2,ev2⟩:=data (s4.trans s5) (s5 _ _ (s4 _ _ hhl)) wne hws;refine ⟨d2,.list [],hd2,.lst (SqL.of upd_same) .nil,la2,rfl,bA (fM _ _) de2,?_⟩;rw [ev2];exact qq _ (s13.trans (s4.trans s5))
end
end Rim
namespace L2
open PySem PySem.Spec PyProof.Rows
def Ris (xs:Array Nat):Prop:=∀ i k,i<k->k<xs.size->xs.getD i 0<xs.getD k 0
theorem Ris.le {xs:Array Nat} (h:Ris xs) {i k:Nat} (hik:i<=k) (hk:k<xs.size):xs.getD i 0<=xs.getD k 0:=by
 rcases Nat.lt_or_eq_of_le hik with c | c
 ·exact cP (h i k c hk)
 ·rw [c]; exact aF _
theorem b2A {xs:Array Nat} {i j:Nat} (h:i<xs.size):xs.getD i j=xs.getD i 0:=by
 rw [eG,eG,dP h]; rfl
theorem a2w {xs:Array Nat} (R:Ris xs) (j:Nat):∀ (fuel lo hi:Nat),hi - lo<=fuel->lo<=hi->hi<=xs.size->(∀ i,i<lo->xs.getD i 0<j)->(∀ i,hi<=i->i<xs.size->j<=xs.getD i 0) →
  (SetTable.below.go xs j fuel lo hi<=xs.size/\(∀ i,i<SetTable.below.go xs j fuel lo hi->xs.getD i 0<j)/\∀ i,SetTable.below.go xs j fuel lo hi<=i->i<xs.size->j<=xs.getD i 0)
 | 0,lo,hi,h1,h2,h3,h4,h5=>by
  rw [SetTable.below.go.eq_1];have:lo=hi:=by omega
  subst this;exact ⟨h3,h4,h5⟩
 | fuel+1,lo,hi,h1,h2,h3,h4,h5=>by
  rw [SetTable.below.go.eq_2]
  by_cases c:lo<hi
  ·rw [if_pos c]
   dsimp only;have hm:(lo+hi) / 2<xs.size:=by omega
   rw [b2A hm]
   by_cases d:xs.getD ((lo+hi) / 2) 0<j
   ·rw [if_pos d]
    exact a2w R j fuel _ hi (by omega) (by omega) h3 (λ i hi'=>eR (R.le (by omega) hm) d) h5
   ·rw [if_neg d]
    exact a2w R j fuel lo _ (by omega) (by omega) (by omega) h4 (λ i hi' hs=>bA (gQ d) (R.le hi' hs))
  ·rw [if_neg c]
   have:lo=hi:=by omega
   subst this;exact ⟨h3,h4,h5⟩
theorem a1S {xs:Array Nat} (R:Ris xs) (j:Nat):SetTable.below xs j<=xs.size/\(∀ i,i<SetTable.below xs j->xs.getD i 0<j)/\∀ i,SetTable.below xs j<=i->i<xs.size->j<=xs.getD i 0 :=
 a2w R j xs.size 0 xs.size (by omega) (by omega) (aF _) (λ i h=>absurd h (by omega)) (λ i h1 h2=>absurd h2 (by omega))
theorem a5q {xs:Array Nat} (R:Ris xs) {i:Nat} (hi:i<xs.size):SetTable.below xs (xs.getD i 0+1)=i+1:=by
 obtain ⟨h1,h2,h3⟩:=a1S R (xs.getD i 0+1);rcases lE (SetTable.below xs (xs.getD i 0+1)) (i+1) with c | c | c
 ·have:=h3 i (by omega) hi
  omega
 ·exact c
 ·have:=h2 (i+1) c
  have h4:=R i (i+1) (by omega) (by omega);omega
theorem a5D {xs:Array Nat} (R:Ris xs):SetTable.below xs 0=0:=by
 obtain ⟨h1,h2,h3⟩:=a1S R 0;rcases Nat.eq_zero_or_pos (SetTable.below xs 0) with c | c
 ·exact c
 ·have:=h2 0 c
  omega
theorem a5U {xs:Array Nat} (R:Ris xs) {j:Nat} (hn:xs[SetTable.below xs j]?≠some j):Ris (SetTable.insertAt xs (SetTable.below xs j) j):=by
 obtain ⟨h1,h2,h3⟩:=a1S R j;generalize SetTable.below xs j=p at *;have size:(SetTable.insertAt xs p j).size=xs.size+1:=by
  unfold SetTable.insertAt;simp; omega
 have at_:∀ i,i<=xs.size->(SetTable.insertAt xs p j).getD i 0=if i<p then xs.getD i 0 else if i=p then j else xs.getD (i - 1) 0:=λ i hi=>by
  unfold SetTable.insertAt;rw [eG,eG,eG,Array.getElem?_append];have e1:((xs.extract 0 p).push j).size=p+1:=by simp; omega
  rw [e1]
  by_cases c:i<p
  ·rw [if_pos (by omega),if_pos c,Array.getElem?_push_lt (by simp; omega)]
   simp [Array.getElem_extract];rw [dP (by omega)];rfl
  ·rw [if_neg c]
   by_cases d:i=p
   ·subst d
    rw [if_pos (by omega),if_pos rfl];have:(xs.extract 0 i).size=i:=by simp; omega
    rw [Array.getElem?_push];simp [this]
   ·rw [if_neg (by omega),if_neg d,Array.getElem?_extract]
    have:p+(i - (p+1))=i - 1:=by omega
    rw [this]
    by_cases e:i - (p+1)<xs.size - p
    ·rw [if_pos (by omega)]
    ·omega
 intro i k hik hk;rw [size] at hk;rw [at_ i (by omega),at_ k (by omega)];have hj:p<xs.size->j<xs.getD p 0:=λ hp=>by
  have h4:=h3 p (aF _) hp;have:xs.getD p 0≠j:=λ e=>hn (by rw [dP hp,<- e,eG,dP hp]; rfl);omega
 by_cases c1:i<p
 ·rw [if_pos c1]
  by_cases c2:k<p
  ·rw [if_pos c2]; exact R i k hik (by omega)
  ·rw [if_neg c2]
   by_cases c3:k=p
   ·rw [if_pos c3]; exact h2 i c1
   ·rw [if_neg c3]; exact aZ (h2 i c1) (h3 (k - 1) (by omega) (by omega))
 ·rw [if_neg c1]
  by_cases c2:i=p
  ·rw [if_pos c2,if_neg (by omega),if_neg (by omega)]
   exact aZ (hj (by omega)) (R.le (by omega) (by omega))
  ·rw [if_neg c2,if_neg (by omega),if_neg (by omega)]
   exact R (i - 1) (k - 1) (by omega) (by omega)
structure TOk (L:Bool) (t:SetTable):Prop where
 led:t.led=L
 dum:t.dummies=#[]
 ris:Ris t.place
theorem b1t:Ris #[]:=λ i k _ h=>by simp at h
theorem a7Y (n:Nat):Ris (Array.range n):=λ i k h hk=>by
 rw [Array.size_range] at hk;rw [eG,eG,dP (by simp; omega),dP (by simp; omega)]
 simpa using h
theorem a7H (L:Bool):TOk L (SetTable.fresh 0 0 L):=⟨rfl,rfl,b1t⟩
theorem V7 {L:Bool} {t:SetTable} (T:TOk L t) (n:Nat):TOk L (t.standIn n):=⟨T.led,rfl,a7Y n⟩
theorem a6U (j:Nat):SetTable.has #[] j=false:=by
 unfold SetTable.has;simp
theorem a6g {L:Bool} {t:SetTable} (T:TOk L t) {j:Nat} (h:t.slot j=SetTable.Slot.empty):t.place[SetTable.below t.place j]?≠some j:=λ e=>by
 unfold SetTable.slot at h;dsimp only at h;rw [e,if_pos (by simp)] at h
 cases h
theorem a5p {L:Bool} {t:SetTable} (T:TOk L t) (j:Nat):t.slot j=SetTable.Slot.empty\/∃ i,t.slot j=SetTable.Slot.live i:=by
 unfold SetTable.slot;dsimp only
 split
 ·exact .inr ⟨_,rfl⟩
 ·rw [T.dum,a6U]
  exact .inl (if_neg bK)
theorem a7z (t:SetTable) (p:SetTable.Probe):(t.advance p).dummy=p.dummy:=by
 unfold SetTable.advance
 split
 ·rfl
 ·rfl
theorem a0Y {L:Bool} {t:SetTable} (T:TOk L t) (ha:Nat->Int) (h:Int):∀ (fuel:Nat) (p:SetTable.Probe) (j:Nat) (d:Option Nat),p.dummy=none->SetTable.probe.go t ha h fuel p=some (SetTable.Met.empty j d)->d=none/\t.slot j=SetTable.Slot.empty
 | 0,p,j,d,hd,e=>by rw [SetTable.probe.go.eq_1] at e; cases e
 | fuel+1,p,j,d,hd,e=>by
  rw [SetTable.probe.go.eq_2] at e;rcases a5p T p.j with c | ⟨i,c⟩
  ·rw [c] at e
   cases e;exact ⟨hd,c⟩
  ·rw [c] at e
   dsimp only at e
   split at e
   ·cases e
   ·exact a0Y T ha h fuel _ j d (by rw [a7z]; exact hd) e
theorem a5Q {L:Bool} {t:SetTable} (T:TOk L t) {h:Int} {j:Nat} {wd:Bool} (e:t.freeSlot h=some (j,wd)):t.slot j=SetTable.Slot.empty:=by
 unfold SetTable.freeSlot at e
 split at e
 case h_1 j' d hp =>
  unfold SetTable.probe at hp;obtain ⟨hd,hs⟩:=a0Y T _ _ _ _ _ _ (by rfl) hp;subst hd
  cases e;exact hs
 case h_2=>cases e
theorem b1i {L:Bool} {t:SetTable} (T:TOk L t) {j:Nat} (h:t.slot j=SetTable.Slot.empty):TOk L (t.put j).1:=by
 unfold SetTable.put;dsimp only;refine ⟨T.led,?_,a5U T.ris (a6g T h)⟩
 show (if SetTable.has t.dummies j=true then _ else t.dummies)=#[]
 rw [T.dum,a6U];exact if_neg bK
theorem b0B {L:Bool} {t:SetTable} (T:TOk L t) (es:Array (Int×Value)) (h:Int) (x:Value):TOk L (layNew t es h x).2.1:=by
 unfold layNew
 split
 case h_1 slot wd e =>
  have hs:=a5Q T e;have hp:=b1i T hs;generalize t.put slot=r at *;obtain ⟨t',p⟩:=r;dsimp only;unfold SetTable.orStandIn
  split
  ·exact hp
  ·exact V7 hp _
 case h_2=>exact V7 T _
theorem a2p:∀ (n m:Nat) (f:Nat->Option Nat),∃ l,(List.filterMap (λ j=>mD (λ x=>(j,x)) (f j)) (List.range' m n)).map (·.1)=l/\l.Pairwise (·<·)/\∀ x∈l,m<=x
 | 0,m,f=>⟨[],rfl,.nil,λ _ h=>by cases h⟩
 | n+1,m,f=>by
  obtain ⟨l,e,h1,h2⟩:=a2p n (m+1) f;rw [List.range'_succ,fN]
  cases f m with
  | none=>exact ⟨l,e,h1,λ x hx=>mG (h2 x hx)⟩
  | some y=>exact ⟨m::l,by show m::_=_; rw [e],.cons (λ x hx=>h2 x hx) h1,λ x hx=>by
    rcases aL.mp hx with rfl | hx
    ·exact aF _
    ·exact mG (h2 x hx)⟩
theorem b0s {l:List Nat} (h:l.Pairwise (·<·)):Ris l.toArray:=λ i k hik hk=>by
 rw [bM] at hk;rw [eG,eG,iM,iM,aD (by omega),aD hk];exact List.pairwise_iff_getElem.mp h i k (by omega) hk hik
theorem a6c {L:Bool} {t t':SetTable} {hs:Array Int} {wanted:Nat} {o:Array Nat} (T:TOk L t) (e:t.relaid hs wanted=some (t',o)):TOk L t':=by
 unfold SetTable.relaid SetTable.laid at e;obtain ⟨owner,_,e⟩:=Option.bind_eq_some_iff.mp e
 cases e;refine ⟨T.led,rfl,?_⟩;rw [List.range_eq_range'];obtain ⟨l,e,h1,_⟩:=a2p (SetTable.sizeAbove wanted - 1+1) 0 (λ j=>owner.getD j none)
 show Ris (iJ (λ x:Nat×Nat=>x.fst) _).toArray
 rw [e];exact b0s h1
theorem b1j {L:Bool} {t:SetTable} (T:TOk L t) (es:Array (Int×Value)) (wanted:Nat):TOk L (relayAll t es wanted).2.1:=by
 unfold relayAll
 split
 case h_1 t' o e =>
  dsimp only
  split
  ·exact a6c T e
  ·exact V7 T _
 case h_2=>exact V7 T _
def a2H (e:Int×Value):Int:=match e.2 with
 | .int i _=>i
 | _=>0
def IsE (e:Int×Value):Prop:=∃ i t,e=(hashInt i,Value.int i t)
structure SI (L:Bool) (h:Heap) (a:Addr) (ks:List Int):Prop where
 ex:∃ es ep t,h.get? a=some ⟨.type "set",none,.set es ep t,#[]⟩/\(∀ e∈es.toList,IsE e)/\(es.toList.map a2H).Perm ks/\t.fits es.size=true/\TOk L t
 nd:ks.Nodup
 few:ks.length<scanBound
section
variable {prog:Program} {w:World}
theorem b0a {es:List (Int×Value)} (h:∀ e∈es,IsE e):ElemsOf (intKind prog w) es:=λ e he=>by
 obtain ⟨i,t,rfl⟩:=h e he;exact ⟨⟨i,by show Value.isInt i (.int i t)=true; simp [Value.isInt],rfl⟩,rfl⟩
theorem isInt_iff {i k:Int} {t:Tok}:Value.isInt k (.int i t)=true ↔ i=k:=by
 simp [Value.isInt]
theorem a8N (t:SetTable) (es:Array (Int×Value)) (h:Int) (x:Value):(layNew t es h x).1.toList.Perm (es.toList++[(h,x)]):=by
 unfold layNew
 split
 ·generalize t.put _=r
  obtain ⟨t',p⟩:=r;have:=SetTable.insertAt_perm es p (h,x);rw [jU] at this;exact this
 ·rw [jU]
theorem a6q {h:Heap} {a:Addr} {es es':Array (Int×Value)} {ep:Nat} {t t':SetTable} (hg:h.get? a=some ⟨.type "set",none,.set es ep t,#[]⟩):(h.update a (Obj.putSet es' t')).get? a=some ⟨.type "set",none,.set es' (ep+1) t',#[]⟩:=by
 rw [Heap.get?_update_self _ hg (by rfl)];rfl
theorem a4k {h:Heap} {a:Addr} (f:Obj->Obj):Heap.SameBut a h (h.update a f):=Heap.SameBut.update _ _ _
theorem b2X {L:Bool} {A:Around} {E:Value->Shared->Prop} {s:Shared} {a:Addr} {ks:List Int} {k:Int} {tk:Tok} {Q:Bool->Shared->Prop} (h:SI L s.heap a ks) (hn:ks.length+1<scanBound)
  (q:∀ b h',Heap.SameBut a s.heap h'->SI L h' a (if k∈ks then ks else ks++[k])->Q b { s with heap:=h' }):wpAny (model prog w) A (setAddHashed a (.int k tk) (hashInt k)) Q E s:=by
 obtain ⟨⟨es,ep,t,hg,he,hp,hf,T⟩,nd,few⟩:=h;have hlen:es.size=ks.length:=by
  have:=hp.length_eq;rw [aA,eO] at this;exact this
 have hE:ElemsOf (intKind prog w) es.toList:=b0a he;unfold setAddHashed;refine wpAny_holding ?_;rw [setAddHashedIn.eq_def];dsimp only;refine wpAny_bind (wpAny_setState_of hg rfl hf ?_);dsimp only;have hs:byScan (Value.int k tk) es=true:=by
  unfold byScan;rw [hE.all_scannable,decide_eq_true (by omega)];rfl
 rw [if_pos hs];refine wpAny_bind ?_;unfold setAddByScan;refine wpAny_bind (wpAny_rule ?_);refine wpAny_bind (wpAny_setScan_of (knd:=intKind prog w) (k:=k) (by show Value.isInt k (.int k tk)=true; exact isInt_iff.mpr rfl) hg rfl hf hE ?_);have memk:k∈ks ↔ ∃ e∈es.toList,(intKind prog w).is k e.snd=true:=by
  rw [<- hp.mem_iff,aK];constructor
  ·rintro ⟨e,h1,h2⟩
   obtain ⟨i,t,rfl⟩:=he e h1;exact ⟨_,h1,isInt_iff (t:=t).mpr h2⟩
  ·rintro ⟨e,h1,h2⟩
   obtain ⟨i,t,rfl⟩:=he e h1;exact ⟨_,h1,isInt_iff (t:=t).mp h2⟩
 cases hi:List.findIdx? (λ e=>(intKind prog w).is k e.snd) es.toList with
 | some j =>
  dsimp only;refine wpAny_pure ?_;dsimp only;refine wpAny_pure ?_;have hk:k∈ks:=by
   obtain ⟨h1,h2,_⟩:=List.findIdx?_eq_some_iff_getElem.mp hi;exact memk.mpr ⟨_,cS h1,h2⟩
  exact q _ _ (Heap.SameBut.refl _ _) (by rw [if_pos hk]; exact ⟨⟨es,ep,t,hg,he,hp,hf,T⟩,nd,few⟩)
 | none =>
  dsimp only;have hk:¬ k∈ks:=λ c=>by
   obtain ⟨e,h1,h2⟩:=memk.mp c;have:=List.findIdx?_eq_none_iff.mp hi e h1;rw [h2] at this; cases this
  have l1:=layNew_fits t es (hashInt k) (.int k tk);have l2:=a8N t es (hashInt k) (.int k tk);have l3:=b0B T es (hashInt k) (.int k tk);generalize layNew t es (hashInt k) (.int k tk)=r at *;obtain ⟨es',t',wd,gave⟩:=r;dsimp only at *;have he':∀ e∈es'.toList,IsE e:=λ e hm=>by
   rcases aT.mp (l2.mem_iff.mp hm) with hm | hm
   ·exact he e hm
   ·rw [bH.mp hm]; exact ⟨k,tk,rfl⟩
  have hp':(es'.toList.map a2H).Perm (ks++[k]):=by
   refine (l2.map a2H).trans ?_;rw [bN];exact hp.append_right _
  have sz':es'.size=es.size+1:=by
   have:=l2.length_eq;rw [aJ,eO,eO] at this;exact this
  have nd':(ks++[k]).Nodup:=List.nodup_append.mpr ⟨nd,by simp,λ x hx y hy=>by rw [bH.mp hy]; exact λ z=>hk (z ▸ hx)⟩;have few':(ks++[k]).length<scanBound:=by rw [aJ]; exact hn
  have bnd:∀ n:Nat,n<=es.size+1->n<=sizeLine:=λ n h=>by
   have:scanBound<=sizeLine:=by decide
   omega
  refine wpAny_bind (wpAny_mono (Q:=λ _ s₁=>s=s₁) ?_ ?_ λ _ _ e=>e)
  ·cases gave
   ·exact wpAny_pure rfl
   ·exact wpAny_rule rfl
  intro u s₁ hs₁;subst hs₁;have hg1:=a6q (es':=es') (t':=t') hg;have sb1:=a4k (h:=s.heap) (a:=a) (Obj.putSet es' t');have si1:SI L (s.heap.update a (Obj.putSet es' t')) a (ks++[k]):=⟨⟨es',_,t',hg1,he',hp',l1,l3⟩,nd',few'⟩;have r1:=relayAll_fits t' es' (SetTable.grown es'.size);have r2:=relayAll_perm t' es' (SetTable.grown es'.size);have r3:=b1j l3 es' (SetTable.grown es'.size);have done:∀ b h',Heap.SameBut a s.heap h'->SI L h' a (ks++[k])->Q b { s with heap:=h' }:=λ b h' h1 h2=>q b h' h1 (by rw [if_neg hk]; exact h2)
  split <;> refine wpAny_bind (wpAny_pure (a:=true) ?_)
  all_goals
   rw [if_pos rfl];refine wpAny_bind (wpAny_storeSet_of hg rfl ?_ (bnd _ (by omega)))
   by_cases c:(!wd&&t'.tooFull)=true
   ·rw [if_pos c]
    refine wpAny_bind (wpAny_mono (Q:=λ _ s₁=>{ s with heap:=s.heap.update a (Obj.putSet es' t') }=s₁) ?_ ?_ λ _ _ e=>e)
    ·cases (relayAll t' es' (SetTable.grown es'.size)).2.snd
     ·exact wpAny_pure rfl
     ·exact wpAny_rule rfl
    intro u s₁ hs₁;subst hs₁;generalize relayAll t' es' (SetTable.grown es'.size)=r at *;obtain ⟨es2,t2,gv⟩:=r;dsimp only at *;have sz2:es2.size=es'.size:=by
     have:=r2.length_eq;rw [eO,eO] at this;exact this
    refine wpAny_bind (wpAny_storeSet_of hg1 rfl ?_ (bnd _ (by omega)));refine wpAny_pure ?_;dsimp only;refine wpAny_pure ?_;exact done _ _ (sb1.trans (a4k _)) ⟨⟨es2,_,t2,a6q hg1,λ e hm=>he' e (r2.mem_iff.mp hm),(r2.map a2H).trans hp',r1,r3⟩,nd',few'⟩
   ·rw [if_neg c]
    refine wpAny_pure ?_;dsimp only;refine wpAny_pure ?_;exact done _ _ sb1 si1
end
def X3 (val:Nat->Int):Nat->List Int
 | 0=>[]
 | i+1=>if val i∈X3 val i then X3 val i else X3 val i++[val i]
theorem a0m (val:Nat->Int):∀ i,(X3 val i).length<=i
 | 0=>aF _
 | i+1=>by
  have:=a0m val i;unfold X3
  split
  ·omega
  ·rw [aJ]; simp; omega
theorem a4n (val:Nat->Int) (k:Int):∀ i,k∈X3 val i ↔ ∃ j,j<i/\val j=k
 | 0=>⟨λ h=>(by cases h),λ ⟨j,h,_⟩=>(by omega)⟩
 | i+1=>by
  have ih:=a4n val k i;unfold X3
  split
  case isTrue c =>
   rw [ih];constructor
   ·rintro ⟨j,h1,h2⟩; exact ⟨j,by omega,h2⟩
   ·rintro ⟨j,h1,h2⟩
    by_cases e:j=i
    ·subst e; rw [h2] at c; exact ih.mp c
    ·exact ⟨j,by omega,h2⟩
  case isFalse c =>
   rw [aT,ih,bH];constructor
   ·rintro (⟨j,h1,h2⟩ | h)
    ·exact ⟨j,by omega,h2⟩
    ·exact ⟨i,by omega,h.symm⟩
   ·rintro ⟨j,h1,h2⟩
    by_cases e:j=i
    ·subst e; exact .inr h2.symm
    ·exact .inl ⟨j,by omega,h2⟩
section
variable {prog:Program} {w:World}
theorem SI.frame {L:Bool} {h h':Heap} {a:Addr} {ks:List Int} (S:SI L h a ks) (k:∀ o,h.get? a=some o->h'.get? a=some o):SI L h' a ks:=by
 obtain ⟨⟨es,ep,t,hg,r⟩,nd,few⟩:=S;exact ⟨⟨es,ep,t,k _ hg,r⟩,nd,few⟩
theorem a6y {L:Bool} {A:Around} {R:Result->Shared->Prop} {I:Addr} {fp wr:List Addr} {G:Array GenState->Array GenState->Prop} {n:Nat} {P:Nat->Value->Prop} {St:Nat->Shared->Prop} (W:WalksS prog w A.in1 I fp wr G n P St) (S:Addr) (hS:S ∉ fp) (val:Nat->Int)
  (hP:∀ i v,P i v->∃ t,v=Value.int (val i) t) (hn:n+1<scanBound):∀ (k i:Nat) (s:Shared),n - i=k->i<=n->St i s->SI L s.heap S (X3 val i)->(∀ s',Moved (S::wr) G s s'->SI L s'.heap S (X3 val n)->R (jV (Flow.ret Value.none)) s') →
  codeAny (model prog w) A (Code.builtin "set.update.loop" { pos:=[Value.ref S,Value.ref I] }) R s
 | 0,i,s,hk,hi,st,si,q=>by
  have e:i=n:=by omega
  subst e;refine codeAny_builtin mI ?_;unfold Builtin.«set.update.loop»;dsimp only;refine wpAny_bind (W.done s _ _ st λ s' mv=>?_);dsimp only;refine wpAny_pure ?_;have hh:SI L s'.heap S (X3 val i):=si.frame λ o ho=>mv.heap _ _ (λ z=>hS (W.sub _ z)) ho;exact q s' ⟨λ b o hb h=>mv.heap b o (λ z=>hb (.tail _ z)) h,mv.gens,mv.drawn,mv.os,mv.toks⟩ hh
 | k+1,i,s,hk,hi,st,si,q=>by
  refine codeAny_builtin mI ?_;unfold Builtin.«set.update.loop»;dsimp only;refine wpAny_bind (W.item i s _ _ (by omega) st λ v s' pv st' mv=>?_);obtain ⟨t,rfl⟩:=hP i v pv;dsimp only;refine wpAny_bind (wpAny_holding ?_);unfold setAdd;refine wpAny_holding (wpAny_bind ?_);refine (intKind prog w).pyHash (k:=val i) (isInt_iff (t:=t).mpr rfl) ?_;have hh:SI L s'.heap S (X3 val i):=si.frame λ o ho=>mv.heap _ _ (λ z=>hS (W.sub _ z)) ho;refine b2X (L:=L) (ks:=X3 val i) hh (by have:=a0m val i; omega) λ b h' sb si'=>?_;refine wpAny_pure ?_;dsimp only;refine ⟨plainId_quiet (by decide +kernel) _,?_⟩;have st2:St (i+1) { s' with heap:=h',toks:=s'.toks+1 }:=W.frame (i+1) s' h' (s'.toks+1) st' (fB _) λ b hb o ho=>by
   rw [sb.2 b (λ z=>hS (z ▸ hb))]; exact ho
  refine a6y W S hS val hP hn k (i+1) _ (by omega) (by omega) st2 (by unfold X3; exact si') λ s2 mv2 si2=>q s2 ⟨λ b o hb h=>?_,W.gtrans _ _ _ mv.gens mv2.gens,by rw [mv2.drawn]; exact mv.drawn,by rw [mv2.os]; exact mv.os,bA mv.toks (bA (fB _) mv2.toks)⟩ si2;refine mv2.heap b o hb ?_
  show h'.get? b=some o
  rw [sb.2 b (λ z=>hb (z ▸ .head _))];exact mv.heap b o (λ z=>hb (.tail _ z)) h
end
section
variable {prog:Program} {w:World}
def a1K (w:World):Bool:=!w.params.followText "set-order"
def T6 (L:Bool):Obj:={ cls:=.type "set",data:=.set #[] 0 (SetTable.fresh 0 0 L) }
theorem a7P (v:Value):MeetsIn prog w (Builtin.«set.__new__» { pos:=[Value.type "set",v] }) (λ _ R s=>R (jV (Flow.ret (Value.ref s.heap.objs.size))) { s with heap:=s.heap.push (T6 (a1K w)) }):=by
 intro A R s hS;unfold Builtin.«set.__new__» Builtin.Frozenset.newClass;dsimp only;refine wpAny_bind (wpAny_bind (wpAny_pure (a:=true) ?_));rw [if_neg (by decide)];refine wpAny_bind ?_;rw [F.called_set.sub];refine wpAny_pure ?_;rw [if_neg (by decide)];refine wpAny_pure ?_;dsimp only;refine wpAny_bind ?_;unfold newSet setsByText;refine wpAny_bind (wpAny_bind (wpAny_askSetting (wpAny_pure ?_)));dsimp only;unfold newObj;dsimp only;rw [if_neg (by decide)];unfold newObjAsIs;refine wpAny_bind (wpAny_alloc (wpAny_pure ?_));exact wpAny_pure hS
end
def SiS (L:Bool) (S l:Addr) (items:Array Value) (val:Nat->Int):PySem.Spec:=λ A R s=>A.handled=none/\s.heap.IsList l items/\(∀ i v,items[i]?=some v->∃ t,v=Value.int (val i) t)/\items.size+1<scanBound/\s.heap.get? S=some (T6 L)/\S≠l ∧
 ∀ s':Shared,(∀ b o,b≠S->s.heap.get? b=some o->s'.heap.get? b=some o)->SI L s'.heap S (X3 val items.size)->s'.gens=s.gens->s'.drawn=s.drawn->s'.os=s.os->s.toks<=s'.toks->R (jV (Flow.ret Value.none)) s'
theorem a9O {L:Bool} {h:Heap} {S:Addr} (hg:h.get? S=some (T6 L)):SI L h S []:=⟨⟨#[],0,_,hg,λ _ h=>(by cases h),.nil,rfl,a7H L⟩,.nil,by decide⟩
theorem a5I {L:Bool} {s:Shared} {S:Addr} (hg:s.heap.get? S=some (T6 L)):s.TypeIs (Value.ref S) "set":=by
 exact ⟨_,hg,rfl⟩
theorem a5Z {L:Bool} {S l:Addr} {items:Array Value} {val:Nat->Int}:Meets (Builtin.«set.__init__» { pos:=[Value.ref S,Value.ref l] }) (SiS L S l items val):=by
 intro prog w A R s hS;obtain ⟨hh,hl,hv,hn,hg,nS,q⟩:=hS;unfold Builtin.«set.__init__»;refine wpAny_bind ?_;unfold noKeywords;rw [if_pos (by rfl)];refine wpAny_pure ?_;dsimp only;have tyS:s.TypeIs (Value.ref S) "set":=a5I hg;refine wpAny_bind ?_;unfold typeNameOfCut shownTypeOf;refine wpAny_bind (wpAny_bind (wpAny_typeOf tyS ?_));rw [if_neg (by decide)];refine wpAny_pure ?_;unfold typeNameCut;dsimp only;unfold typeName;dsimp only;refine wpAny_pure ?_;refine wpAny_bind ?_;unfold checkCount;rw [if_neg (by show ¬ (0==1&&1 != 0)=true; decide),if_neg (by show ¬ 1<0; decide),if_neg (by show ¬ 1>1; decide)];refine wpAny_pure ?_;refine wpAny_bind ?_;unfold Builtin.Frozenset.addrOf;dsimp only;refine wpAny_pure ?_;refine wpAny_bind ?_;unfold setUsed;refine wpAny_bind (wpAny_setState_of hg rfl (by rfl) ?_);refine wpAny_pure ?_;dsimp only;rw [if_neg (by show ¬ (0 != 0)=true; decide)];refine wpAny_bind ?_;unfold Builtin.Frozenset.updateFrom;refine wpAny_bind ?_;have tyl:s.TypeIs (Value.ref l) "list":=hl.typeIs;unfold Builtin.Frozenset.isAnySet;refine wpAny_bind (wpAny_isInstance tyl F.sub_list_set ?_);refine wpAny_isInstance tyl F.sub_list_frozenset ?_;rw [if_neg bK];refine wpAny_bind (wpAny_typeOf tyl ?_);rw [if_neg (by decide)];refine wpAny_bind (wpAny_pyIter_list hl ?_);refine wpAny_bind (wpAny_runValue ?_);have hIS:s.heap.objs.size≠S:=cU (Heap.lt_size hg);have hIl:l≠s.heap.objs.size:=by
  obtain ⟨o,ho,_⟩:=id hl;exact bD (Heap.lt_size ho)
 have W:=(Walks.list (prog:=prog) (w:=w) (A:=A.in1.in1) hh s.heap.objs.size l hIl items).toS;refine a6y (L:=L) W S ?_ val (λ i v hp=>hv i v hp) hn items.size 0 _ (by omega) (bW _) ?_ ?_ ?_
 ·intro hm
  rcases aL.mp hm with z | hm
  ·exact hIS z.symm
  ·exact nS (bH.mp hm)
 ·refine ⟨⟨_,Heap.get?_push_size _ rfl,rfl,rfl⟩,?_⟩
  obtain ⟨o,ho,r⟩:=id hl;exact ⟨o,Heap.get?_push_of_some _ ho,r⟩
 ·exact a9O (Heap.get?_push_of_some _ hg)
 ·intro s' mv si'
  dsimp only;refine wpAny_pure ?_;refine wpAny_pure ?_;dsimp only;exact q s' (λ b o hb ho=>mv.heap b o (λ z=>by
   rcases aL.mp z with z | z
   ·exact hb z
   ·exact absurd (bH.mp z) (bD (Heap.lt_size ho))) (Heap.get?_push_of_some _ ho)) si' mv.gens mv.drawn mv.os mv.toks
theorem b0x (a:Value):checkBuiltinCall "set.__new__" { pos:=[Value.type "set",a] }=pure ():=by kernel_rfl
section
variable {prog:Program} {w:World}
theorem a9V {A:Around} {E:Value->Shared->Prop} {s:Shared} (a:Value) {Q₁:Value->Shared->Prop} (h:Q₁ (Value.ref s.heap.objs.size) { s with heap:=s.heap.push (T6 (a1K w)) }):codeAny (model prog w) A (Code.call (Value.builtin "set.__new__") { pos:=[Value.type "set",a] }) (wants Q₁ E) s:=by
 refine codeAny_call_builtin (b:=Builtin.«set.__new__») F.called_set.plain F.entry_set_new ?_;rw [b0x];exact wpAny_pure (a7P a A (wants Q₁ E) s h)
theorem a7X {A:Around} {E:Value->Shared->Prop} {s:Shared} {L:Bool} {S l:Addr} {items:Array Value} {val:Nat->Int} {Q₁:Value->Shared->Prop} (h:SiS L S l items val A (wants Q₁ E) s):codeAny (model prog w) A (Code.call (Value.builtin "set.__init__") { pos:=[Value.ref S,Value.ref l] }) (wants Q₁ E) s:=by
 refine codeAny_call_builtin (b:=Builtin.«set.__init__») (by decide +kernel) F.entry_set_init ?_;exact check_set_init_1 (a5I h.2.2.2.2.1) (a5Z prog w A (wants Q₁ E) s h)
theorem a9n {A:Around} {E:Value->Shared->Prop} {s:Shared} {l:Addr} {items:Array Value} {val:Nat->Int} {Q:Value->Shared->Prop} (hh:A.handled=none) (hl:s.heap.IsList l items) (hv:∀ i v,items[i]?=some v->∃ t,v=Value.int (val i) t) (hn:items.size+1<scanBound)
  (q:∀ s':Shared,(∀ b o,s.heap.get? b=some o->s'.heap.get? b=some o)->SI (a1K w) s'.heap s.heap.objs.size (X3 val items.size)->s'.gens=s.gens->s'.drawn=s.drawn->s'.os=s.os->s.toks<=s'.toks->Q (Value.ref s.heap.objs.size) s') :
  wpAny (model prog w) A (call (Value.type "set") [Value.ref l]) Q E s:=by
 refine wpAny_call (codeAny_of_tree ?_);refine wpAny_pure ⟨Code.quiet_builtin (id:="type.__call__") _ (by decide +kernel),?_⟩;refine codeAny_builtin (id:="type.__call__") (b:=Builtin.«type.__call__») F.entry_type_call ?_;unfold Builtin.«type.__call__»;dsimp only;rw [if_neg (by decide)];rw [if_neg (by rw [F.called_set.canCreate]; decide)];refine wpAny_bind ?_;rw [F.typeCall_set_1];refine wpAny_pure ?_;obtain ⟨c,tl,hm⟩:=F.called_set.mro;refine wpAny_bind ?_;rw [hm];refine wpAny_pure ?_;rw [if_neg (by simp)];refine wpAny_bind ?_;rw [F.called_set.made];refine wpAny_pure ?_;dsimp only;refine wpAny_bind (wpAny_pure ?_);have hg:(s.heap.push (T6 (a1K w))).get? s.heap.objs.size=some (T6 (a1K w)):=Heap.get?_push_size _ rfl;have nl:s.heap.objs.size≠l:=by
  obtain ⟨o,ho,_⟩:=id hl;exact (bD (Heap.lt_size ho)).symm
 refine wpAny_bind (wpAny_holding (wpAny_call (a9V _ ?_)));have tyS:({ s with heap:=s.heap.push (T6 (a1K w)) }:Shared).TypeIs (Value.ref s.heap.objs.size) "set":=a5I hg;refine wpAny_bind (wpAny_isInstance tyS F.called_set.sub ?_);rw [if_neg (by decide)];refine wpAny_bind (wpAny_holding ?_);unfold callSpecial?;refine wpAny_bind (wpAny_specialOf tyS F.slot_set_init.lookup ?_);dsimp only;refine wpAny_holding (wpAny_bind ?_);unfold bindSpecial;refine wpAny_bind ?_;rw [show typeOf (Value.builtin "set.__init__")=pure (.type "wrapper_descriptor") from by kernel_rfl];refine wpAny_pure ?_;rw [if_pos (by decide)];refine wpAny_pure ?_;dsimp only;refine wpAny_bind (wpAny_call (a7X (L:=a1K w) (items:=items) (val:=val) ⟨hh,hl.push _,hv,hn,hg,nl,λ s' k si g d o t=>?_⟩));refine wpAny_pure ?_;dsimp only;rw [if_neg (by decide)];refine wpAny_pure ?_;exact q s' (λ b o' ho=>k b o' (bD (Heap.lt_size ho)) (Heap.get?_push_of_some _ ho)) si g d o t
end
theorem a2s {α:Type} {l:List α} {i:Nat} (h:i<l.length):(l[i]::l.eraseIdx i).Perm l:=by
 rw [List.eraseIdx_eq_take_drop_succ];have e:l=l.take i++l[i]::l.drop (i+1):=by simp
 conv=>rhs; rw [e]
 exact List.perm_middle.symm
theorem a6x {α:Type} (next:Nat->Nat):∀ (fuel a:Nat) (l:List α) (acc:Array α),l.length=fuel->(pickOrder.go next fuel a l acc).toList.Perm (acc.toList++l)
 | 0,a,l,acc,h=>by
  rw [pickOrder.go.eq_1];have:l=[]:=gJ h;subst this;rw [iS]
 | fuel+1,a,l,acc,h=>by
  rw [pickOrder.go.eq_2];have hl:next a % l.length<l.length:=mJ _ (by omega);rw [aD hl];dsimp only;refine (a6x next fuel (a+1) _ _ (by rw [mK,if_pos hl]; omega)).trans ?_;rw [jU,dE];refine nZ _ ?_;exact a2s hl
theorem P7 {α:Type} (next:Nat->Nat) (xs:Array α):(pickOrder next xs).toList.Perm xs.toList:=by
 unfold pickOrder;have:=a6x next xs.size 0 xs.toList #[] (by rw [eO])
 simpa using this
theorem a7t {M:Model} {A:Around} {E:Value->Shared->Prop} {s:Shared} {src:Source} {n:Nat} {Q:Nat->Shared->Prop} (hn:n≠0) (q:∀ i d,i<n->Q i { s with drawn:=d }):wpAny M A (choose src n) Q E s:=by
 intro Γ p hΓ;unfold choose;rw [Sem.wp_choose];exact ⟨hn,wpAny_pure (q _ _ (mJ _ (Nat.pos_of_ne_zero hn))) Γ p hΓ⟩
theorem a6u {prog:Program} {w:World} {α:Type} {A:Around} {E:Value->Shared->Prop}:∀ (n:Nat) (l:List α) (s:Shared) (Q:List α->Shared->Prop),l.length=n->(∀ l' d,l'.Perm l->Q l' { s with drawn:=d })->wpAny (model prog w) A (drawOrder n l) Q E s
 | 0,l,s,Q,h,q=>by
  have:l=[]:=gJ h;subst this;rw [drawOrder.eq_1];exact wpAny_pure (q [] s.drawn .nil)
 | n+1,[],s,Q,h,q=>by simp at h
 | n+1,x::l,s,Q,h,q=>by
  rw [drawOrder.eq_3 _ _ (λ z=>by cases z)];refine wpAny_bind (a7t (by simp) λ i d hi=>?_);rw [aD hi];dsimp only;refine wpAny_bind ?_;refine a6u n ((x::l).eraseIdx i) { s with drawn:=d } _ (by rw [mK,if_pos hi]; simp at h ⊢; omega) λ l' d' hp=>?_;refine wpAny_pure (q _ d' ?_);exact (hp.cons _).trans (a2s hi)
theorem a8q:entryFor table "set.__iter__"=some Builtin.«frozenset.__iter__»:=by kernel_rfl
theorem Z2:entryFor table "set_iterator.__next__"=some Builtin.«set_iterator.__next__»:=by kernel_rfl
theorem V5:typeLookup (.type "set_iterator") (Str.ofString "__next__")=pure (some (.builtin "set_iterator.__next__")):=by kernel_rfl
def itO (first:Value) (i:Nat) (S:Addr) (n ep:Nat):Obj:={ cls:=.type "set_iterator",data:=.fields #[first,rawInt (i:Int),.ref S,rawInt (n:Int),rawInt (ep:Int)] }
section
variable {prog:Program} {w:World}
end
section
variable {prog:Program} {w:World} {A:Around} {E:Value->Shared->Prop} {s:Shared} {S:Addr} {es:Array (Int×Value)} {ep:Nat} {t:SetTable}
theorem a2O {slot i:Nat} {Q:Option (Value×Nat)->Shared->Prop} (hg:s.heap.get? S=some ⟨.type "set",none,.set es ep t,#[]⟩) (hf:t.fits es.size=true) (hT:w.params.followText "set-order"=true)
  (q:Q (mD (λ e=>(e.snd,slot)) (pickOrder (w.params.setOrder S ep) es)[i]?) s):wpAny (model prog w) A (setNext S slot i ep) Q E s:=by
 unfold setNext;refine wpAny_bind (wpAny_setState_of hg rfl hf ?_);dsimp only;unfold setsByText;refine wpAny_bind (wpAny_bind (wpAny_askSetting (wpAny_pure ?_)));rw [if_pos (show (model prog w).w.params.followText "set-order"=true from hT)];rw [if_neg (by simp)];refine wpAny_bind ?_;unfold setWalk;refine wpAny_bind (wpAny_setState_of hg rfl hf ?_);dsimp only;unfold setsByText;refine wpAny_bind (wpAny_bind (wpAny_askSetting (wpAny_pure ?_)));rw [if_pos (show (model prog w).w.params.followText "set-order"=true from hT)];refine wpAny_bind (wpAny_askSetting (wpAny_pure ?_));exact wpAny_pure q
theorem a1U {slot i:Nat} {Q:Option (Value×Nat)->Shared->Prop} (hg:s.heap.get? S=some ⟨.type "set",none,.set es ep t,#[]⟩) (hf:t.fits es.size=true) (hT:w.params.followText "set-order"=false) (hd:(!t.plain&&decide (es.size>1))=false) (hl:t.led=true) (hb:SetTable.below t.place slot=i)
  (q:Q (match es[i]?,t.place[i]? with
   | some (_,x),some j=>some (x,j+1)
   | _,_=>none) s):wpAny (model prog w) A (setNext S slot i ep) Q E s:=by
 unfold setNext;refine wpAny_bind (wpAny_setState_of hg rfl hf ?_);dsimp only;unfold setsByText;refine wpAny_bind (wpAny_bind (wpAny_askSetting (wpAny_pure ?_)));rw [if_neg (show ¬ (model prog w).w.params.followText "set-order"=true from by rw [show (model prog w).w=w from rfl,hT]; decide)]
 split
 case isTrue c =>
  have c':(!t.plain&&decide (es.size>1))=true:=c;rw [hd] at c'; cases c'
 case isFalse c =>
  refine wpAny_bind (wpAny_mono (Q:=λ _ s₁=>s=s₁) ?_ ?_ λ _ _ e=>e)
  ·show wpAny (model prog w) A (if (!t.led&&!es.isEmpty)=true then unsupported "set:maker-not-led" else pure ()) _ E s
   rw [hl,if_neg (by simp)];exact wpAny_pure rfl
  ·intro u s₁ e
   subst e;rw [hb];exact wpAny_pure q
end
theorem O6:Slot "set_iterator" (Str.ofString "__next__") "set_iterator.__next__" :=
 Slot.of (owner:="set_iterator") (n:="__next__") V5 (by decide +kernel) (by decide +kernel) (by decide +kernel) (.inl (by decide +kernel)) (by kernel_rfl) (by decide +kernel)
theorem a1o (a:Value):argsOk "set_iterator.__next__" { pos:=[a] }:=by kernel_rfl
theorem b0A (a:Value):argsOk "set.__iter__" { pos:=[a] }:=F.args_set_iter_1 a
theorem a5e:isSubtype (.type "StopIteration") (.type "StopIteration")=pure true:=by kernel_rfl
section
variable {prog:Program} {w:World} {A:Around} {E:Value->Shared->Prop} {s:Shared} {S I:Addr} {es:Array (Int×Value)} {ep:Nat} {t:SetTable}
theorem a4v {slot next i:Nat} {x:Value} {Q:Option Value->Shared->Prop} (hI:s.heap.get? I=some (itO (rawInt (slot:Int)) i S es.size ep)) (hg:s.heap.get? S=some ⟨.type "set",none,.set es ep t,#[]⟩) (hf:t.fits es.size=true)
  (hN:∀ (E':Value->Shared->Prop) (Q':Option (Value×Nat)->Shared->Prop),Q' (some (x,next)) s->wpAny (model prog w) A.in1 (setNext S slot i ep) Q' E' s)
  (q:∀ h',h'.get? I=some (itO (rawInt (next:Int)) (i+1) S es.size ep)->Heap.SameBut I s.heap h'->Q (some x) { s with heap:=h' }):wpAny (model prog w) A (pyNext (.ref I)) Q E s:=by
 unfold pyNext;refine wpAny_bind (wpAny_attempt ?_);refine wpAny_callSpecial?_slot (T:="set_iterator") ⟨_,hI,rfl⟩ O6 ?_;refine wpAny_call_entry O6 ⟨_,hI,rfl⟩ Z2 ?_ (a1o _);unfold Builtin.«set_iterator.__next__» slotArgs;rw [if_neg (by show ¬ (!true)=true; decide)];dsimp only;rw [if_neg (by show ¬ (0 != 0)=true; decide)];refine wpAny_bind (wpAny_pure ?_);dsimp only;unfold fieldsOf;dsimp only;refine wpAny_bind (wpAny_bind (wpAny_load' hI ?_));unfold itO;dsimp only;refine wpAny_pure ?_;rw [iN];dsimp only [rawInt];refine wpAny_bind (wpAny_setEntries_of hg rfl hf ?_);rw [if_neg (by simp)];rw [aV,aV,aV];refine wpAny_bind (hN _ _ ?_);dsimp only;refine wpAny_bind (wpAny_setField_rec hI (by show 0<5; decide) λ h1 e1 b1=>?_);refine wpAny_bind (wpAny_setField_rec e1 (by show 1<5; decide) λ h2 e2 b2=>?_);exact wpAny_pure ⟨_,rfl,wpAny_pure (q h2 (by rw [e2]; rfl) (b1.trans b2))⟩
theorem a7W {i k:Nat} {T:Addr} {ps:Array Value} {x:Value} {Q:Option Value->Shared->Prop} (hI:s.heap.get? I=some (itO (.ref T) i S es.size ep)) (hT:s.heap.get? T=some (seqObj "tuple" ps 0)) (hg:s.heap.get? S=some ⟨.type "set",none,.set es ep t,#[]⟩) (hf:t.fits es.size=true)
  (hp:ps[i]?=some (rawInt (k:Int))) {hx:Int} (he:es[k]?=some (hx,x))
  (q:∀ h',h'.get? I=some (itO (.ref T) (i+1) S es.size ep)->Heap.SameBut I s.heap h'->Q (some x) { s with heap:=h' }):wpAny (model prog w) A (pyNext (.ref I)) Q E s:=by
 unfold pyNext;refine wpAny_bind (wpAny_attempt ?_);refine wpAny_callSpecial?_slot (T:="set_iterator") ⟨_,hI,rfl⟩ O6 ?_;refine wpAny_call_entry O6 ⟨_,hI,rfl⟩ Z2 ?_ (a1o _);unfold Builtin.«set_iterator.__next__» slotArgs;rw [if_neg (by show ¬ (!true)=true; decide)];dsimp only;rw [if_neg (by show ¬ (0 != 0)=true; decide)];refine wpAny_bind (wpAny_pure ?_);dsimp only;unfold fieldsOf;dsimp only;refine wpAny_bind (wpAny_bind (wpAny_load' hI ?_));unfold itO;dsimp only;refine wpAny_pure ?_;rw [iN];dsimp only [rawInt];refine wpAny_bind (wpAny_setEntries_of hg rfl hf ?_);rw [if_neg (by simp)];refine wpAny_bind (wpAny_seqItems hT rfl ?_);dsimp only;rw [aV,aV,hp];dsimp only [rawInt];rw [aV];unfold setNextDrawn;refine wpAny_bind (wpAny_bind (wpAny_setState_of hg rfl hf ?_));dsimp only;rw [if_neg (by simp)];rw [he];refine wpAny_pure ?_;refine wpAny_bind (wpAny_setField_rec hI (by show 1<5; decide) λ h2 e2 b2=>?_);exact wpAny_pure ⟨_,rfl,wpAny_pure (q h2 (by rw [e2]; rfl) b2)⟩
end
section
variable {prog:Program} {w:World} {A:Around} {E:Value->Shared->Prop} {s:Shared} {S I:Addr} {es:Array (Int×Value)} {ep:Nat} {t:SetTable}
theorem a6K {slot i:Nat} {Q:Option Value->Shared->Prop} (hh:A.handled=none) (hI:s.heap.get? I=some (itO (rawInt (slot:Int)) i S es.size ep)) (hg:s.heap.get? S=some ⟨.type "set",none,.set es ep t,#[]⟩) (hf:t.fits es.size=true)
  (hN:∀ (E':Value->Shared->Prop) (Q':Option (Value×Nat)->Shared->Prop),Q' none s->wpAny (model prog w) A.in1 (setNext S slot i ep) Q' E' s)
  (q:∀ h',Heap.ExtBut I s.heap h'->Q none { s with heap:=h' }):wpAny (model prog w) A (pyNext (.ref I)) Q E s:=by
 unfold pyNext;refine wpAny_bind (wpAny_attempt ?_);refine wpAny_callSpecial?_slot (T:="set_iterator") ⟨_,hI,rfl⟩ O6 ?_;refine wpAny_call_entry O6 ⟨_,hI,rfl⟩ Z2 ?_ (a1o _);unfold Builtin.«set_iterator.__next__» slotArgs;rw [if_neg (by show ¬ (!true)=true; decide)];dsimp only;rw [if_neg (by show ¬ (0 != 0)=true; decide)];refine wpAny_bind (wpAny_pure ?_);dsimp only;unfold fieldsOf;dsimp only;refine wpAny_bind (wpAny_bind (wpAny_load' hI ?_));unfold itO;dsimp only;refine wpAny_pure ?_;rw [iN];dsimp only [rawInt];refine wpAny_bind (wpAny_setEntries_of hg rfl hf ?_);rw [if_neg (by simp)];rw [aV,aV,aV];refine wpAny_bind (hN _ _ ?_);dsimp only;refine wpAny_bind (wpAny_setField_rec hI (by show 2<5; decide) λ h1 e1 b1=>?_);refine wpAny_bind ?_;simp only [newExc,newTuple];refine wpAny_bind (wpAny_newObj_type ?_ (by size_fits));refine wpAny_bind (m:=firstArgMember _ _) (wpAny_of_eq (a:=Value.none) (by first | rfl | (simp only [firstArgMember]; rfl)) ?_);refine wpAny_newObj_type ?_ (by size_fits);simp only [raiseNew];refine wpAny_bind (wpAny_handled ?_)
 first | rw [show A.in1.handled=none from hh] | rw [hh]
 refine wpAny_bind (wpAny_pure (wpAny_throw ?_));refine wpAny_bind (wpAny_isInstance (T:="StopIteration") (b:=true) ⟨_,Heap.get?_push_size _ rfl,rfl⟩ a5e ?_);exact wpAny_pure (q _ ((b1.extBut.push _).push _))
theorem a2J {i:Nat} {T:Addr} {ps:Array Value} {Q:Option Value->Shared->Prop} (hh:A.handled=none) (hI:s.heap.get? I=some (itO (.ref T) i S es.size ep)) (hT:s.heap.get? T=some (seqObj "tuple" ps 0)) (hg:s.heap.get? S=some ⟨.type "set",none,.set es ep t,#[]⟩) (hf:t.fits es.size=true)
  (hp:ps[i]?=none) (q:∀ h',Heap.ExtBut I s.heap h'->Q none { s with heap:=h' }):wpAny (model prog w) A (pyNext (.ref I)) Q E s:=by
 unfold pyNext;refine wpAny_bind (wpAny_attempt ?_);refine wpAny_callSpecial?_slot (T:="set_iterator") ⟨_,hI,rfl⟩ O6 ?_;refine wpAny_call_entry O6 ⟨_,hI,rfl⟩ Z2 ?_ (a1o _);unfold Builtin.«set_iterator.__next__» slotArgs;rw [if_neg (by show ¬ (!true)=true; decide)];dsimp only;rw [if_neg (by show ¬ (0 != 0)=true; decide)];refine wpAny_bind (wpAny_pure ?_);dsimp only;unfold fieldsOf;dsimp only;refine wpAny_bind (wpAny_bind (wpAny_load' hI ?_));unfold itO;dsimp only;refine wpAny_pure ?_;rw [iN];dsimp only [rawInt];refine wpAny_bind (wpAny_setEntries_of hg rfl hf ?_);rw [if_neg (by simp)];refine wpAny_bind (wpAny_seqItems hT rfl ?_);dsimp only;rw [aV,hp];dsimp only;refine wpAny_bind (wpAny_setField_rec hI (by show 0<5; decide) λ h0 e0 b0=>?_);refine wpAny_bind (wpAny_setField_rec e0 (by show 2<5; decide) λ h1 e1 b1=>?_);refine wpAny_bind ?_;simp only [newExc,newTuple];refine wpAny_bind (wpAny_newObj_type ?_ (by size_fits));refine wpAny_bind (m:=firstArgMember _ _) (wpAny_of_eq (a:=Value.none) (by first | rfl | (simp only [firstArgMember]; rfl)) ?_);refine wpAny_newObj_type ?_ (by size_fits);simp only [raiseNew];refine wpAny_bind (wpAny_handled ?_)
 first | rw [show A.in1.handled=none from hh] | rw [hh]
 refine wpAny_bind (wpAny_pure (wpAny_throw ?_));refine wpAny_bind (wpAny_isInstance (T:="StopIteration") (b:=true) ⟨_,Heap.get?_push_size _ rfl,rfl⟩ a5e ?_);exact wpAny_pure (q _ (((b0.trans b1).extBut.push _).push _))
end
theorem a8I:entryFor table "set_iterator.__iter__"=some Builtin.«dict_keyiterator.__iter__»:=by kernel_rfl
theorem a7D:typeLookup (.type "set_iterator") (Str.ofString "__iter__")=pure (some (.builtin "set_iterator.__iter__")):=by kernel_rfl
theorem a2Q:Slot "set_iterator" (Str.ofString "__iter__") "set_iterator.__iter__" :=
 Slot.of (owner:="set_iterator") (n:="__iter__") a7D (by decide +kernel) (by decide +kernel) (by decide +kernel) (.inl (by decide +kernel)) (by kernel_rfl) (by decide +kernel)
theorem a8o (a:Value):argsOk "set_iterator.__iter__" { pos:=[a] }:=by kernel_rfl
section
variable {prog:Program} {w:World} {A:Around} {S I:Addr} {es:Array (Int×Value)} {ep:Nat} {t:SetTable}
theorem a3I {E:Value->Shared->Prop} {s:Shared} {o:Obj} {Q:Value->Shared->Prop} (hI:s.heap.get? I=some o) (hc:o.cls=.type "set_iterator") (q:Q (.ref I) s):wpAny (model prog w) A (pyIter (.ref I)) Q E s:=by
 refine wpAny_pyIter_slot (T:="set_iterator") ⟨_,hI,hc⟩ a2Q (wpAny_call_entry a2Q ⟨_,hI,hc⟩ a8I ?_ (a8o _))
 show wpAny _ _ (ret (.ref I)) _ _ s
 exact wpAny_pure ⟨_,rfl,_,_,⟨_,hI,hc⟩,V5,q⟩
def StT (I S:Addr) (es:Array (Int×Value)) (ep:Nat) (t:SetTable) (f:Nat->Value) (i:Nat) (s:Shared):Prop :=
 s.heap.get? I=some (itO (f i) i S es.size ep)/\s.heap.get? S=some ⟨.type "set",none,.set es ep t,#[]⟩
theorem a8g (hh:A.handled=none) (hIS:I≠S) (hf:t.fits es.size=true) (hT:w.params.followText "set-order"=true) :
  WalksS prog w A I [I,S] [I] (λ a b=>b=a) es.size (λ i v=>∃ e,(pickOrder (w.params.setOrder S ep) es)[i]?=some e/\v=e.2) (StT I S es ep t λ _=>rawInt ((0:Nat):Int)) where
 sub:=λ b hb=>by simp at hb; simp [hb]
 grefl:=λ _=>rfl
 gtrans:=λ _ _ _ h1 h2=>h2.trans h1
 frame:=λ i s h' tk st _ hk=>⟨hk I (by simp) _ st.1,hk S (by simp) _ st.2⟩
 item:=λ i s Q E hi st hQ=>by
  have hl:(pickOrder (w.params.setOrder S ep) es).size=es.size:=by
   have:=(P7 (w.params.setOrder S ep) es).length_eq
   simpa using this
  have hx:(pickOrder (w.params.setOrder S ep) es)[i]?=some ((pickOrder (w.params.setOrder S ep) es)[i]'(by omega)):=dP _;refine a4v (slot:=0) (next:=0) (x:=((pickOrder (w.params.setOrder S ep) es)[i]'(by omega)).2) st.1 st.2 hf (λ E' Q' q'=>a2O st.2 hf hT (by rw [hx]; exact q')) λ h' e b=>?_;exact hQ _ _ ⟨_,hx,rfl⟩ ⟨e,by show h'.get? S=_; rw [b.2 S (aO hIS)]; exact st.2⟩ ⟨λ c o hc g=>by show h'.get? c=_; rw [b.2 c (by simpa using hc)]; exact g,rfl,rfl,rfl,aF _⟩
 done:=λ s Q E st hQ=>by
  have hl:(pickOrder (w.params.setOrder S ep) es).size=es.size:=by
   have:=(P7 (w.params.setOrder S ep) es).length_eq
   simpa using this
  have hx:(pickOrder (w.params.setOrder S ep) es)[es.size]?=none:=by simp; omega
  refine a6K (slot:=0) hh st.1 st.2 hf (λ E' Q' q'=>a2O st.2 hf hT (by rw [hx]; exact q')) λ h' b=>?_;exact hQ _ ⟨λ c o hc g=>b c o (by simpa using hc) g,rfl,rfl,rfl,aF _⟩
 self:=λ i s Q E st hQ=>a3I st.1 rfl hQ
end
section
variable {prog:Program} {w:World} {A:Around} {S I:Addr} {es:Array (Int×Value)} {ep:Nat} {t:SetTable}
def slA (xs:Array Nat):Nat->Nat
 | 0=>0
 | i+1=>xs.getD i 0+1
theorem a3a {xs:Array Nat} (R:Ris xs) {i:Nat} (hi:i<=xs.size):SetTable.below xs (slA xs i)=i:=by
 cases i with
 | zero=>exact a5D R
 | succ i=>exact a5q R hi
theorem a3f {n:Nat} (hf:t.fits n=true):t.place.size=n:=by
 unfold SetTable.fits at hf;simp at hf;exact hf.1
theorem a5v {L:Bool} (hh:A.handled=none) (hIS:I≠S) (hf:t.fits es.size=true) (hT:w.params.followText "set-order"=false) (hd:(!t.plain&&decide (es.size>1))=false) (T:TOk L t) (hl:t.led=true) :
  WalksS prog w A I [I,S] [I] (λ a b=>b=a) es.size (λ i v=>∃ e,es[i]?=some e/\v=e.2) (StT I S es ep t λ i=>rawInt (slA t.place i:Int)) where
 sub:=λ b hb=>by simp at hb; simp [hb]
 grefl:=λ _=>rfl
 gtrans:=λ _ _ _ h1 h2=>h2.trans h1
 frame:=λ i s h' tk st _ hk=>⟨hk I (by simp) _ st.1,hk S (by simp) _ st.2⟩
 item:=λ i s Q E hi st hQ=>by
  have sz:=a3f hf;have hx:es[i]?=some es[i]:=dP _;have hp:t.place[i]?=some (t.place.getD i 0):=by
   rw [eG,dP (by omega)]; rfl
  refine a4v (slot:=slA t.place i) (next:=slA t.place (i+1)) (x:=es[i].2) st.1 st.2 hf (λ E' Q' q'=>a1U st.2 hf hT hd hl (a3a T.ris (by omega)) (by rw [hx,hp]; exact q')) λ h' e b=>?_;exact hQ _ _ ⟨_,hx,rfl⟩ ⟨e,by show h'.get? S=_; rw [b.2 S (aO hIS)]; exact st.2⟩ ⟨λ c o hc g=>by show h'.get? c=_; rw [b.2 c (by simpa using hc)]; exact g,rfl,rfl,rfl,aF _⟩
 done:=λ s Q E st hQ=>by
  have sz:=a3f hf;have hx:es[es.size]?=none:=by simp
  refine a6K (slot:=slA t.place es.size) hh st.1 st.2 hf (λ E' Q' q'=>a1U st.2 hf hT hd hl (a3a T.ris (by omega)) (by rw [hx]; exact q')) λ h' b=>?_;exact hQ _ ⟨λ c o hc g=>b c o (by simpa using hc) g,rfl,rfl,rfl,aF _⟩
 self:=λ i s Q E st hQ=>a3I st.1 rfl hQ
def drO (es:Array (Int×Value)) (ord:List Nat):Array (Int×Value):=(ord.map λ k=>es.getD k (0,Value.none)).toArray
theorem a1W {ord:List Nat} (h:ord.Perm (aH es.size)):(drO es ord).toList.Perm es.toList:=by
 have:=h.map λ k=>es.getD k (0,Value.none);have e:(aH es.size).map (λ k=>es.getD k (0,Value.none))=es.toList:=by
  apply mO
  ·simp
  ·intro i h1 h2
   simp at h1;simp [h1,mP]
 rw [e] at this;exact this
theorem a5M {T:Addr} {ord:List Nat} (hh:A.handled=none) (hIS:I≠S) (hIT:I≠T) (hf:t.fits es.size=true) (ho:ord.Perm (aH es.size)) :
  WalksS prog w A I [I,S,T] [I] (λ a b=>b=a) es.size (λ i v=>∃ e,(drO es ord)[i]?=some e/\v=e.2) (λ i s=>StT I S es ep t (λ _=>.ref T) i s/\s.heap.get? T=some (seqObj "tuple" (ord.map λ (i:Nat)=>rawInt (i:Int)).toArray 0)) where
 sub:=λ b hb=>by simp at hb; simp [hb]
 grefl:=λ _=>rfl
 gtrans:=λ _ _ _ h1 h2=>h2.trans h1
 frame:=λ i s h' tk st _ hk=>⟨⟨hk I (by simp) _ st.1.1,hk S (by simp) _ st.1.2⟩,hk T (by simp) _ st.2⟩
 item:=λ i s Q E hi st hQ=>by
  have lo:ord.length=es.size:=by rw [ho.length_eq,cW]
  have hk:ord[i]'(by omega)<es.size:=by
   have:=ho.mem_iff.1 (cS (l:=ord) (n:=i) (by omega))
   simpa using this
  have hx:es[ord[i]'(by omega)]?=some es[ord[i]'(by omega)]:=dP _;have hd:(drO es ord)[i]?=some es[ord[i]'(by omega)]:=by
   unfold drO;rw [iM,aE,aD (by omega)];simp [mP,hk]
  refine a7W (k:=ord[i]'(by omega)) (hx:=es[ord[i]'(by omega)].1) (x:=es[ord[i]'(by omega)].2) st.1.1 st.2 st.1.2 hf ?_ hx λ h' e b=>?_
  ·rw [iM,aE,aD (by omega)]; rfl
  exact hQ _ _ ⟨_,hd,rfl⟩ ⟨⟨e,by show h'.get? S=_; rw [b.2 S (aO hIS)]; exact st.1.2⟩,by show h'.get? T=_; rw [b.2 T (aO hIT)]; exact st.2⟩ ⟨λ c o hc g=>by show h'.get? c=_; rw [b.2 c (by simpa using hc)]; exact g,rfl,rfl,rfl,aF _⟩
 done:=λ s Q E st hQ=>by
  have lo:ord.length=es.size:=by rw [ho.length_eq,cW]
  refine a2J hh st.1.1 st.2 st.1.2 hf ?_ λ h' b=>?_
  ·simp; omega
  exact hQ _ ⟨λ c o hc g=>b c o (by simpa using hc) g,rfl,rfl,rfl,aF _⟩
 self:=λ i s Q E st hQ=>a3I st.1.1 rfl hQ
end
section
variable {prog:Program} {w:World}
theorem a7w {A:Around} {E:Value->Shared->Prop} {s:Shared} {S:Addr} {es:Array (Int×Value)} {ep:Nat} {t:SetTable} {Q:Value->Shared->Prop} (hg:s.heap.get? S=some ⟨.type "set",none,.set es ep t,#[]⟩) (hf:t.fits es.size=true) (hz:es.size<scanBound)
  (q1:w.params.followText "set-order"=false->(!t.plain&&decide (es.size>1))=true->∀ (ord:List Nat) d,ord.Perm (aH es.size)->Q (.ref (s.heap.objs.size+1)) { s with heap:=(s.heap.push (seqObj "tuple" (ord.map λ (i:Nat)=>rawInt (i:Int)).toArray 0)).push (itO (.ref s.heap.objs.size) 0 S es.size ep),drawn:=d })
  (q2:(w.params.followText "set-order"=true\/(!t.plain&&decide (es.size>1))=false)->Q (.ref s.heap.objs.size) { s with heap:=s.heap.push (itO (rawInt 0) 0 S es.size ep) }) :
  wpAny (model prog w) A (Builtin.«frozenset.__iter__» { pos:=[Value.ref S] }) (λ fin s'=>∃ v,fin=.done (.ret v)/\Q v s') E s:=by
 unfold Builtin.«frozenset.__iter__» Builtin.Frozenset.slot0;refine wpAny_bind (wpAny_bind ?_);unfold slotArgs;rw [if_neg (by show ¬ (!true)=true; decide)];dsimp only;rw [if_neg (by show ¬ (0 != 0)=true; decide)];refine wpAny_pure ?_;unfold Builtin.Frozenset.addrOf;dsimp only;refine wpAny_pure ?_;refine wpAny_bind ?_;unfold Builtin.Frozenset.sizeOf setEntries;refine wpAny_bind (wpAny_bind (wpAny_setState_of hg rfl hf (wpAny_pure (wpAny_pure ?_))));refine wpAny_bind ?_;unfold setDrawn setsByText;refine wpAny_bind (wpAny_setState_of hg rfl hf ?_);dsimp only;refine wpAny_bind (wpAny_bind (wpAny_askSetting (wpAny_pure ?_)));refine wpAny_pure ?_;have bn:es.size<=sizeLine:=by
  have:scanBound<=sizeLine:=by decide
  omega
 split
 case isTrue c =>
  have c':(!w.params.followText "set-order"&&(!t.plain&&decide (es.size>1)))=true:=c;rw [dX] at c';refine wpAny_bind (a6u es.size (aH es.size) _ _ (by simp) λ ord d hp=>?_);have lo:ord.length=es.size:=by rw [hp.length_eq,cW]
  refine wpAny_bind (wpAny_newTuple ?_ (by rw [aA]; omega));refine wpAny_bind ?_;unfold setEpoch;refine wpAny_bind (wpAny_setState_of (es:=es) (ep:=ep) (t:=t) (Heap.get?_push_of_some _ hg) rfl hf (wpAny_pure ?_));refine wpAny_bind ?_;unfold newFields newObj;dsimp only;rw [if_neg (by show ¬ 5>sizeLine+2; decide)];unfold newObjAsIs;refine wpAny_bind (wpAny_alloc (wpAny_pure (wpAny_pure ?_)));have:=q1 (by simpa using c'.1) c'.2 ord d hp;rw [Heap.size_push] at *;exact ⟨_,rfl,this⟩
 case isFalse c =>
  have c':¬ (!w.params.followText "set-order"&&(!t.plain&&decide (es.size>1)))=true:=c;refine wpAny_bind (wpAny_pure ?_);refine wpAny_bind ?_;unfold setEpoch;refine wpAny_bind (wpAny_setState_of (es:=es) (ep:=ep) (t:=t) hg rfl hf (wpAny_pure ?_));refine wpAny_bind ?_;unfold newFields newObj;dsimp only;rw [if_neg (by show ¬ 5>sizeLine+2; decide)];unfold newObjAsIs;refine wpAny_bind (wpAny_alloc (wpAny_pure (wpAny_pure ?_)));refine ⟨_,rfl,q2 ?_⟩
  cases h1:w.params.followText "set-order" with
  | true=>exact .inl rfl
  | false =>
   rw [h1] at c';exact .inr (by simpa using c')
theorem a9x {A B:Around} {E:Value->Shared->Prop} {s:Shared} {S:Addr} {ks:List Int} {Q:Value->Shared->Prop} (hB:B.handled=none) (h:SI (a1K w) s.heap S ks)
  (q:∀ (I:Addr) (fp wr:List Addr) (St:Nat->Shared->Prop) (s':Shared) (os:Array (Int×Value)),I∈fp->(∀ b∈fp,b<s'.heap.objs.size)->(∀ b∈fp,b=S\/s.heap.objs.size<=b)->(∀ b∈wr,s.heap.objs.size<=b) →
   WalksS prog w B I fp wr (λ a b=>b=a) os.size (λ i v=>∃ e,os[i]?=some e/\v=e.2) St->St 0 s'->(∀ e∈os.toList,IsE e)->(os.toList.map a2H).Perm ks →
   (∀ b o,s.heap.get? b=some o->s'.heap.get? b=some o)->s'.gens=s.gens->s'.os=s.os->s'.toks=s.toks->Q (.ref I) s'):wpAny (model prog w) A (pyIter (.ref S)) Q E s:=by
 obtain ⟨es,ep,t,hg,hi,hp,hf,T⟩:=h.ex;have le:es.size=ks.length:=by have:=hp.length_eq; simpa using this
 have hS:S<s.heap.objs.size:=Heap.lt_size hg;refine wpAny_pyIter_slot (T:="set") ⟨_,hg,rfl⟩ F.slot_set_iter (wpAny_call_entry F.slot_set_iter ⟨_,hg,rfl⟩ a8q ?_ (b0A _));refine a7w hg hf (by rw [le]; exact h.few) (λ c1 c2 ord d ho=>?_) λ c=>?_
 ·have sz:(s.heap.push (seqObj "tuple" (ord.map λ (i:Nat)=>rawInt (i:Int)).toArray 0)).objs.size=s.heap.objs.size+1:=by rw [Heap.size_push]
  have g:((s.heap.push (seqObj "tuple" (ord.map λ (i:Nat)=>rawInt (i:Int)).toArray 0)).push (itO (.ref s.heap.objs.size) 0 S es.size ep)).get? (s.heap.push (seqObj "tuple" (ord.map λ (i:Nat)=>rawInt (i:Int)).toArray 0)).objs.size=some (itO (.ref s.heap.objs.size) 0 S es.size ep):=Heap.get?_push_size _ rfl;rw [sz] at g;have gT:(s.heap.push (seqObj "tuple" (ord.map λ (i:Nat)=>rawInt (i:Int)).toArray 0)).get? s.heap.objs.size=some (seqObj "tuple" (ord.map λ (i:Nat)=>rawInt (i:Int)).toArray 0):=Heap.get?_push_size _ rfl;have dz:(drO es ord).size=es.size:=by have:=(a1W ho).length_eq; simpa using this
  refine ⟨"set_iterator",_,⟨_,g,rfl⟩,V5,?_⟩;refine q _ [s.heap.objs.size+1,S,s.heap.objs.size] [s.heap.objs.size+1] (λ i s'=>StT (s.heap.objs.size+1) S es ep t (λ _=>.ref s.heap.objs.size) i s'/\s'.heap.get? s.heap.objs.size=some (seqObj "tuple" (ord.map λ (i:Nat)=>rawInt (i:Int)).toArray 0)) _ (drO es ord) (by simp) ?_ ?_ ?_ ?_ ⟨⟨g,?_⟩,?_⟩ ?_ ?_ ?_ rfl rfl rfl
  ·intro b hb
   show b<((s.heap.push _).push _).objs.size
   rw [Heap.size_push,Heap.size_push];simp at hb;rcases hb with rfl | rfl | rfl
   ·exact eH _
   ·exact dQ (dQ hS)
   ·exact dQ (eH _)
  ·intro b hb
   simp at hb;rcases hb with rfl | rfl | rfl
   ·exact .inr (fB _)
   ·exact .inl rfl
   ·exact .inr (aF _)
  ·intro b hb
   simp at hb;rw [hb];exact fB _
  ·rw [dz]
   exact a5M hB (cU (dQ hS)) (jD _) hf ho
  ·exact Heap.get?_push_of_some _ (Heap.get?_push_of_some _ hg)
  ·exact Heap.get?_push_of_some _ gT
  ·intro e he
   exact hi e ((a1W ho).mem_iff.1 he)
  ·exact ((a1W ho).map a2H).trans hp
  ·exact λ b o e=>Heap.get?_push_of_some _ (Heap.get?_push_of_some _ e)
 ·have g:(s.heap.push (itO (rawInt 0) 0 S es.size ep)).get? s.heap.objs.size=some (itO (rawInt 0) 0 S es.size ep):=Heap.get?_push_size _ rfl
  have fpl:∀ b∈[s.heap.objs.size,S],b<(s.heap.push (itO (rawInt 0) 0 S es.size ep)).objs.size:=by
   intro b hb;rw [Heap.size_push];simp at hb;rcases hb with rfl | rfl
   ·exact eH _
   ·exact dQ hS
  have fpo:∀ b∈[s.heap.objs.size,S],b=S\/s.heap.objs.size<=b:=by
   intro b hb;simp at hb;rcases hb with rfl | rfl
   ·exact .inr (aF _)
   ·exact .inl rfl
  refine ⟨"set_iterator",_,⟨_,g,rfl⟩,V5,?_⟩
  cases c1:w.params.followText "set-order" with
  | true =>
   have dz:(pickOrder (w.params.setOrder S ep) es).size=es.size:=by have:=(P7 (w.params.setOrder S ep) es).length_eq; simpa using this
   refine q _ [s.heap.objs.size,S] [s.heap.objs.size] (StT s.heap.objs.size S es ep t λ _=>rawInt ((0:Nat):Int)) _ (pickOrder (w.params.setOrder S ep) es) (by simp) fpl fpo (by simp) ?_ ⟨g,Heap.get?_push_of_some _ hg⟩ ?_ (((P7 _ _).map a2H).trans hp) (λ b o e=>Heap.get?_push_of_some _ e) rfl rfl rfl
   ·rw [dz]
    exact a8g hB (cU hS) hf c1
   ·exact λ e he=>hi e ((P7 _ _).mem_iff.1 he)
  | false =>
   have c2:(!t.plain&&decide (es.size>1))=false:=by
    rcases c with c | c
    ·rw [c1] at c; cases c
    ·exact c
   have ld:t.led=true:=by rw [T.led]; unfold a1K; rw [c1]; rfl
   exact q _ [s.heap.objs.size,S] [s.heap.objs.size] (StT s.heap.objs.size S es ep t λ i=>rawInt (slA t.place i:Int)) _ es (by simp) fpl fpo (by simp) (a5v hB (cU hS) hf c1 c2 T ld) ⟨g,Heap.get?_push_of_some _ hg⟩ hi hp (λ b o e=>Heap.get?_push_of_some _ e) rfl rfl rfl
end
section
variable {prog:Program} {w:World} {A:Around} {E:Value->Shared->Prop} {s:Shared} {S:Addr} {ks:List Int}
theorem SI.kept {L:Bool} {h h':Heap} (x:SI L h S ks) (k:∀ b o,h.get? b=some o->h'.get? b=some o):SI L h' S ks :=
 let ⟨es,ep,t,hg,r⟩:=x.ex
 ⟨⟨es,ep,t,k _ _ hg,r⟩,x.nd,x.few⟩
theorem a4W {Q:List Value->Shared->Prop} (hh:A.handled=none) (h:SI (a1K w) s.heap S ks)
  (q:∀ (s':Shared) (acc:Array Value) (os:Array (Int×Value)),ItemsOf (λ i v=>∃ e,os[i]?=some e/\v=e.2) acc os.size->(∀ e∈os.toList,IsE e)->(os.toList.map a2H).Perm ks →
   (∀ b o,s.heap.get? b=some o->s'.heap.get? b=some o)->s.heap.objs.size<s'.heap.objs.size->s'.gens=s.gens->s'.os=s.os->s.toks<=s'.toks->Q acc.toList s'):wpAny (model prog w) A (collect (.ref S)) Q E s:=by
 obtain ⟨es,ep,t,hg,_⟩:=h.ex;have hS:S<s.heap.objs.size:=Heap.lt_size hg;have hSS:s.heap.objs.size≠S:=cU hS;unfold collect;refine wpAny_bind (wpAny_runValue (codeAny_builtin F.entry_proto_collect ?_));rw [Around.under_plainId F.plain_proto_collect _]
 show wpAny _ A.in1 (newList [] >>= λ l=>again (.builtin "list.__iadd__" ⟨[l,.ref S],[]⟩)) _ _ s
 refine wpAny_bind (wpAny_newObj_type ?_);refine wpAny_pure ⟨plainId_quiet F.plain_list_iadd _,codeAny_builtin F.entry_list_iadd ?_⟩;rw [Around.under_plainId F.plain_list_iadd _];have hS₁:(s.heap.push { cls:=.type "list",data:=.seq ([]:List Value).toArray }).get? s.heap.objs.size=some { cls:=.type "list",data:=.seq ([]:List Value).toArray }:=Heap.get?_push_size _ rfl;have hg₁:=Heap.get?_push_of_some { cls:=.type "list",data:=.seq ([]:List Value).toArray } hg;have h1:Builtin.List.listSameRef (.ref s.heap.objs.size) (.ref S)=false:=by simp [Builtin.List.listSameRef,hSS]
 show wpAny _ A.in1 (Builtin.List.listExtendWith (.ref s.heap.objs.size) (.ref S) (.ref s.heap.objs.size)) _ _ _
 unfold Builtin.List.listExtendWith;refine wpAny_bind (wpAny_typeOf (T:="set") ⟨_,hg₁,rfl⟩ ?_);rw [if_neg (by rw [h1]; decide)];refine wpAny_bind (a9x (B:=A.in1) hh (h.kept λ b o e=>Heap.get?_push_of_some _ e) λ I fp wr St s' os i1 i2 i3 i4 W st ie ip ik ig io it=>?_);refine wpAny_bind (wpAny_holding ?_);unfold Builtin.List.listLengthHint;refine wpAny_bind (wpAny_specialOf (T:="set") ⟨_,ik _ _ hg₁,rfl⟩ F.slot_set_len.lookup ?_);generalize hid:("set.__len__":String)=id0
 wp_delta
 rw [show splitId id0=some ("set","__len__") from by subst hid; decide +kernel];subst hid;refine wpAny_bind (wpAny_isInstance (T:="set") (b:=true) ⟨_,ik _ _ hg₁,rfl⟩ (by rw [isSubtype_type]; kernel_rfl) ?_);rw [if_neg (by decide)];rw [if_pos (by decide +kernel)];refine wpAny_bind (wpAny_typeOf (T:="set") ⟨_,ik _ _ hg₁,rfl⟩ ?_);dsimp only;refine wpAny_pure ?_;rw [if_pos (by decide +kernel)];refine wpAny_bind (wpAny_rule ?_);have hSf:s.heap.objs.size ∉ fp:=λ hm=>by
  rcases i3 _ hm with c | c
  ·exact hSS c
  ·rw [Heap.size_push] at c
   exact bR _ c
 have hS₂:=ik _ _ hS₁;refine wpAny_bind ?_
 show wpAny _ A.in1 (updateSeq s.heap.objs.size (·.push .none) >>= λ _=>updateSeq s.heap.objs.size (·.pop)) _ _ _
 refine wpAny_bind (wpAny_updateSeq hS₂ rfl ?_);have hS₃:=Heap.get?_update_self (Obj.mapSeq (·.push Value.none)) hS₂ rfl;refine wpAny_updateSeq hS₃ rfl ?_;have hS₄:=Heap.get?_update_self (Obj.mapSeq (·.pop)) hS₃ rfl;have oth:∀ b o,b≠s.heap.objs.size->s'.heap.get? b=some o →
   ((s'.heap.update s.heap.objs.size (Obj.mapSeq (·.push Value.none))).update s.heap.objs.size (Obj.mapSeq (·.pop))).get? b=some o :=
  λ b o hb e=>(Heap.get?_update_other _ _ (aO hb)).trans ((Heap.get?_update_other _ _ (aO hb)).trans e)
 have hn:os.size<=sizeLine:=by
  have l1:os.size=ks.length:=by have:=ip.length_eq; simpa using this
  have:=h.few;have l2:scanBound<=sizeLine:=by decide
  omega
 refine wpAny_pure ⟨plainId_quiet F.plain_extend_loop _,codeAny_extend_loopS W hn _ hSf _ os.size 0 _ _ _ rfl (bW _)
  (W.frame 0 s' _ s'.toks st (aF _) λ b hb o e=>oth b o (λ h=>hSf (h ▸ hb)) e) hS₄ (ItemsOf.nil _) λ s'' acc' c' hm hS' hacc=>?_⟩
 show wpAny _ A (load s.heap.objs.size >>= _) _ _ s''
 refine wpAny_bind (wpAny_load hS' ?_);refine wpAny_pure (q s'' acc' os hacc ie ip (λ b o e=>?_) (Heap.lt_size hS') (hm.gens.trans ig) (hm.os.trans io) (bA (iR it.symm) hm.toks));have lb:b<s.heap.objs.size:=Heap.lt_size e;refine hm.heap b o (λ hmm=>?_) (oth b o (bD lb) (ik b o (Heap.get?_push_of_some _ e)));rcases aL.1 hmm with c | c
 ·exact bD lb c
 ·have:=i4 b c
  rw [Heap.size_push] at this;exact bR _ (lQ lb this)
end
section
variable {X:Cx}
theorem a6J:∀ {ns:List Int} {its:List Value},Vals (ns.map V.int) its->IntsAre its ns
 | [],_,h=>by cases h; exact .nil
 | n::ns,_,h=>by
  cases h with
  | cons r t =>
   obtain ⟨k,rfl⟩:=r;exact .cons n k (a6J t)
theorem a6O:∀ {ns:List Int} {its:List Value},IntsAre its ns->Vals (ns.map V.int) its
 | _,_,.nil=>.nil
 | _,_,.cons n t h=>.cons ⟨t,rfl⟩ (a6O h)
end
theorem a3i:∀ {l:List (Int×Value)},(∀ e∈l,IsE e)->IntsAre (l.map (·.2)) (l.map a2H)
 | [],_=>.nil
 | e::l,h=>by
  obtain ⟨i,t,rfl⟩:=h e (by simp);exact .cons i t (a3i λ e' he=>h e' (by simp [he]))
theorem a1V {acc:Array Value} {os:Array (Int×Value)} (h:ItemsOf (λ i v=>∃ e,os[i]?=some e/\v=e.2) acc os.size):acc.toList=os.toList.map (·.2):=by
 apply mO
 ·have:=h.1
  simpa using this
 ·intro i h1 h2
  obtain ⟨e,he,hv⟩:=h.2 i (acc.toList[i]) (by simp at h1; simp [h1]);simp at h2;rw [dP h2] at he
  cases he;rw [hv];simp
section
variable {prog:Program} {w:World} {A:Around} {E:Value->Shared->Prop} {s:Shared} {S:Addr} {ks:List Int}
theorem a6h {Q:Value->Shared->Prop} (hh:A.handled=none) (h:SI (a1K w) s.heap S ks) (h64:ks.length<64)
  (q:∀ (s':Shared) (l:Addr) (out:Array Value) (e:Nat) (ns':List Int),s.heap.objs.size<=l->s'.heap.get? l=some (seqObj "list" out e)->IntsAre out.toList ns'->ns'.Perm ks->ns'.Pairwise (·<=·) →
   (∀ b o,s.heap.get? b=some o->s'.heap.get? b=some o)->s'.gens=s.gens->s'.os=s.os->s.toks<=s'.toks->Q (.ref l) s') :
  wpAny (model prog w) A (call (.builtin "sorted") [.ref S]) Q E s:=by
 refine Calls.call_function_entry kind_sorted plain_sorted entry_sorted (args_sorted1 _) ?_;unfold Builtin.«sorted»;refine wpAny_bind (m:=checkCount "sorted" 1 1 _) (wpAny_pure ?_);refine wpAny_bind (a4W hh h λ s' acc os hi ie ip ik iz ig io it=>?_);have ia:IntsAre acc.toList (os.toList.map a2H):=by rw [a1V hi]; exact a3i ie
 have la:acc.toList.length=ks.length:=by
  rw [a1V hi,aA,<- ip.length_eq,aA]
 have ls:acc.toList.length<=sizeLine:=bA (cP (by omega)) (by decide:64<=sizeLine);refine wpAny_bind (wpAny_newList ?_ ls);have hoL:(s'.heap.push (seqObj "list" acc.toList.toArray 0)).get? s'.heap.objs.size=some (seqObj "list" acc.toList.toArray 0):=Heap.get?_push_size _ rfl
 show wpAny _ _ _ _ _ { s' with heap:=s'.heap.push (seqObj "list" acc.toList.toArray 0) }
 refine wpAny_bind (wpAny_holding (wpAny_call_entry slot_list_sort ⟨_,hoL,rfl⟩ entry_list_sort (list_sort_tree hoL ia (by omega) λ out ns' a1 a2 a3=>⟨_,rfl,?_⟩) (args_list_sort _)));obtain ⟨e,he⟩:=sortedHeap_at (out:=out) hoL;have kp:∀ b o,s.heap.get? b=some o->(sortedHeap (s'.heap.push (seqObj "list" acc.toList.toArray 0)) s'.heap.objs.size acc.toList out).get? b=some o:=λ b o g=>by
  have lb:b<s'.heap.objs.size:=Heap.lt_size (ik b o g);rw [sortedHeap_old (bD lb) (by rw [size_push']; exact dQ lb)];exact Heap.get?_push_of_some _ (ik b o g)
 have fin:=q { s' with heap:=sortedHeap (s'.heap.push (seqObj "list" acc.toList.toArray 0)) s'.heap.objs.size acc.toList out } s'.heap.objs.size out e ns' (cP iz) he a1 (a2.trans ip) a3 kp ig io it;exact wpAny_pure ⟨_,rfl,fin⟩
end
theorem a1M:∀ {vs:List Value} {ns:List Int},IntsAre vs ns->∀ (i:Nat) (v:Value),vs[i]?=some v->∃ t,v=Value.int (ns.getD i 0) t
 | _,_,.nil,i,v,h=>by simp at h
 | _,_,.cons n t h,0,v,e=>by
  simp at e;exact ⟨t,by rw [<- e]; rfl⟩
 | _,_,.cons n t h,i+1,v,e=>by
  rw [List.getElem?_cons_succ] at e
  simpa using a1M h i v e
section
variable {X:Cx}
theorem Inv.moved {pins:List (Addr×Obj)} {σ:List (Option V)} {H:Hp} {s s':Shared} (I:Inv X pins σ H s) (hh:s'.heap=s.heap) (hg:s'.gens=s.gens) (ho:s'.os=s.os):Inv X pins σ H s':=by
 refine ⟨I.ok,ho.trans I.os,by rw [hg]; exact I.bare,by rw [hh]; exact I.base,by rw [hh]; exact I.loc,by rw [hh]; exact I.cell,I.free,I.freeC,by rw [hh]; exact I.pin,by rw [hh]; exact I.hok,I.len⟩
def tSS (K:W.Frag) (ta:TA):TE:=λ σ H Q=>ta σ H λ vs H1=>∃ (p:Addr) (ns:List Int),vs=[.ref p]/\SqL K H1 p (ns.map V.int)/\ns.length<63/\∀ (l:Addr) (ns':List Int),H1 l=none->ns'.Nodup->(∀ k,k∈ns' ↔ k∈ns)->ns'.Pairwise (·<=·)->ns'.length<=ns.length->Q (.ref l) (upd H1 l (.lst (ns'.map V.int)))
theorem a3v {x y:Str} {p p' pos pos':Pos} {e:Expr} {t:TA} (hh:X.A.handled=none) (hx:Gl X x) (hmx:X.mg x=none) (hvx:bootBuiltins x=some (.builtin "sorted")) (hy:Gl X y) (hmy:X.mg y=none) (hvy:bootBuiltins y=some (.type "set")) (ha:PA X [e] t)
  (hn:x≠"__name__":=by decide) (hdb:(x==("__debug__":Str))=false:=by decide) (hn':y≠"__name__":=by decide) (hdb':(y==("__debug__":Str))=false:=by decide)
  (he:starEach [e] X.env=(false,eval e X.env)::starEach [] X.env:=by rfl) :
  PE X (.Call (.Name x p) [.Call (.Name y p') [e] [] pos'] [] pos) (tSS X.K t):=by
 intro pins s σ H Q I h;refine wpAny_Call_Name_kw (S5 I hx hmx hvx ?_ hn hdb);refine kA ?_ rfl rfl
 show wpAny _ _ (spliced ((false,eval (.Call (.Name y p') [e] [] pos') X.env)::backTo pos (starEach [] X.env))) _ _ s
 refine Calls.spliced_cons ?_;refine wpAny_Call_Name_kw (S5 I hy hmy hvy ?_ hn' hdb');refine fP (B6 (ha pos' pins s σ H _ I h) λ us s1 ⟨vs,H1,I1,r1,a,ns,ev,hq,hl,q⟩=>?_) he rfl;subst ev;obtain ⟨u,rfl,ru⟩:=N9 r1
 cases ru;obtain ⟨its,rv,pp,_⟩:=I1.list hq;have iv:=a6J rv;have li:its.length=ns.length:=by have:=rv.length; simpa using this.symm
 have sb:64<=scanBound:=by decide
 refine a9n (val:=λ i=>ns.getD i 0) hh pp.isList ?_ (by simp; omega) λ s2 k2 si g2 d2 o2 t2=>?_
 ·intro i v hv
  exact a1M iv i v (by simpa using hv)
 refine Calls.spliced_nil ?_;have ml:(X3 (λ i=>ns.getD i 0) its.toArray.size).length<64:=by
  have:=a0m (λ i=>ns.getD i 0) its.toArray.size;have z:its.toArray.size=its.length:=by simp
  omega
 refine a6h hh si ml λ s3 l out c ns' hle he3 hi hp hs k3 g3 o3 t3=>?_;obtain ⟨_,_,_,hgs,_⟩:=si.ex;have ge:s1.heap.objs.size<=l:=bA (cP (Heap.lt_size hgs)) hle;have lo:ns'.length<=sizeLine:=bA (by rw [hp.length_eq]; exact cP ml) (by decide:64<=sizeLine);have lle:ns'.length<=ns.length:=by
  have:=a0m (λ i=>ns.getD i 0) its.toArray.size;have z:its.toArray.size=its.length:=by simp
  rw [hp.length_eq]; omega
 have J:Inv X pins σ (upd H1 l (.lst (ns'.map V.int))) { s1 with heap:=s3.heap,toks:=s3.toks }:=I1.laid (o:=.lst (ns'.map V.int)) (t':=s3.toks) (λ b u e=>k3 b u (k2 b u e)) ge ⟨by simpa using lo,out.toList,c,a6O hi,by simpa using he3⟩;refine ⟨.ref l,_,J.moved rfl (g3.trans g2) (o3.trans o2),rfl,q l ns' (I1.hok.fresh ge) (hp.nodup_iff.2 si.nd) (λ k=>?_) hs lle⟩;rw [hp.mem_iff,a4n];have z:its.toArray.size=ns.length:=by simp [li]
 rw [z];constructor
 ·rintro ⟨j,hj,rfl⟩
  show ns.getD j 0∈ns
  rw [aG,aD hj];exact cS hj
 ·intro hk
  obtain ⟨j,hj,e⟩:=gU hk;refine ⟨j,hj,?_⟩
  show ns.getD j 0=k
  rw [aG,aD hj];exact e
end
end L2
namespace Rim
open PySem L2 Fr
section
variable {P:Program} {w:World} {K:W.Frag} {mg:Str->Option Value} {base:Heap} {f:Addr} {fd:FuncData} {n:Nat} {CN CM Pt:Addr}
abbrev b3N:List Str:=["script","book","due","cell","picks","numbers","house","more","found","prices","told","alike"]
theorem scLaw:r8 b3N ["script"] (i9 a1l):=⟨rfl,rfl,rfl,by decide +kernel,rfl,by decide +kernel,by decide +kernel⟩
theorem nd1:(["k","book"]:List Str).Nodup:=by decide +kernel
theorem nd2:(["pick","book"]:List Str).Nodup:=by decide +kernel
theorem nd3:(["k","more"]:List Str).Nodup:=by decide +kernel
theorem nd4:(["k","due","found"]:List Str).Nodup:=by decide +kernel
structure Calls (P:Program) (w:World) (K:W.Frag) (mg:Str->Option Value) (base:Heap) (n:Nat) (CN CM Pt:Addr) (a1 a2 a3 a4 a5 a6 a7 a8 a9 a10:Addr) (d1 d2 d3 d4 d5 d6 d7 d8 d9 d10:FuncData):Prop where
 ab:Cal P w K mg base n "_law_a_book" ["script","at","most","far"] (a7h K) a1 d1
 ca:Cal P w K mg base n "_law_cell_at" ["script","k"] (a3J K) a2 d2
 dr:Cal P w K mg base n "_law_draws" ["cell","many","base"] (a1w K) a3 d3
 sh:a5X P w K mg base n "share" ["book","number","sizes"] (a3u K CN Pt) a4 d4
 me:a5X P w K mg base n "merged" ["book","numbers"] (b2o K CN CM) a5 d5
 le:Cal P w K mg base n "_law_less" ["one","other"] (a3K K) a6 d6
 ro:SCal P w K mg base n "rim_of" ["book","sizes"] (a7m K Pt) a7 d7
 ss:a5X P w K mg base n "share_shown" ["book","number","sizes"] (a6V K CN Pt) a8 d8
 ju:SCal P w K mg base n "judged" ["book","prices"] (a4G K) a9 d9
 bw:SCal P w K mg base n "_law_a_between" ["found","numbers","last"] (a9U K) a10 d10
abbrev b5y (P:Program) (w:World) (K:W.Frag) (mg:Str->Option Value) (base:Heap) (f:Addr) (cdv:Value) (A:Around) (outer:List Env) (s:Shared) (H:Hp) (E:XK):Cx:=(J6 J7 P w K mg base b3N "law" (i9 a1l) f cdv A outer s H E).nox
variable {cdv:Value} {A:Around} {outer:List Env} {s:Shared} {H:Hp} {E:XK} {a1 a2 a3 a4 a5 a6 a7 a8 a9 a10:Addr} {d1 d2 d3 d4 d5 d6 d7 d8 d9 d10:FuncData}
noncomputable def b5V (T:A3 mg) (hset:mg "set"=none) (C:Calls P w K mg base n CN CM Pt a1 a2 a3 a4 a5 a6 a7 a8 a9 a10 d1 d2 d3 d4 d5 d6 d7 d8 d9 d10) (hr:Room n (A.deeper (dU "law" (i9 a1l) s.heap.objs.size f cdv))):{ t:TS // PSs (b5y P w K mg base f cdv A outer s H E) (v4 a1l) t } :=
 ⟨_,j0 (p6 (i:=1) scLaw.nd rfl (cI rfl) (m6 C.ab.ok hr rfl C.ab.m C.ab.k C.ab.b .nil u0 (c5 (pv 0) (c5 h8 (c5 h8 (c5 (j5 a3k h8 h8) c7))))))
  (r6 (p6 (i:=2) scLaw.nd rfl (cI rfl) (M8 ["k"] [1] rfl (J5 rfl T.range (c5 (m9 j9 rfl T.len bQ (c5 (pv 1) c7)) c7)) (λ _ _ _ _=>j3 (i:=0) nd1 rfl (aC rfl)) (λ _ _ _ _=>m6 (V6 C.sh.ok) hr rfl C.sh.m C.sh.k C.sh.b .nil Y7 (c5 (pv 1) (c5 (pv 0) (c5 R9 c7))))))
  (j0 (Y2 PassesOwn.never rfl (w8 (j5 C2 (u9 (c5 (m6 C.ca.ok hr rfl C.ca.m C.ca.k C.ca.b .nil u0 (c5 (pv 0) (c5 h8 c7))) c7)) (C8 G4 (pv 0) (B8 h8) (B8 h8)))) (j3 (i:=3) scLaw.nd rfl (aC rfl))
   (j0 (p6 (i:=4) scLaw.nd rfl (aC rfl) (m6 C.dr.ok hr rfl C.dr.m C.dr.k C.dr.b .nil u0 (c5 (pv 3) (c5 h8 (c5 h8 c7)))))
   (r6 (p6 (i:=5) scLaw.nd rfl (aC rfl) (a3v hr.hd rfl T.so oA rfl hset oB (c5 (M8 ["pick"] [1] rfl (w8 (C8 G4 (pv 4) (B8 h8) (B8 (j5 B9 h8 (j5 A2 (m8 j6 (pv 4) h8 (λ _ _=>rfl)) h8))))) (λ _ _ _ _=>j3 (i:=0) nd2 rfl (aC rfl)) (λ _ _ _ _=>j5 A2 (pv 0) (m9 (a8X K rfl) rfl T.len bQ (c5 (pv 1) c7)))) c7)))
   (r6 (p6 (i:=6) scLaw.nd rfl (aC rfl) (m8 j6 (m6 C.me.ok hr rfl C.me.m C.me.k C.me.b .nil Y7 (c5 (pv 1) (c5 (pv 5) c7))) (m8 j6 (pv 5) h8 (λ _ _=>rfl)) (λ _ _=>rfl)))
   (j0 (p6 (i:=7) scLaw.nd rfl (cI rfl) (j5 C2 (pv 1) (u9 (c5 (pv 6) c7))))
   (r6 (p6 (i:=8) scLaw.nd rfl (cI rfl) (M8 ["k"] [7] rfl (J5 rfl T.range (c5 (m9 j9 rfl T.len bQ (c5 (pv 7) c7)) c7)) (λ _ _ _ _=>j3 (i:=0) nd3 rfl (aC rfl)) (λ _ _ _ _=>m6 (V6 C.sh.ok) hr rfl C.sh.m C.sh.k C.sh.b .nil Y7 (c5 (pv 1) (c5 (pv 0) (c5 R9 c7))))))
   (r6 (E2 (PW.pt (a9B (r9 (Y8 hr) (C8 G4 (pv 8) O8 (B8 (K2 D6 h8))) (pv 2) (t9 _)) (a6a (r9 (Y8 hr) (m6 (V6 C.sh.ok) hr rfl C.sh.m C.sh.k C.sh.b .nil Y7 (c5 (j5 C2 (pv 7) (u9 (c5 (pv 6) c7))) (c5 (m9 j9 rfl T.len bQ (c5 (pv 1) c7)) (c5 R9 c7)))) (m8 j6 (pv 8) (K2 D6 h8) (λ _ _=>rfl)) (t9 _))))) U5 y6)
   (r6 (E2 (r9 (b2Y hr) (a3R ["k"] [2,8] rfl (w8 (pv 5)) (λ _ _ _ _=>j3 (i:=0) nd4 rfl (aC rfl)) (λ _ _ _ _=>a1Z (a2l (m6 C.le.ok hr rfl C.le.m C.le.k C.le.b .nil u0 (c5 (m8 (a0R K rfl) (pv 1) (pv 0) (λ _ _=>rfl)) (c5 (m8 (a0R K rfl) (pv 2) (K2 D6 h8) (λ _ _=>rfl)) c7))))) (λ _ _ _ _=>pv 0)) (u9 c7) (t9 _)) U5 y6)
   (r6 (E2 (r9 (Y8 hr) (a3R ["k"] [1] rfl (w8 (m6 C.ro.ok hr rfl C.ro.m C.ro.k C.ro.b .nil u0 (c5 (pv 7) (c5 R9 c7)))) (λ _ _ _ _=>j3 (i:=0) nd1 rfl (aC rfl)) (λ _ _ _ _=>r9 Z6 (pv 0) (m9 (a8X K rfl) rfl T.len bQ (c5 (pv 1) c7)) (t9 _)) (λ _ _ _ _=>pv 0)) (m6 C.ro.ok hr rfl C.ro.m C.ro.k C.ro.b .nil u0 (c5 (pv 1) (c5 R9 c7))) (t9 _)) U5 y6)
   (j0 (p6 (i:=9) scLaw.nd rfl (aC rfl) (m8 a0v (m6 C.ss.ok hr rfl C.ss.m C.ss.k C.ss.b .nil Y7 (c5 (pv 7) (c5 (m8 j6 (pv 5) h8 (λ _ _=>rfl)) (c5 R9 c7)))) h8 (λ _ _=>rfl)))
   (j0 (p6 (i:=10) scLaw.nd rfl (aC rfl) (m6 C.ju.ok hr rfl C.ju.m C.ju.k C.ju.b .nil u0 (c5 (pv 7) (c5 (pv 9) c7))))
   (r6 (E2 (PW.pt (a3Z (r9 (a7I hr) R0 (pv 10) rfl) (a1p (a1Z (a2l (m6 C.bw.ok hr rfl C.bw.m C.bw.k C.bw.b .nil u0 (c5 (pv 10) (c5 (pv 5) (c5 (m8 j6 (pv 10) (K2 D6 h8) (λ _ _=>rfl)) c7))))))))) U5 y6)
   (j0 (p6 (i:=11) scLaw.nd rfl (aC rfl) (m8 j6 (m6 C.me.ok hr rfl C.me.m C.me.k C.me.b .nil Y7 (c5 (j5 R8 (u9 (c5 (m8 j6 (pv 1) h8 (λ _ _=>rfl)) c7)) h8) (c5 (u9 (c5 h8 (c5 h8 c7))) c7))) h8 (λ _ _=>rfl)))
   (j8 (E2 (r9 (Y8 hr) (m6 (V6 C.sh.ok) hr rfl C.sh.m C.sh.k C.sh.b .nil Y7 (c5 (j5 C2 (pv 1) (u9 (c5 (pv 11) c7))) (c5 (m9 j9 rfl T.len bQ (c5 (pv 1) c7)) (c5 R9 c7)))) (m8 j6 (pv 2) h8 (λ _ _=>rfl)) (t9 _)) U5 y6)))))))))))))))
  (j8 (v5 b4N))))⟩
end
end Rim
namespace L2
open PySem
section
variable {K:W.Frag} {l:Addr} {fr:List Nat} {tc:TT} {σ:St} {H1:Hp} {p:Addr} {D:Hp->Prop} {xs:List V}
end
end L2
namespace Rim
open PySem L2 Fr
abbrev T8 (l:List Nat):List V:=l.map λ (k:Nat)=>V.int (k:Int)
section
variable {z:Str} {hs:List i7} {far:Int} {kt kg:Nat} {left:List Nat}
end
section
variable {P:Program} {w:World} {K:W.Frag} {mg:Str->Option Value} {base:Heap} {f Pt d:Addr} {fd:FuncData} {n:Nat} {C:Addr}
end
def Y1 (l:List Nat):PyData:=.list (l.map λ (k:Nat)=>.int (k:Int))
theorem a4C {K:W.Frag} {H:Hp}:∀ l:List Nat,Dps K H (T8 l) (l.map λ (k:Nat)=>.int (k:Int))
 | []=>.nil
 | k::r=>.cons (.int _) (a4C r)
theorem a3Q {K:W.Frag} {H:Hp} {a:Addr} {l:List Nat} (h:H a=some (.lst (T8 l))):Dp K H (.ref a) (Y1 l):=.lst (SqL.of h) (a4C l)
theorem a0a (l:List Nat):(Y1 l).canLay0=true:=by
 unfold Y1;rw [PyData.canLay0]
 induction l with
 | nil=>rw [eI,PyData.canLayAll0]
 | cons k r ih=>rw [aQ,PyData.canLayAll0,ih,PyData.canLay0]; rfl
theorem a1I (l:List Nat):(Y1 l).depth<=6:=by
 unfold Y1;have:∀ l:List Nat,PyData.depthAll (l.map λ (k:Nat)=>PyData.int (k:Int))<=3:=λ l=>by
  induction l with
  | nil=>simp [PyData.depthAll]
  | cons k r ih =>
   rw [aQ,PyData.depthAll];exact lZ.mpr ⟨by simp [PyData.depth],ih⟩
 rw [PyData.depth];have:=this l;omega
theorem a3W {l:List Nat}:PyData.eqv (Y1 l) (.list [])=l.isEmpty:=by
 unfold Y1;rw [PyData.eqv]
 cases l with
 | nil=>rw [eI,PyData.eqvAll]; rfl
 | cons a r=>rw [aQ,PyData.eqvAll] <;> first | rfl | simp
structure Sh7 (hs:List i7) (kt kg:Nat) (qs:List Q2):Prop where
 len:qs.length=hs.length
 at_:∀ (i:Nat) h q,hs[i]?=some h->qs[i]?=some q->∃ A B,ShU "any" hs h kt kg A B/\q=low A B
theorem a6G:∀ {ys:List V} {R:Nat->V->Q2->Prop},(∀ i y,ys[i]?=some y->∃ q,R i y q)->∃ qs:List Q2,qs.length=ys.length/\∀ (i:Nat) y q,ys[i]?=some y->qs[i]?=some q->R i y q
 | [],R,_=>⟨[],rfl,λ i y q h=>by simp at h⟩
 | y::r,R,h=>by
  obtain ⟨q,hq⟩:=h 0 y rfl;obtain ⟨qs,hl,hqs⟩:=a6G (ys:=r) (R:=λ i=>R (i+1)) λ i z hz=>h (i+1) z hz;refine ⟨q::qs,by simp [hl],λ i z p h1 h2=>?_⟩
  cases i with
  | zero=>cases h1; cases h2; exact hq
  | succ i=>exact hqs i z p h1 h2
section
variable {Pt:Addr}
theorem a9H {H:Hp} {te:TE} {fr:List Nat} {σ:St} {wl:Addr} {D:Hp->Prop} {kt kg:Nat} {hs:List i7} (LTH:LT Pt H) (h16:hs.length<=16) (hwl:H wl=none)
  (step:∀ (i:Nat) (H1:Hp) (N:VK),i<hs.length->Same1 Pt H H1->LT Pt H1->(∀ (h':i7) (A' B':Int) (v:V) (H3:Hp),hs[i]?=some h'->ShU "any" hs h' kt kg A' B'->Same1 Pt H1 H3->LT Pt H3->FrT H3 v (low A' B')->N v H3)->te ((blkσ 1 fr σ).set 0 (some (.int (i:Int)))) H1 N)
  (hd:∀ ys qs H1,Same1 Pt H H1->LT Pt H1->H1 wl=some (.lst ys)->bZ (FrT H1) ys qs->Sh7 hs kt kg qs->D H1):lcW 1 fr (K5 0) te σ (Itr 0 hs.length) H wl D:=by
 refine b0O (P:=Pt) (pos:=b0f) (qual:=b3Y) LTH hwl (j4 (by omega)) (λ i y H'=>∃ q h A B,(hs[i]?=some h/\ShU "any" hs h kt kg A B/\q=low A B)/\FrT H' y q) (λ i y H1 H2 L1 hz r k=>?_) (λ i H1 ys N' hi e1 L1 hp1 hN=>?_) (λ ys H1 e1 L1 hp1 len pr=>?_)
 ·obtain ⟨zs,hzs⟩:=hz
  obtain ⟨q,h,A,B,x,a,rfl,r⟩:=r;exact ⟨q,h,A,B,x,a,rfl,k _ _ (a1g r hzs nofun) (L1.ne r nofun) r⟩
 ·exact step i H1 N' hi e1 L1 λ h' A' B' v H3 hh X e3 L3 r=>hN v H3 e3 L3 ⟨_,h',A',B',⟨hh,X,rfl⟩,r⟩
 ·obtain ⟨qs,hl,hq⟩:=a6G (R:=λ i y q=>(∃ h A B,hs[i]?=some h/\ShU "any" hs h kt kg A B/\q=low A B)/\FrT H1 y q) λ i y e=>by
   obtain ⟨q,h,A,B,x,r⟩:=pr i y e;exact ⟨q,⟨h,A,B,x⟩,r⟩
  refine hd ys qs H1 e1 L1 hp1 (a0C hl.symm λ i y hy=>?_) ⟨by rw [hl,len],λ i h q hh hq'=>?_⟩
  ·have hil:i<qs.length:=by have:=(aY.mp hy).1; omega
   exact ⟨_,aD hil,(hq i y _ hy (aD hil)).2⟩
  ·have hil:i<ys.length:=by have:=(aY.mp hq').1; omega
   obtain ⟨⟨h',A,B,hh',X,e⟩,_⟩:=hq i _ q (aD hil) hq';rw [hh] at hh'; cases hh';exact ⟨A,B,X,e⟩
end
theorem a4x {α:Type} (l:List α):∀ k,k<=l.length->(aH k).filterMap (λ i=>l[i]?)=l.take k
 | 0,_=>by simp
 | k+1,h=>by
  rw [fK,jQ,a4x l k (by omega),jA]
  congr 1
theorem a8z {hs:List i7} {ns:List Int} {kt kg p:Nat} (hp:p<hs.length) (L:a2S ns (p:Int)):(b0U hs ns kt kg (p:Int))[p]?=some (mgH hs ns kt kg):=by
 unfold b0U;rw [aV,<- kY (p+1) (aH hs.length),List.take_range,fU (by omega),fT,jQ];have e1:(aH (p+1)).filter (X8 ns (p:Int))=aH (p+1):=List.filter_eq_self.mpr λ i hi=>by
  have:=dZ.mp hi;unfold X8
  by_cases c:i=p
  ·subst c; simp
  ·have:ns.contains (i:Int)=false:=by
    rw [fY];intro z;have:=L.le _ (List.contains_iff_mem.mp z);omega
   rw [this]; simp
 rw [e1,a4x _ _ (by rw [bY]; omega),bF (by rw [bX,bY]; omega),List.getElem?_take,if_pos (by omega),cO (by omega)]
theorem a2y {ns:List Int} {p q:Int} (a:a2S ns p) (b:a2S ns q):p=q:=Int.le_antisymm (a.le _ b.m) (b.le _ a.m)
structure Nums (m:Nat) (ns:List Int) (nz:List Nat) (p:Nat):Prop where
 e:ns=nz.map λ (k:Nat)=>(k:Int)
 lt:∀ k∈nz,k<m
 hd:nz[0]?=some p
 ls:a2S ns (p:Int)
 few:nz.length<=10
theorem b1r {m:Nat} {ns rs:List Int} (h1:∀ k,k∈ns ↔ k∈rs) (h2:ns.Pairwise (·<=·)) (h3:ns.length<=rs.length) (ne:rs≠[]) (few:rs.length<=10) (hr:∀ r∈rs,0<=r/\r<(m:Int)):∃ nz p,Nums m ns nz p:=by
 have e:ns=(ns.map iO).map λ (k:Nat)=>(k:Int):=by
  rw [aS];have:∀ x∈ns,((λ (k:Nat)=>(k:Int)) ∘ iO) x=id x:=λ x hx=>by
   have:=(hr x ((h1 x).mp hx)).1
   show ((x.toNat:Nat):Int)=x
   omega
  rw [cZ this,jO]
 cases ns with
 | nil =>
  obtain ⟨r,hr'⟩:=jR rs ne;exact absurd ((h1 r).mpr hr') (by simp)
 | cons a l =>
  have a0:=(hr a ((h1 a).mp (.head _))).1;refine ⟨_,a.toNat,e,λ k hk=>?_,rfl,⟨?_,λ x hx=>?_⟩,by rw [aA]; omega⟩
  ·obtain ⟨x,hx,rfl⟩:=aK.mp hk
   have:=hr x ((h1 x).mp hx);omega
  ·rw [gG a0]; exact .head _
  ·rw [gG a0]
   rcases aL.mp hx with rfl | hx
   ·exact bO _
   ·exact (List.pairwise_cons.mp h2).1 x hx
section
variable {hs:List i7} {ns:List Int} {nz:List Nat} {p kt kg:Nat} {far:Int}
theorem Nums.mem (N:Nums hs.length ns nz p) {g:i7} (hg:g∈P1 hs ns):∃ k∈nz,hs[k]?=some g:=by
 unfold P1 at hg;rw [N.e,aS] at hg;obtain ⟨k,hk,rfl⟩:=aK.mp hg;refine ⟨k,hk,?_⟩
 show hs[k]?=some (hs.getD (iO (k:Int)) ([],[]))
 rw [aV,aG,aD (N.lt k hk)]; rfl
theorem Nums.sub (N:Nums hs.length ns nz p):∀ g∈P1 hs ns,g∈hs:=λ g hg=>by
 obtain ⟨k,_,h⟩:=N.mem hg;exact aU h
theorem Nums.len (N:Nums hs.length ns nz p):(P1 hs ns).length=nz.length:=by unfold P1; rw [N.e,aA,aA]
theorem Nums.ne (N:Nums hs.length ns nz p):P1 hs ns≠[]:=λ z=>by
 have:=N.len;rw [z] at this;have:=(aY.mp N.hd).1;simp at *;omega
theorem Nums.pm (N:Nums hs.length ns nz p):p∈nz:=aU N.hd
end
theorem a1i {α β:Type} {R:α->β->Prop}:∀ {xs:List α} {ys:List β} {y:β},bZ R xs (ys++[y])->∃ us u,xs=us++[u]/\bZ R us ys/\R u y
 | _,[],_,.cons r .nil=>⟨[],_,rfl,.nil,r⟩
 | _,z::ys,_,.cons r t=>by
  obtain ⟨us,u,rfl,h1,h2⟩:=a1i t;exact ⟨_::us,u,rfl,.cons r h1,h2⟩
section
variable {hs:List i7} {m:i7} {kt kg:Nat} {far:Int} {qs fs:List Q2}
theorem a8W (sh:Sh7 hs kt kg qs) (shm:Sh7 (hs++[m]) kt kg fs) (D:Dom "any" (hs++[m]) hs kt kg) (hG:∀ g∈hs,HG far kt kg g):∃ q,fs=qs++[q]/\∃ A B,ShU "any" (hs++[m]) m kt kg A B/\q=low A B:=by
 have fl:fs.length=hs.length+1:=by rw [shm.len]; simp
 have ql:=sh.len;have hq:hs.length<fs.length:=by omega
 refine ⟨fs[hs.length],?_,shm.at_ hs.length m _ (by rw [bU (aF _),eD]; rfl) (aD hq)⟩;refine cC λ i=>?_
 by_cases c:i<hs.length
 ·rw [bF (by omega)]
  obtain ⟨A,B,X,e1⟩:=shm.at_ i hs[i] fs[i] (by rw [bF c]; exact aD c) (aD (by omega));obtain ⟨A',B',Y,e2⟩:=sh.at_ i hs[i] qs[i] (aD c) (aD (by omega));rw [aD (show i<fs.length by omega),aD (show i<qs.length by omega),e1,e2,Y.fr szA (X.s.dom D λ g hg=>cQ _ hg) hG (hG _ (cS c))]
 ·rw [bU (by omega)]
  by_cases c2:i=hs.length
  ·subst c2
   rw [aD hq,ql,eD]; rfl
  ·rw [aW (by omega),aW (by simp; omega)]
end
theorem b1g {ns:List Int} {nz:List Nat} (h:ns=nz.map λ (k:Nat)=>(k:Int)):ns.map V.int=T8 nz:=by rw [h,aS]; rfl
theorem a4V {nz:List Nat}:∀ {ys:List V},(∀ y∈ys,y∈T8 nz)->∃ l,ys=T8 l
 | [],_=>⟨[],rfl⟩
 | y::r,h=>by
  obtain ⟨k,_,e⟩:=aK.mp (h y (.head _));obtain ⟨l,rfl⟩:=a4V (ys:=r) λ z hz=>h z (.tail _ hz);exact ⟨k::l,by rw [<- e]; rfl⟩
def ltV (m:Nat):V->Bool
 | .int k=>decide (k<(m:Int))
 | _=>false
theorem a2q (m:Nat):∀ l:List Nat,(T8 l).filter (ltV m)=T8 (l.filter λ k=>decide (k<m))
 | []=>rfl
 | k::r=>by
  show (V.int (k:Int)::T8 r).filter (ltV m)=_
  rw [mQ,mQ,a2q m r];have:ltV m (V.int (k:Int))=decide (k<m):=decide_eq_decide.mpr (by omega);rw [this]
  split <;> rfl
theorem a4l {α β:Type} {f:α->Option β}:∀ {l:List α},(∀ x∈l,f x≠none)->∃ qs:List β,l.map f=qs.map some
 | [],_=>⟨[],rfl⟩
 | x::r,h=>by
  obtain ⟨qs,e⟩:=a4l (l:=r) λ y hy=>h y (.tail _ hy)
  cases c:f x with
  | none=>exact absurd c (h x (.head _))
  | some q=>exact ⟨q::qs,by rw [aQ,e,c]; rfl⟩
theorem a8A {H:Hp}:∀ {ys:List V} {qs:List Q2},bZ (JV H) ys (qs.map some)->bZ (FrT H) ys qs
 | _,[],.nil=>.nil
 | _,_::_,.cons r t=>.cons r (a8A t)
theorem b2f {K:W.Frag} {H:Hp}:∀ {ys:List V} {js:List (Option Q2)},bZ (JV H) ys js->Dps K H ys (js.map dJ)
 | _,_,.nil=>.nil
 | _,_,.cons r t=>.cons r.dp (b2f t)
theorem b3g (js:List (Option Q2)):PyData.canLayAll0 (js.map dJ)=true:=by
 induction js with
 | nil=>rw [eI,PyData.canLayAll0]
 | cons x l ih=>rw [aQ,PyData.canLayAll0,b3T,ih]; rfl
theorem a8H {js:List (Option Q2)} (h:(!(js.map dJ).any λ e=>PyData.eqv e .none)=true):∀ x∈js,x≠none:=λ x hx e=>by
 subst e;have:(js.map dJ).any (λ e=>PyData.eqv e .none)=true:=List.any_eq_true.mpr ⟨_,aK.mpr ⟨_,hx,rfl⟩,rfl⟩;rw [this] at h
 cases h
theorem b2P {z:Str} {hs:List i7} {h:i7} {S:Lp.Bo} {kt kg:Nat} {ws:List Int} (T:b4R z hs h S kt kg ws):Px z hs kt kg (ptA h (p7 (mE hs) (qE z h) S)) (pgA h (p7 (mE hs) (qE z h) S)) (psA z h (p7 (mE hs) (qE z h) S)) :=
 ⟨T.pr.lt,T.pr.lg,λ x hx=>(T.pr.bt x hx).1,λ x hx=>(T.pr.bg x hx).1,T.sign,T.fair⟩
theorem a9c {ns:List Int} {lo hi:Option Int} {x:V} (h:x∈A7 (ns.map V.int) lo hi):∃ k,x=.int k:=by
 unfold A7 at h;obtain ⟨k,_,rfl⟩:=aK.mp (fL (gK h));exact ⟨k,rfl⟩
theorem b4V {ds:List Int} {j:Nat} (h:j<ds.length):S8 (ds.map V.int) (j:Int)=some (.int (ds.getD j 0)):=v8 (by rw [aE,aG,aD h]; rfl)
def b4P (m:Nat):V->V
 | .int k=>.int (k % (m:Int))
 | v=>v
theorem b1w (m:Nat) (ps:List Int):(ps.map V.int).map (b4P m)=(ps.map λ k=>k % (m:Int)).map V.int:=by rw [aS,aS]; rfl
section
variable {P:Program} {w:World} {K:W.Frag} {mg:Str->Option Value} {base:Heap} {f:Addr} {fd:FuncData} {n:Nat} {CN CM Pt:Addr}
def a7g (K:W.Frag) (Pt:Addr):Sp:=λ vs H Q _=>∃ (a:Addr) (ns:List Int),vs=[.ref a]/\SqL K H a (ns.map V.int)/\ns.length<=63/\LT Pt H/\∀ H',Q (.bl true) H'
theorem b3n {a1 a2 a3 a4 a5 a6 a7 a8 a9 a10:Addr} {d1 d2 d3 d4 d5 d6 d7 d8 d9 d10:FuncData} (F:Fun K "law" "law" a1l f fd) (T:A3 mg) (hset:mg "set"=none) (C:Calls P w K mg base n CN CM Pt a1 a2 a3 a4 a5 a6 a7 a8 a9 a10 d1 d2 d3 d4 d5 d6 d7 d8 d9 d10) :
  FnOk P w K mg base J7 (n+1) f fd ["script"] (a7g K Pt):=by
 refine F.ok scLaw (λ vs H Q E h=>?_) (λ cdv A outer s H vs Q E hr h=>?_)
 ·obtain ⟨a,ns,rfl,_⟩:=h
  rfl
 obtain ⟨a,ns,rfl,hS,h63,L,q⟩:=h;refine ⟨_,(b5V T hset C hr).2,?_⟩;refine ⟨_,rfl,_,_,rfl,rfl,⟨by decide,by decide,by decide⟩,a,ns,0,8,_,rfl,hS,by decide,by decide,by decide,by decide,λ bl G1 xs hs kt kg e1 hbl1 hB1 hn1 hn8 kt1 kt4 kg1 kg4 hG=>?_⟩;have xl:xs.length=hs.length:=Paired.length hB1;have small:=j4 (show (1000:Nat)<=1000 from aF _);have L1:=L.same e1;have hS1:=e1.seq hS;have hG9:∀ g∈hs,HG (10 ^ 9) kt kg g:=λ g hg=>(hG g hg).up (by decide);have hk:∀ g∈hs,g.1.length=kt/\g.2.length=kg:=λ g hg=>⟨(hG g hg).lt,(hG g hg).lg⟩;refine ⟨λ σ' H'=>∃ (dl:Addr) (dv:List V) (qs:List Q2),σ'=[some (.ref a),some (.ref bl),some (.ref dl),none,none,none,none,none,none,none,none,none]/\Same1 Pt G1 H'/\LT Pt H'/\H' dl=some (.lst dv)/\bZ (FrT H') dv qs/\Sh7 hs kt kg qs,?_,?_⟩
 ·refine ⟨_,rfl,bl,_,rfl,.inl (SqL.of hbl1),_,rfl,by omega,by omega,λ l1 hl1=>?_⟩
  rw [xl,aV];refine a9H (kt:=kt) (kg:=kg) (hs:=hs) L1 (by omega) hl1 (λ i H2 N hi e2 L2 hN=>?_) (λ ys qs H2 e2 L2 hp2 pq sh=>⟨l1,ys,qs,rfl,e2,L2,hp2,pq,sh⟩);have bin:P4 K H2 bl xs hs (10 ^ 9) kt kg:=⟨SqL.of (e2.get L1 hbl1 nofun),Bk.same1 L1 e2 hB1,hG9,by decide,by omega,by omega,by omega⟩;refine ⟨_,rfl,_,rfl,bl,xs,hs,(i:Int),"any",10 ^ 9,kt,kg,rfl,szA,bin,kt1,W7 (by omega),L2,λ i' h' A' B' H7 u' hi' hh' X' e7 L7 hu'=>?_,λ bad=>absurd ⟨by omega,by omega⟩ bad⟩;have:i'=i:=by omega
  subst this;exact hN h' A' B' _ _ hh' X' e7 L7 hu'
 intro σ2 G2 hM_; refine C9 λ G_ hG_=>?_; obtain ⟨dl,dv,qs,rfl,e2,L2,hdl2,pq2,sh⟩:=hM_; subst hG_;have hbl2:=e2.get L1 hbl1 nofun;have hB2:=Bk.same1 L1 e2 hB1;have hS2:SqL K G2 a (ns.map V.int):=SqL.same1 L1 e2 hS1;refine ⟨_,rfl,a,ns,2,rfl,hS2,by decide,λ c0=>?_⟩;refine ⟨(by show 1<=sizeLine; decide),λ l1 hl1=>?_⟩;have v1:=Same.new hl1 (.lst [V.int c0]);refine ⟨_,rfl,_,rfl,_,rfl,a,_,rfl,v1.seq hS2,λ l2 hl2=>?_⟩;have v2:=Same.new hl2 (.lst (A7 (ns.map V.int) (some 3) (some 6)));have clen:(A7 (ns.map V.int) (some 3) (some 6)).length<=63:=bA (a0Z _ _ _) (by rw [aA]; exact h63);refine ⟨l1,l2,_,_,rfl,rfl,v2 _ _ upd_same,upd_same,cP (j4 (by simp only [cV,dO]; omega)),λ l3 hl3=>?_⟩;have v3:=Same.new hl3 (.lst ([V.int c0]++A7 (ns.map V.int) (some 3) (some 6)));have v13:=v1.trans (v2.trans v3);have hbl:=v13 _ _ hbl2;have hB:=Bk.same v13 hB2;have hdl:=v13 _ _ hdl2;have pq:bZ (FrT _) dv qs:=Paired.imp' (λ _ _ r=>FrT.same v13 r) pq2;have L':=L2.same v13;have hl3':(upd (upd (upd G2 l1 (.lst [V.int c0])) l2 (.lst (A7 (ns.map V.int) (some 3) (some 6)))) l3 (.lst ([V.int c0]++A7 (ns.map V.int) (some 3) (some 6)))) l3=some (.lst ([V.int c0]++A7 (ns.map V.int) (some 3) (some 6))):=upd_same;generalize upd (upd (upd G2 l1 (.lst [V.int c0])) l2 (.lst (A7 (ns.map V.int) (some 3) (some 6)))) l3 (.lst ([V.int c0]++A7 (ns.map V.int) (some 3) (some 6)))=G at *;have cint:∀ x∈[V.int c0]++A7 (ns.map V.int) (some 3) (some 6),∃ k,x=.int k:=λ x hx=>by
  rcases aT.mp hx with q' | q'
  ·exact ⟨c0,bH.mp q'⟩
  ·exact a9c q'
 generalize [V.int c0]++A7 (ns.map V.int) (some 3) (some 6)=cs at *;refine ⟨l3,rfl,⟨_,SqL.of hl3'⟩,?_⟩;refine a4m (xs:=cs) (λ i σ H'=>∃ o3 o4 o5 o6 o7 o8 o9 o10 o11,σ=[some (.ref a),some (.ref bl),some (.ref dl),o3,o4,o5,o6,o7,o8,o9,o10,o11]/\Same1 Pt G H'/\LT Pt H')
  ⟨_,_,_,_,_,_,_,_,_,rfl,Same1.refl,L'⟩ (λ i σ H' _ ⟨_,_,_,_,_,_,_,_,_,_,e,_⟩=>SqL.of (e.get L' hl3' nofun)) ?_ ?_
 rotate_left
 ·intro σ H4 _
  exact q _
 rintro ci cv σ H2 hcv ⟨o3,o4,o5,o6,o7,o8,o9,o10,o11,rfl,e2',L2'⟩;obtain ⟨ck,rfl⟩:=cint _ (aU hcv);have get0:∀ {H':Hp},Same1 Pt G H'->H' bl=some (.lst xs):=λ e=>e.get L' hbl nofun;have bk0:∀ {H':Hp},Same1 Pt G H'->Bk K H' xs hs:=λ e=>Bk.same1 L' e hB;have bin:∀ {H':Hp},Same1 Pt G H'->P4 K H' bl xs hs (10 ^ 9) kt kg:=λ e=>⟨SqL.of (get0 e),bk0 e,hG9,by decide,by omega,by omega,by omega⟩;have getd:∀ {H':Hp},Same1 Pt G H'->H' dl=some (.lst dv):=λ e=>e.get L' hdl nofun;have pqs:∀ {H':Hp},Same1 Pt G H'->bZ (FrT H') dv qs:=λ e=>Paired.imp' (λ _ _ r=>FrT.to1 L' e r) pq
 clear hbl1 hB1 hS1 hS2 hbl2 hB2 hdl2 pq2 v1 v2 v3 v13 hl1 hl2 hl3
 refine ⟨_,rfl,ck,10,1000,rfl,by decide,by decide,by decide,λ pl H3 ds e3 hpl ld bd=>?_⟩;have e03:=e2'.trans e3.to1;have L3:=L2'.same e3;refine ⟨λ σ' H'=>∃ (nl:Addr) (nz:List Nat) (p:Nat) (ns:List Int),σ'=[some (.ref a),some (.ref bl),some (.ref dl),some (.int ck),some (.ref pl),some (.ref nl),o6,o7,o8,o9,o10,o11]/\Same H3 H'/\H' nl=some (.lst (ns.map V.int))/\Nums hs.length ns nz p,?_,?_⟩
 ·refine ⟨_,rfl,_,rfl,_,rfl,pl,_,_,_,rfl,rfl,SqL.of hpl,b4V (j:=0) (by omega),_,_,rfl,rfl,(by show (0:Int)<6; decide),_,_,rfl,rfl,?_⟩
  obtain ⟨c6,hc6,c61,c67⟩:∃ c:Nat,2+ds.getD 0 0 % 6=(c:Int)/\2<=c/\c<=7:=⟨(2+ds.getD 0 0 % 6).toNat,by omega,by omega,by omega⟩;refine ⟨_,rfl,pl,_,rfl,SqL.of hpl,λ l4 hl4=>?_⟩;rw [show (2:Int)+ds.getD 0 0 % 6=(c6:Int) from hc6,show (1:Int)=((1:Nat):Int) from rfl,a6Z _ 1 c6 (by omega) (by rw [aA]; omega),<- iE,<- fZ];obtain ⟨ps,hps⟩:∃ ps,ps=(ds.drop 1).take (c6 - 1):=⟨_,rfl⟩;have psl:ps.length=c6 - 1:=by rw [hps,bX,dL]; omega
  rw [<- hps];have s4:=Same.new hl4 (.lst (ps.map V.int));refine ⟨l4,rfl,⟨_,SqL.of upd_same⟩,λ l5 hl5=>?_⟩;refine U1 (xs:=ps.map V.int) (t8 (SqL.of upd_same)) hl5 (by rw [aA]; exact j4 (by omega)) (b4P hs.length) (λ i x H5 N hx e5 hN=>?_) ?_
  ·obtain ⟨k,rfl,_⟩:=b2g hx
   exact ⟨Wk.set (by decide),_,rfl,_,rfl,bl,_,rfl,.inl (SqL.of (get0 (e03.trans (s4.trans e5).to1))),_,_,rfl,rfl,(by show (0:Int)<(xs.length:Int); omega),by rw [xl]; exact hN⟩
  ·rw [b1w]
   have s5:=Same.new hl5 (.lst ((ps.map λ k=>k % (hs.length:Int)).map V.int));refine ⟨l5,_,rfl,SqL.of upd_same,by rw [aA]; omega,λ nl ns' hnl _ hm hpw hle=>?_⟩;obtain ⟨nz,p,N⟩:=b1r (m:=hs.length) hm hpw hle (λ z=>by have:=congrArg fD z; rw [aA,dO] at this; omega) (by rw [aA]; omega) λ r hr=>by
    obtain ⟨k,_,rfl⟩:=aK.mp hr;exact ⟨Int.emod_nonneg _ (by omega),cX _ (by omega)⟩
   exact ⟨nl,nz,p,ns',rfl,s4.trans (s5.trans (Same.new hnl _)),upd_same,N⟩
 intro σ4 H4 hM_; refine C9 λ G_ hG_=>?_; obtain ⟨nl,nz,p,ns',rfl,e4,hnl4,NN⟩:=hM_; subst hG_;have e04:=e03.trans e4.to1;have L4:=L3.same e4;have pm:=NN.pm;have plt:p<hs.length:=NN.lt p pm;have S:=a5c hs ns' kt kg;have hL:∀ g∈P1 hs ns',HG (10 ^ 7) kt kg g:=λ g hg=>hG g (NN.sub g hg);have few:=NN.few;have gm:HG (10 ^ 9) kt kg (mgH hs ns' kt kg):=S.good hL NN.ne (by rw [NN.len]; omega);have nsl:ns'.length=nz.length:=by rw [NN.e,aA]
 have nz1:0<nz.length:=(aY.mp NN.hd).1;have goodn:∀ m∈ns',a1m xs.length m:=λ m hm=>by
  rw [NN.e] at hm;obtain ⟨k,hk',rfl⟩:=aK.mp hm;have:=NN.lt k hk';exact ⟨by omega,by omega⟩
 have n0:S8 (ns'.map V.int) 0=some (.int (p:Int)):=v8 (j:=0) (by rw [NN.e,aS,aE,NN.hd]; rfl);refine ⟨λ σ' H'=>∃ (hv:V),σ'=[some (.ref a),some (.ref bl),some (.ref dl),some (.int ck),some (.ref pl),some (.ref nl),some hv,o7,o8,o9,o10,o11]/\Same H4 H'/\HS K H' hv (mgH hs ns' kt kg),?_,?_⟩
 ·refine ⟨_,rfl,_,rfl,bl,nl,xs,hs,ns',10 ^ 9,kt,kg,rfl,bin e04,kt1,kg1,SqL.of hnl4,by omega,by omega,λ m hm=>?_,λ H' e bad=>?_,λ H' e _ bad=>?_,λ r ys pl' H5 e5 hr0 _ _ hls hr5 hBk=>?_⟩
  ·have:=goodn m hm
   obtain ⟨k,rfl⟩:=jL this.1;exact W7 (by have:=this.2; omega)
  ·obtain ⟨m,hm,ng⟩:=bad
   exact absurd (goodn m hm) ng
  ·obtain ⟨v,hv,gt⟩:=bad
   have le:v<=10 ^ 9:=by
    rcases aT.mp hv with z | z
    ·exact (gm.t v z).2
    ·exact (gm.g v z).2
   omega
  ·have:=a2y hls NN.ls
   subst this;have ma:=a8z (kt:=kt) (kg:=kg) plt NN.ls;have yl:p<ys.length:=by rw [Paired.length hBk]; exact (aY.mp ma).1
   obtain ⟨m',hm',hHS⟩:=Paired.at hBk (aD yl);rw [ma] at hm'; cases hm';exact ⟨_,rfl,nl,_,_,_,rfl,rfl,SqL.of (e5 _ _ hnl4),n0,r,_,_,_,rfl,rfl,SqL.of hr5,v8 (aD yl),_,rfl,e5,hHS⟩
 intro σ5 H5 hM_; refine C9 λ G_ hG_=>?_; obtain ⟨hv,rfl,e5,hHS5⟩:=hM_; subst hG_;have e05:=e04.trans e5.to1;have L5:=L4.same e5;have hnl5:=e5 _ _ hnl4;refine ⟨_,rfl,_,rfl,(by show 1<=sizeLine; decide),λ m1 hm1=>?_⟩;have t1:=Same.new hm1 (.lst [hv]);refine ⟨bl,m1,_,_,rfl,rfl,t1 _ _ (get0 e05),upd_same,cP (j4 (by simp only [cV,dO]; omega)),λ ml hml=>?_⟩;have t2:=Same.new hml (.lst (xs++[hv]));have t12:=t1.trans t2;have e06:=e05.trans t12.to1;have L6:=L5.same t12;have hnl6:=t12 _ _ hnl5;have hHS6:=hHS5.same t12;have hml6:(upd (upd H5 m1 (.lst [hv])) ml (.lst (xs++[hv]))) ml=some (.lst (xs++[hv])):=upd_same;generalize upd (upd H5 m1 (.lst [hv])) ml (.lst (xs++[hv]))=H6 at *;obtain ⟨mh,hmh⟩:∃ mh,mh=mgH hs ns' kt kg:=⟨_,rfl⟩;rw [<- hmh] at S gm hHS6;have hGm:∀ g∈hs++[mh],HG (10 ^ 9) kt kg g:=λ g hg=>by
  rcases aT.mp hg with z | z
  ·exact hG9 g z
  ·rw [bH.mp z]; exact gm
 have hkm:∀ g∈hs++[mh],g.1.length=kt/\g.2.length=kg:=λ g hg=>⟨(hGm g hg).lt,(hGm g hg).lg⟩;have mlen:(hs++[mh]).length=hs.length+1:=by simp
 have getm:∀ {H':Hp},Same1 Pt H6 H'->H' ml=some (.lst (xs++[hv])):=λ e=>e.get L6 hml6 nofun;have bkm:∀ {H':Hp},Same1 Pt H6 H'->Bk K H' (xs++[hv]) (hs++[mh]):=λ e=>Paired.app (bk0 (e06.trans e)) (.cons (HS.same1 L6 e hHS6) .nil);have binm:∀ {H':Hp},Same1 Pt H6 H'->P4 K H' ml (xs++[hv]) (hs++[mh]) (10 ^ 9) kt kg:=λ e=>⟨SqL.of (getm e),bkm e,hGm,by decide,by omega,by omega,by omega⟩;have D:=S.dom NN.sub;have inm:∀ g∈hs,g∈hs++[mh]:=λ g hg=>cQ _ hg;have hlast:(hs++[mh])[hs.length]?=some mh:=by rw [bU (aF _),eD]; rfl
 refine ⟨λ σ' H'=>∃ (fl:Addr) (fv:List V) (fs:List Q2),σ'=[some (.ref a),some (.ref bl),some (.ref dl),some (.int ck),some (.ref pl),some (.ref nl),some hv,some (.ref ml),some (.ref fl),o9,o10,o11]/\Same1 Pt H6 H'/\LT Pt H'/\H' fl=some (.lst fv)/\bZ (FrT H') fv fs/\Sh7 (hs++[mh]) kt kg fs,?_,?_⟩
 ·refine ⟨_,rfl,ml,_,rfl,.inl (SqL.of hml6),_,rfl,by omega,by rw [aJ,cY]; omega,λ l1 hl1=>?_⟩
  rw [show (xs++[hv]).length=(hs++[mh]).length by simp [xl],aV];refine a9H (kt:=kt) (kg:=kg) (hs:=hs++[mh]) L6 (by omega) hl1 (λ i H7 N hi e7 L7 hN=>?_) (λ ys qs H7 e7 L7 hp7 pq7 sh7=>⟨l1,ys,qs,rfl,e7,L7,hp7,pq7,sh7⟩);refine ⟨_,rfl,_,rfl,ml,_,_,(i:Int),"any",10 ^ 9,kt,kg,rfl,szA,binm e7,kt1,W7 (by omega),L7,λ i' h' A' B' H8 u' hi' hh' X' e8 L8 hu'=>?_,λ bad=>absurd ⟨by omega,by rw [aJ]; simp; omega⟩ bad⟩;have:i'=i:=by omega
  subst this;exact hN h' A' B' _ _ hh' X' e8 L8 hu'
 intro σ7 H7 hM_; refine C9 λ G_ hG_=>?_; obtain ⟨fl,fv,fs,rfl,e7,L7,hfl7,pf7,shm⟩:=hM_; subst hG_;have e07:=e06.trans e7;obtain ⟨ql,rfl,Am,Bm,Xm,eqm⟩:=a8W sh shm D hG9;obtain ⟨fi,vl,rfl,pfi,hvl⟩:=a1i pf7;have fil:fi.length=qs.length:=Paired.length pfi;have qsl:=sh.len;refine ⟨λ σ' H'=>σ'=[some (.ref a),some (.ref bl),some (.ref dl),some (.int ck),some (.ref pl),some (.ref nl),some hv,some (.ref ml),some (.ref fl),o9,o10,o11]/\Same1 Pt H7 H'/\LT Pt H',?_,?_⟩
 ·refine ⟨_,rfl,_,rfl,_,rfl,fl,_,rfl,SqL.of hfl7,λ l8 hl8=>?_⟩
  rw [(a9j (fi++[vl]) (by simp)).1,show (fi++[vl]).length - 1=fi.length by simp,jS];have s8:=Same.new hl8 (.lst fi);have e8:Same1 Pt G (upd H7 l8 (.lst fi)):=e07.trans s8.to1;refine ⟨_,rfl,dQs qs,dQs qs,.lst (SqL.of upd_same) (a1B (Paired.imp' (λ _ _ r=>FrT.same s8 r) pfi)),.lst (SqL.of (getd e8)) (a1B (pqs e8)),a3M _,a3M _,bA (fM _ _) (a8L _),_,rfl,?_⟩;rw [T3 _ (a3M _)];refine a3o ?_;have L8:=L7.same s8;have e78:Same1 Pt H6 (upd H7 l8 (.lst fi)):=e7.trans s8.to1;refine ⟨_,rfl,_,rfl,(by show 1<=sizeLine; decide),λ m2 hm2=>?_⟩;have t3:=Same.new hm2 (.lst [hv]);refine ⟨ml,m2,_,_,rfl,rfl,t3 _ _ (getm e78),upd_same,cP (j4 (by simp only [aJ,cV,dO]; omega)),λ m3 hm3=>?_⟩;have t4:=Same.new hm3 (.lst (xs++[hv]++[hv]));have t34:=t3.trans t4;have e9:=e78.trans (t34.to1 (P:=Pt));have L9:=L8.same t34;have hm39:(upd (upd (upd H7 l8 (.lst fi)) m2 (.lst [hv])) m3 (.lst (xs++[hv]++[hv]))) m3=some (.lst (xs++[hv]++[hv])):=upd_same;have bk2:Bk K (upd (upd (upd H7 l8 (.lst fi)) m2 (.lst [hv])) m3 (.lst (xs++[hv]++[hv]))) (xs++[hv]++[hv]) (hs++[mh]++[mh]):=Paired.app (bkm e9) (.cons (HS.same1 L6 e9 hHS6) .nil);have hfl9:=t34 _ _ (s8 _ _ hfl7);have hvl9:=(hvl.same s8).same t34;have e79:Same1 Pt H7 (upd (upd (upd H7 l8 (.lst fi)) m2 (.lst [hv])) m3 (.lst (xs++[hv]++[hv]))):=(s8.trans t34).to1;generalize upd (upd (upd H7 l8 (.lst fi)) m2 (.lst [hv])) m3 (.lst (xs++[hv]++[hv]))=H9 at *;have hG2:∀ g∈hs++[mh]++[mh],g∈hs++[mh]:=λ g hg=>by
   rcases aT.mp hg with z | z
   ·exact z
   ·rw [bH.mp z]; simp
  refine ⟨_,rfl,bl,_,rfl,.inl (SqL.of (get0 (e06.trans e9))),m3,_,hs++[mh]++[mh],(xs.length:Int),"any",10 ^ 9,kt,kg,rfl,szA,⟨SqL.of hm39,bk2,λ g hg=>hGm g (hG2 g hg),by decide,by simp; omega,by omega,by omega⟩,kt1,W7 (by omega),L9,λ i' h' A' B' H10 u' hi' hh' X' e10 L10 hu'=>?_,λ bad=>absurd ⟨by omega,by simp; omega⟩ bad⟩;have:i'=hs.length:=by omega
  subst this;have hh2:(hs++[mh]++[mh])[hs.length]?=some mh:=by rw [bF (by simp)]; exact hlast
  rw [hh2] at hh'; cases hh';have hfl10:=e10.get L9 hfl9 nofun;have hvl10:=hvl9.to1 L9 e10;have eq':low A' B'=ql:=by
   rw [eqm];exact (Xm.fr szA (X'.s.same hG2 λ g hg=>cQ _ hg) hGm gm).symm
  rw [eq'] at hu';refine ⟨_,rfl,_,rfl,fl,_,_,vl,rfl,rfl,SqL.of hfl10,a0s _ _,dF ql,dF ql,FrV.dp hu'.v,FrV.dp hvl10.v,a1f _,a1f _,bA (fM _ _) (b1R _),_,rfl,?_⟩;rw [T3 _ (a1f _)];exact a3o ⟨rfl,e79.trans e10,L10⟩
 intro σ8 H8 hM_; refine C9 λ G_ hG_=>?_; obtain ⟨rfl,e8,L8⟩:=hM_; subst hG_;have e08:=e07.trans e8;have nzV:=b1g NN.e;have getn:∀ {H':Hp},Same1 Pt H6 H'->H' nl=some (.lst (T8 nz)):=λ e=>by rw [<- nzV]; exact e.get L6 hnl6 nofun
 have e68:=e7.trans e8;refine ⟨λ σ' H'=>σ'=[some (.ref a),some (.ref bl),some (.ref dl),some (.int ck),some (.ref pl),some (.ref nl),some hv,some (.ref ml),some (.ref fl),o9,o10,o11]/\Same H8 H',?_,?_⟩
 ·refine ⟨_,rfl,nl,rfl,⟨_,SqL.of (getn e68)⟩,λ l9 hl9=>?_⟩
  refine a0O (t8 (SqL.of (getn e68))) hl9 (by rw [T8,aA]; exact j4 (by omega)) (λ i=>!decide (ltF (qs.getD (nz.getD i 0) (0,1)) ql)) (λ i y H9 us N hy e9 hp9 hN=>?_) (λ us H9 e9 hp9 h0 h1 hm=>?_)
  ·rw [T8,aE] at hy
   cases hz:nz[i]? with
   | none=>rw [hz] at hy; cases hy
   | some k =>
    rw [hz] at hy; cases hy;have hkl:=NN.lt k (aU hz);rw [show nz.getD i 0=k by rw [aG,hz]; rfl] at hN;have e9':=e08.trans e9.to1;have hkd:k<dv.length:=by rw [Paired.length pq]; omega
    obtain ⟨x,hx,hfx⟩:=Paired.at (pqs e9') (aD hkd);obtain ⟨Ak,Bk',Xk,ek⟩:=sh.at_ k _ x (aD hkl) hx;rw [show qs.getD k (0,1)=x by rw [aG,hx]; rfl] at hN;have bx:=Xk.bigs;rw [<- ek] at bx;have bl':=Xm.bigs;rw [<- eqm] at bl';exact ⟨_,rfl,_,rfl,dl,_,_,_,rfl,rfl,SqL.of (getd e9'),v8 (aD hkd),_,rfl,_,rfl,fl,_,_,vl,rfl,rfl,SqL.of (e9 _ _ (e8.get L7 hfl7 nofun)),a0s _ _,_,vl,x,ql,rfl,hfx.v,((hvl.to1 L7 e8).same e9).v,⟨bx.1,bx.2,bl'.1,bl'.2⟩,_,rfl,hN _ (Same.refl _)⟩
  ·obtain ⟨g,hg,hle⟩:=S.share hL NN.sub hk NN.ne kt1 Xm.s
   obtain ⟨k,hkm',hkg⟩:=NN.mem hg;have hkl:=NN.lt k hkm';obtain ⟨i,hi⟩:=eE hkm';obtain ⟨Ak,Bk',Xk,ek⟩:=sh.at_ k g _ hkg (aD (by omega));have nl':¬ ltF (qs.getD (nz.getD i 0) (0,1)) ql:=λ c=>by
    rw [show nz.getD i 0=k by rw [aG,hi]; rfl,show qs.getD k (0,1)=low Ak Bk' by rw [aG,aD (show k<qs.length by omega),<- ek]; rfl,eqm] at c;have:=(a1N Xk.b Xm.b).mp c;have:=hle Ak Bk' Xk.s;omega
   have une:us≠[]:=h1 ⟨i,by rw [T8,aA]; exact (aY.mp hi).1,by rw [decide_eq_false nl']; rfl⟩;obtain ⟨l,rfl⟩:=a4V hm;refine ⟨(by show 0<=sizeLine; decide),λ l10 hl10=>?_⟩;have s10:=Same.new hl10 (.lst []);refine ⟨Y1 l,.list [],a3Q (s10 _ _ hp9),.lst (SqL.of upd_same) .nil,a0a _,rfl,bA (fM _ _) (bA (a1I l) (by decide)),_,rfl,?_⟩;rw [a3W]
   cases l with
   | nil=>exact absurd rfl une
   | cons k r=>exact a3o ⟨rfl,e9.trans s10⟩
 intro σ9 H9 hM_; refine C9 λ G_ hG_=>?_; obtain ⟨rfl,e9⟩:=hM_; subst hG_;have e09:=e08.trans e9.to1;have e69:=e68.trans e9.to1;have L9:=L8.same e9;refine ⟨λ σ' H'=>σ'=[some (.ref a),some (.ref bl),some (.ref dl),some (.int ck),some (.ref pl),some (.ref nl),some hv,some (.ref ml),some (.ref fl),o9,o10,o11]/\Same1 Pt H9 H'/\LT Pt H',?_,?_⟩
 ·refine ⟨_,rfl,ml,_,_,"any",10 ^ 9,kt,kg,rfl,szA,binm e69,by decide,L9,λ H10 r1 e10 L10 _ hr1=>?_⟩
  refine ⟨r1,rfl,⟨_,SqL.of hr1⟩,λ l11 hl11=>?_⟩;refine a6w (xs:=T8 (a3V "any" (hs++[mh]))) (t8 (SqL.of hr1)) hl11 ?_ (ltV hs.length) (λ i x H11 N hx e11 hN=>?_) ?_
  ·rw [T8,aA]
   refine j4 (bA (gY _ _) ?_);rw [cW]; omega
  ·rw [T8,aE] at hx
   cases hz:(a3V "any" (hs++[mh]))[i]? with
   | none=>rw [hz] at hx; cases hx
   | some k =>
    rw [hz] at hx; cases hx;refine ⟨_,rfl,_,rfl,bl,_,rfl,.inl (SqL.of (get0 (e09.trans (e10.trans e11.to1)))),_,_,rfl,rfl,_,rfl,?_⟩;rw [xl]; exact hN
  ·rw [a2q,S.rim NN.sub hk]
   have s11:=Same.new hl11 (.lst (T8 (a3V "any" hs)));have L11:=L10.same s11;have e911:=e10.trans (s11.to1 (P:=Pt));refine ⟨_,rfl,bl,_,_,"any",10 ^ 9,kt,kg,rfl,szA,bin (e09.trans e911),by decide,L11,λ H12 r2 e12 L12 _ hr2=>?_⟩;refine ⟨Y1 (a3V "any" hs),Y1 (a3V "any" hs),a3Q (e12.get L11 upd_same nofun),a3Q hr2,a0a _,a0a _,bA (fM _ _) (bA (a1I _) (by decide)),_,rfl,?_⟩;rw [T3 _ (a0a _)];exact a3o ⟨rfl,e911.trans e12,L12⟩
 intro σ10 H10 hM_; refine C9 λ G_ hG_=>?_; obtain ⟨rfl,e10,L10⟩:=hM_; subst hG_;have e010:=e09.trans e10;have e610:=e69.trans e10;have n0':S8 (T8 nz) 0=some (.int (p:Int)):=by rw [<- nzV]; exact n0
 have hph:(hs++[mh])[p]?=some hs[p]:=by rw [bF plt]; exact aD plt
 refine ⟨_,rfl,_,rfl,nl,_,_,_,rfl,rfl,SqL.of (getn e610),n0',ml,_,_,(p:Int),"any",10 ^ 9,kt,kg,rfl,szA,binm e610,W7 (by omega),L10,λ i' h' S7 H11 t ml' u v mts hi' hh' BS e11 L11 ht hu hml' hmlN hmts hpr=>?_,λ bad=>absurd ⟨by omega,by simp; omega⟩ bad⟩;have:i'=p:=by omega
 subst this;have gh':=hGm h' (aU hh');have TD:=a3T szA BS hGm gh' kt1 (by omega) (by omega);have PX:=b2P TD;have TP:=TD.pr;obtain ⟨pp,fla,gla,uz,fts,gts,rfl,hp1,hp2,hp3,hp4,hp5,hp6⟩:=hpr;have PR:PrA H11 pp (ptA h' (p7 (mE (hs++[mh])) (qE "any" h') S7)) (pgA h' (p7 (mE (hs++[mh])) (qE "any" h') S7)) (psA "any" h' (p7 (mE (hs++[mh])) (qE "any" h') S7)) S7.d:=⟨fla,gla,uz,fts,gts,hp1,hp2,hp3,hp4,hp5,hp6⟩
 clear hp1 hp2 hp3 hp4 hp5 hp6 TD
 generalize ptA h' (p7 (mE (hs++[mh])) (qE "any" h') S7)=pt at *;generalize pgA h' (p7 (mE (hs++[mh])) (qE "any" h') S7)=pg at *;generalize psA "any" h' (p7 (mE (hs++[mh])) (qE "any" h') S7)=ps at *;have ps0:=a2E PX.sign;subst ps0;have e011:=e010.trans e11;have e611:=e610.trans e11;refine ⟨t,_,_,_,rfl,rfl,SqT.of ht,b4F _ _ _,?_⟩;refine ⟨_,rfl,_,rfl,ml,pp,xs++[hv],hs++[mh],pt,pg,0,S7.d,10 ^ 9,kt,kg,rfl,SqL.of (getm e611),bkm e611,by omega,hGm,by decide,by omega,by omega,PR,TP,λ tl ys H12 e12 _ htl hJ=>?_⟩;have e012:=e011.trans e12.to1;have e612:=e611.trans e12.to1;have L12:=L11.same e12;refine ⟨λ σ' H'=>σ'=[some (.ref a),some (.ref bl),some (.ref dl),some (.int ck),some (.ref pl),some (.ref nl),some hv,some (.ref ml),some (.ref fl),some (.ref pp),some (.ref tl),o11]/\Same H12 H',?_,?_⟩
 ·refine ⟨_,rfl,tl,ys,((hs++[mh]).map (jud pt pg 0)).map dJ,.none,rfl,SqL.of htl,b2f hJ,.non,b3g _,rfl,by decide,_,rfl,G5 (λ c=>?_) (λ _=>⟨rfl,Same.refl _⟩)⟩
  have nn:=a8H c;obtain ⟨qj,ej⟩:=a4l (f:=jud pt pg 0) (l:=hs++[mh]) λ x hx=>nn _ (aK.mpr ⟨x,hx,rfl⟩);rw [ej] at hJ;have pj:=a8A hJ;have jat:∀ {k:Nat} {g:i7},(hs++[mh])[k]?=some g->∃ x,qj[k]?=some x/\jud pt pg 0 g=some x:=λ {k g} hg=>by
   have:=congrArg (λ l=>l[k]?) ej;simp only [aE,hg,dW] at this
   cases c:qj[k]? with
   | none=>rw [c] at this; cases this
   | some x=>rw [c] at this; exact ⟨x,rfl,aM this⟩
  have qjl:qj.length=hs.length+1:=by
   have:=congrArg fD ej
   simpa using this.symm
  have qjb:∀ x∈qj,a8S x:=λ x hx=>by
   have:some x∈(hs++[mh]).map (jud pt pg 0):=by rw [ej]; exact aK.mpr ⟨x,hx,rfl⟩
   obtain ⟨g,hg,e⟩:=aK.mp this;exact a8Z (hGm g hg) (by decide) (by omega) (by omega) TP e
  obtain ⟨q0,hq0,jm⟩:=jat hlast;have yl:ys.length=hs.length+1:=by rw [Paired.length pj,qjl]
  obtain ⟨yi,yv,rfl⟩:∃ yi yv,ys=yi++[yv]:=⟨ys.dropLast,ys.getLast (λ z=>by rw [z] at yl; simp at yl),(iI _).symm⟩;have yil:yi.length=hs.length:=by simpa using yl
  have hyv:FrT H12 yv q0:=by
   obtain ⟨x,hx,hf⟩:=Paired.at pj (x:=yv) (i:=hs.length) (by rw [<- yil,bU (aF _),eD]; rfl);rw [hq0] at hx; cases hx;exact hf
  have sb:∀ g∈P1 hs ns',∃ x,jud pt pg 0 g=some x:=λ g hg=>by
   obtain ⟨k,_,hkg⟩:=NN.mem hg;obtain ⟨x,_,j⟩:=jat (k:=k) (g:=g) (by rw [bF (aY.mp hkg).1]; exact hkg);exact ⟨x,j⟩
  have num:∀ {g:i7} {x:Q2},g∈P1 hs ns'->jud pt pg 0 g=some x->∃ k∈nz,qj[k]?=some x:=λ {g x} hg j=>by
   obtain ⟨k,hk',hkg⟩:=NN.mem hg;obtain ⟨x',hx',j'⟩:=jat (k:=k) (g:=g) (by rw [bF (aY.mp hkg).1]; exact hkg);rw [j] at j'; cases j';exact ⟨k,hk',hx'⟩
  obtain ⟨⟨g1,m1,x1,j1,c1⟩,⟨g2,m2,x2,j2,c2⟩⟩:=S.betw hL NN.ne gm PX.lt PX.lg PX.tn jm sb;obtain ⟨k1,hk1,hq1⟩:=num m1 j1;obtain ⟨k2,hk2,hq2⟩:=num m2 j2;refine ⟨_,rfl,_,rfl,_,rfl,_,rfl,tl,_,_,yv,rfl,rfl,SqL.of htl,a0s _ _,tl,nl,_,qj,nz,yv,q0,rfl,htl,pj,getn e612,by omega,hyv,qjb q0 (aU hq0),qjb,λ k hk'=>by have:=NN.lt k hk'; omega,⟨k1,hk1,x1,hq1,c1⟩,⟨k2,hk2,x2,hq2,c2⟩,λ H13 e13=>⟨_,rfl,a3o ⟨rfl,e13⟩⟩⟩
 intro σ13 H13 hM_; refine C9 λ G_ hG_=>?_; obtain ⟨rfl,e13⟩:=hM_; subst hG_;have e013:=e012.trans e13.to1;have L13:=L12.same e13;have h0l:0<hs.length:=by omega
 obtain ⟨x0,hx0⟩:∃ x,xs[0]?=some x:=⟨_,aD (by omega)⟩;obtain ⟨h0,hh0,hHS0⟩:=Paired.at (bk0 e013) hx0;have g0:=hG h0 (aU hh0);refine ⟨_,rfl,bl,_,_,x0,rfl,rfl,SqL.of (get0 e013),v8 (j:=0) hx0,(by show 1<=sizeLine; decide),λ r1 hr1=>?_⟩;have u1:=Same.new hr1 (.lst [x0]);refine ⟨r1,3,[x0],rfl,rfl,upd_same,by decide,by decide,(by show 1*3<=sizeLine; decide),λ r2 hr2=>?_⟩;have u2:=Same.new hr2 (.lst [x0,x0,x0]);rw [show (aI (iO 3) [x0]).flatten=[x0,x0,x0] from rfl];refine ⟨(by show 2<=sizeLine; decide),λ r3 hr3=>?_⟩;have u3:=Same.new hr3 (.lst [V.int 0,V.int 2]);have u13:=u1.trans (u2.trans u3);have hB3:Bk K (upd (upd (upd H13 r1 (.lst [x0])) r2 (.lst [x0,x0,x0])) r3 (.lst [V.int 0,V.int 2])) [x0,x0,x0] [h0,h0,h0]:=.cons (hHS0.same u13) (.cons (hHS0.same u13) (.cons (hHS0.same u13) .nil));have hr23:(upd (upd (upd H13 r1 (.lst [x0])) r2 (.lst [x0,x0,x0])) r3 (.lst [V.int 0,V.int 2])) r2=some (.lst [x0,x0,x0]):=u3 _ _ upd_same;have hr33:(upd (upd (upd H13 r1 (.lst [x0])) r2 (.lst [x0,x0,x0])) r3 (.lst [V.int 0,V.int 2])) r3=some (.lst [V.int 0,V.int 2]):=upd_same;have e014:=e013.trans (u13.to1 (P:=Pt));have L14:=L13.same u13;generalize upd (upd (upd H13 r1 (.lst [x0])) r2 (.lst [x0,x0,x0])) r3 (.lst [V.int 0,V.int 2])=H14 at *;have hG3:∀ g∈[h0,h0,h0],HG (10 ^ 9) kt kg g:=λ g hg=>by
  have:g=h0:=by simpa using hg
  rw [this]; exact g0.up (by decide)
 have S2:SumOf (mgH [h0,h0,h0] [0,2] kt kg) [h0,h0] kt kg:=a5c [h0,h0,h0] [0,2] kt kg;have gm2:HG (10 ^ 9) kt kg (mgH [h0,h0,h0] [0,2] kt kg):=S2.good (λ g hg=>by
  have:g=h0:=by simpa using hg
  rw [this]; exact g0) (by simp) (by show 2<=100; decide)
 have gd2:∀ m∈[(0:Int),2],a1m [x0,x0,x0].length m:=λ m hm=>by
  have:m=0\/m=2:=by simpa using hm
  exact ⟨by omega,by show m<3; omega⟩
 have ls2:a2S [(0:Int),2] ((0:Nat):Int):=⟨.head _,λ x hx=>by
  have:x=0\/x=2:=by simpa using hx
  omega⟩
 refine ⟨r2,r3,[x0,x0,x0],[h0,h0,h0],[0,2],10 ^ 9,kt,kg,rfl,⟨SqL.of hr23,hB3,hG3,by decide,(by show 3<=16; decide),by omega,by omega⟩,kt1,kg1,SqL.of hr33,by decide,by decide,λ m hm=>?_,λ H' e bad=>?_,λ H' e _ bad=>?_,λ r ys pl' H15 e15 hr0 _ _ hls hr5 hBk=>?_⟩
 ·have:m=0\/m=2:=by simpa using hm
  rcases this with rfl | rfl <;> decide
 ·obtain ⟨m,hm,ng⟩:=bad
  exact absurd (gd2 m hm) ng
 ·obtain ⟨v,hv,gt⟩:=bad
  have le:v<=10 ^ 9:=by
   rcases aT.mp hv with z | z
   ·exact (gm2.t v z).2
   ·exact (gm2.g v z).2
  omega
 have:=a2y hls ls2;subst this;have ma:=a8z (hs:=[h0,h0,h0]) (ns:=[0,2]) (kt:=kt) (kg:=kg) (p:=0) (by show 0<3; decide) ls2;have yl0:0<ys.length:=by rw [Paired.length hBk]; exact (aY.mp ma).1
 obtain ⟨m',hm',hHSa⟩:=Paired.at hBk (aD yl0);rw [ma] at hm'; cases hm';obtain ⟨av,hav⟩:∃ av,av=ys[0]:=⟨_,rfl⟩;rw [<- hav] at hHSa;refine ⟨r,_,_,av,rfl,rfl,SqL.of hr5,v8 (j:=0) (by rw [hav]; exact aD yl0),?_⟩;have e015:=e014.trans (e15.to1 (P:=Pt));have L15:=L14.same e15;obtain ⟨m2,hm2⟩:∃ m2,m2=mgH [h0,h0,h0] [0,2] kt kg:=⟨_,rfl⟩;rw [<- hm2] at hHSa S2 gm2;refine ⟨_,rfl,_,rfl,(by show 1<=sizeLine; decide),λ w1 hw1=>?_⟩;have t5:=Same.new hw1 (.lst [av]);refine ⟨bl,w1,_,_,rfl,rfl,t5 _ _ (get0 e015),upd_same,cP (j4 (by simp only [aJ,cV,dO]; omega)),λ w2 hw2=>?_⟩;have t6:=Same.new hw2 (.lst (xs++[av]));have t56:=t5.trans t6;have e016:=e015.trans (t56.to1 (P:=Pt));have L16:=L15.same t56;have hw26:(upd (upd H15 w1 (.lst [av])) w2 (.lst (xs++[av]))) w2=some (.lst (xs++[av])):=upd_same;have bk6:Bk K (upd (upd H15 w1 (.lst [av])) w2 (.lst (xs++[av]))) (xs++[av]) (hs++[m2]):=Paired.app (bk0 e016) (.cons (hHSa.same t56) .nil);generalize upd (upd H15 w1 (.lst [av])) w2 (.lst (xs++[av]))=H16 at *;have hG6:∀ g∈hs++[m2],HG (10 ^ 9) kt kg g:=λ g hg=>by
  rcases aT.mp hg with z | z
  ·exact hG9 g z
  ·rw [bH.mp z]; exact gm2
 refine ⟨_,rfl,bl,_,rfl,.inl (SqL.of (get0 e016)),w2,_,hs++[m2],(xs.length:Int),"any",10 ^ 9,kt,kg,rfl,szA,⟨SqL.of hw26,bk6,hG6,by decide,by simp; omega,by omega,by omega⟩,kt1,W7 (by omega),L16,λ i' h' A' B' H17 u' hi' hh' X' e17 L17 hu'=>?_,λ bad=>absurd ⟨by omega,by rw [aJ,cY]; omega⟩ bad⟩;have:i'=hs.length:=by omega
 subst this;rw [show (hs++[m2])[hs.length]?=some m2 by rw [bU (aF _),eD]; rfl] at hh'
 cases hh';have D2:=S2.dom (hs:=hs) λ g hg=>by
  have:g=h0:=by simpa using hg
  rw [this]; exact aU hh0
 have I0:=S2.twice g0 (X'.s.dom D2 λ g hg=>cQ _ hg);have q0l:0<qs.length:=by omega
 obtain ⟨A0,B0,X0,eq0⟩:=sh.at_ 0 h0 _ hh0 (aD q0l);have e017:=e016.trans e17;have dv0:0<dv.length:=by rw [Paired.length pq]; omega
 obtain ⟨y0,hy0,hf0⟩:=Paired.at (pqs e017) (aD dv0);rw [aD q0l] at hy0; cases hy0;rw [eq0,X0.fr szA I0 hG9 (g0.up (by decide))] at hf0;refine ⟨_,rfl,dl,_,_,_,rfl,rfl,SqL.of (getd e017),v8 (j:=0) (aD dv0),dF _,dF _,FrV.dp hu'.v,FrV.dp hf0.v,a1f _,a1f _,bA (fM _ _) (b1R _),_,rfl,?_⟩;rw [T3 _ (a1f _)];exact a3o ⟨_,_,_,_,_,_,_,_,_,rfl,e017,L17⟩
end
section
variable {P:Program} {w:World} {K:W.Frag} {mg:Str->Option Value} {base:Heap} {f d:Addr} {fd:FuncData} {n:Nat} {CN Pt:Addr}
theorem SCal.ct {fa:Addr} {da:FuncData} (C:SCal P w K mg base n "come_to" ["amounts","tops"] (Z5 K) fa da):SCal P w K mg base n "come_to" ["amounts","tops"] (a2z K) fa da :=
 ⟨C.ok.imp λ vs H Q E h=>by
  obtain ⟨a,t,xs,ys,rfl,ha,ht,hl,hx,hy,k⟩:=h;exact ⟨true,false,a,t,xs,ys,rfl,ha,ht,hl,λ x hx'=>(hx x hx').mono (by decide),λ y hy'=>(hy y hy').mono (by decide),k⟩,C.b,C.k,C.m⟩
theorem a5z {f1 f2:Addr} {d1 d2:FuncData} (F:Fun K "told_prices" "told_prices" E1 f fd) (N:A3 mg) (G:Sg K w.params mg d) (Cl:Cal P w K mg base n "lowest" ["top","bottom"] a0W f1 d1) (Cc:SCal P w K mg base n "come_to" ["amounts","tops"] (Z5 K) f2 d2):FnOk P w K mg base J7 (n+1) f fd ["house","sizes","amounts","bottom"] (a1O K):=a7V F N G Cl Cc.ct
end
theorem all_mk {l:W.OpenLaw} {w:World} {K:W.Frag} {h:Heap} {mg:Str->Option Value} {fa:Addr} {Ct Pt:Addr} (X:K.In h) (G:h.Ns mainGlobals mg) (hfa:mg "law"=some (.ref fa))
    {f1 f2 f3 f4 f5 f6 f7 f8 f9 f10 f11 f12 f13 f14 f15 f16 f17 f18 f19 f20 f21 f22 f23 f24 f25 f26 f27 f28 f29 f30 f31 f32 f33 CB dS tS0 tS1 tS2 tS3 cE_NoHouse cE_TooMany:Addr} {cd1 cd2 cd3 cd4 cd5 cd6 cd8 cd9 cd10 cd11 cd12 cd13 cd14 cd15 cd16 cd17 cd18 cd19 cd20 cd21 cd22 cd23 cd24 cd25 cd26 cd27 cd28 cd29 cd30 cd31 cd32 ocL kVL dcL pmL cdL ctL:Value} {odL anL:Option Addr} {slL:Array (Option Value)} {odS0 odS1 odS2 odS3:Option Addr} {slS0 slS1 slS2 slS3:Array (Option Value)} {eS:Array DictEntry} {nS nS0 nS1 nS2 nS3:Nat} {tkA tkB tkC tkD:Tok} {tkC_MOST_AMOUNT:Tok}
    (aB:W.nsIn K mainGlobals "Board"=some (some (.ref CB)))
    (a1:W.nsIn K mainGlobals "_law_cell_at"=some (some (.ref f1)))
    (l1:FunI K "_law_cell_at" "_law_cell_at" b0q f1 cd1)
    (a2:W.nsIn K mainGlobals "_law_draws"=some (some (.ref f2)))
    (l2:FunI K "_law_draws" "_law_draws" a5L f2 cd2)
    (a3:W.nsIn K mainGlobals "_law_near"=some (some (.ref f3)))
    (l3:FunI K "_law_near" "_law_near" b0o f3 cd3)
    (a4:W.nsIn K mainGlobals "_law_a_book"=some (some (.ref f4)))
    (l4:FunI K "_law_a_book" "_law_a_book" a0D f4 cd4)
    (a5:W.nsIn K mainGlobals "house_of"=some (some (.ref f5)))
    (l5:FunI K "house_of" "house_of" b2B f5 cd5)
    (a6:W.findIn K (.ref CB) "__init__"=some (some (.ref f6)))
    (l6:FunI K "__init__" "Board.__init__" a4s f6 cd6)
    (n6:W.isFn K (.ref f6)=true)
    (a7:W.findIn K (.ref CB) "coming"=some (some (.ref f7)))
    (l7:FunI K "coming" "Board.coming" a3U f7 (.ref Ct))
    (n7:W.isFn K (.ref f7)=true)
    (a8:W.findIn K (.ref CB) "is_ahead"=some (some (.ref f8)))
    (l8:FunI K "is_ahead" "Board.is_ahead" a5u f8 cd8)
    (n8:W.isFn K (.ref f8)=true)
    (a9:W.findIn K (.ref CB) "going"=some (some (.ref f9)))
    (l9:FunI K "going" "Board.going" a6j f9 cd9)
    (n9:W.isFn K (.ref f9)=true)
    (a10:W.nsIn K mainGlobals "swept"=some (some (.ref f10)))
    (l10:FunI K "swept" "swept" a5s f10 cd10)
    (a11:W.findIn K (.ref CB) "exchange"=some (some (.ref f11)))
    (l11:FunI K "exchange" "Board.exchange" N5 f11 cd11)
    (n11:W.isFn K (.ref f11)=true)
    (a12:W.findIn K (.ref CB) "amounts"=some (some (.ref f12)))
    (l12:FunI K "amounts" "Board.amounts" a9z f12 cd12)
    (n12:W.isFn K (.ref f12)=true)
    (a13:W.findIn K (.ref CB) "weights"=some (some (.ref f13)))
    (l13:FunI K "weights" "Board.weights" b3u f13 cd13)
    (n13:W.isFn K (.ref f13)=true)
    (a14:W.nsIn K mainGlobals "greatest"=some (some (.ref f14)))
    (l14:FunI K "greatest" "greatest" K6 f14 cd14)
    (a15:W.nsIn K mainGlobals "house_rows"=some (some (.ref f15)))
    (l15:FunI K "house_rows" "house_rows" N8 f15 cd15)
    (a16:W.nsIn K mainGlobals "greatest_earned"=some (some (.ref f16)))
    (l16:FunI K "greatest_earned" "greatest_earned" V8 f16 cd16)
    (a17:W.nsIn K mainGlobals "common_divisor"=some (some (.ref f17)))
    (l17:FunI K "common_divisor" "common_divisor" b3q f17 cd17)
    (a18:W.nsIn K mainGlobals "lowest"=some (some (.ref f18)))
    (l18:FunI K "lowest" "lowest" b2H f18 cd18)
    (a19:W.nsIn K mainGlobals "held_against"=some (some (.ref f19)))
    (l19:FunI K "held_against" "held_against" b0k f19 cd19)
    (a20:W.nsIn K mainGlobals "share"=some (some (.ref f20)))
    (l20:FunI K "share" "share" a5w f20 cd20)
    (a21:W.nsIn K mainGlobals "together"=some (some (.ref f21)))
    (l21:FunI K "together" "together" Y6 f21 cd21)
    (a22:W.nsIn K mainGlobals "merged"=some (some (.ref f22)))
    (l22:FunI K "merged" "merged" P9 f22 cd22)
    (a23:W.nsIn K mainGlobals "_law_less"=some (some (.ref f23)))
    (l23:FunI K "_law_less" "_law_less" U4 f23 cd23)
    (a24:W.nsIn K mainGlobals "greatest_floor"=some (some (.ref f24)))
    (l24:FunI K "greatest_floor" "greatest_floor" a0G f24 cd24)
    (a25:W.nsIn K mainGlobals "rim_of"=some (some (.ref f25)))
    (l25:FunI K "rim_of" "rim_of" a5E f25 cd25)
    (a26:W.nsIn K mainGlobals "come_to"=some (some (.ref f26)))
    (l26:FunI K "come_to" "come_to" a3C f26 cd26)
    (a27:W.nsIn K mainGlobals "told_prices"=some (some (.ref f27)))
    (l27:FunI K "told_prices" "told_prices" E1 f27 cd27)
    (a28:W.nsIn K mainGlobals "share_shown"=some (some (.ref f28)))
    (l28:FunI K "share_shown" "share_shown" a6i f28 cd28)
    (a29:W.nsIn K mainGlobals "over_one_bottom"=some (some (.ref f29)))
    (l29:FunI K "over_one_bottom" "over_one_bottom" J8 f29 cd29)
    (a30:W.nsIn K mainGlobals "worths"=some (some (.ref f30)))
    (l30:FunI K "worths" "worths" P8 f30 cd30)
    (a31:W.nsIn K mainGlobals "judged"=some (some (.ref f31)))
    (l31:FunI K "judged" "judged" Q1 f31 cd31)
    (a32:W.nsIn K mainGlobals "_law_a_between"=some (some (.ref f32)))
    (l32:FunI K "_law_a_between" "_law_a_between" A8 f32 cd32)
    (a33:W.nsIn K mainGlobals "law"=some (some (.ref f33)))
    (l33:K.lookup f33=some ⟨ocL,odL,.func (W.fnOf "law" "law" (G3 a1l) (v4 a1l) (i9 a1l) .none kVL dcL pmL anL cdL ctL),slL⟩)
    (c33:W.codeIn K cdL "law"=true)
    (k33:W.keepIn K (.ref f33)=true)
    (z1:W.nsIn K mainGlobals "len"=some none)
    (z2:W.nsIn K mainGlobals "all"=some none)
    (z3:W.nsIn K mainGlobals "any"=some none)
    (z4:W.nsIn K mainGlobals "max"=some none)
    (z5:W.nsIn K mainGlobals "min"=some none)
    (z6:W.nsIn K mainGlobals "sum"=some none)
    (z7:W.nsIn K mainGlobals "tuple"=some none)
    (z8:W.nsIn K mainGlobals "list"=some none)
    (z9:W.nsIn K mainGlobals "int"=some none)
    (z10:W.nsIn K mainGlobals "bool"=some none)
    (z11:W.nsIn K mainGlobals "range"=some none)
    (z12:W.nsIn K mainGlobals "isinstance"=some none)
    (z13:W.nsIn K mainGlobals "abs"=some none)
    (z14:W.nsIn K mainGlobals "zip"=some none)
    (z15:W.nsIn K mainGlobals "enumerate"=some none)
    (z16:W.nsIn K mainGlobals "ValueError"=some none)
    (z17:W.nsIn K mainGlobals "sorted"=some none)
    (bp:W.plainGet K CB Str.empty=true)
    (bh:W.hasDictIn K CB=true)
    (bo:W.plainOver K CB=true)
    (bs:W.findIn K (.ref CB) "__setattr__"=some (some (.builtin "object.__setattr__")))
    (b_many:W.findIn K (.ref CB) "many"=some none)
    (b_scale:W.findIn K (.ref CB) "scale"=some none)
    (b_cells:W.findIn K (.ref CB) "cells"=some none)
    (b_outs:W.findIn K (.ref CB) "outs"=some none)
    (b_ins:W.findIn K (.ref CB) "ins"=some none)
    (bm:W.makesIn K CB=true)
    (bk:W.keepIn K (.ref CB)=true)
    (s1:W.nsIn K mainGlobals "SIZE_SIGNS"=some (some (.ref dS)))
    (s3:K.lookup dS=some ⟨.type "dict",none,.dict eS nS,#[]⟩)
    (s4:W.KeysLit w.params eS.toList)
    (sa0:W.nsIn K dS "any"=some (some (.ref tS0)))
    (sb0:K.lookup tS0=some ⟨.type "tuple",odS0,.seq #[] nS0,slS0⟩)
    (sa1:W.nsIn K dS "one"=some (some (.ref tS1)))
    (sb1:K.lookup tS1=some ⟨.type "tuple",odS1,.seq #[.int 1 tkA,.int (-1) tkB] nS1,slS1⟩)
    (sa2:W.nsIn K dS "less"=some (some (.ref tS2)))
    (sb2:K.lookup tS2=some ⟨.type "tuple",odS2,.seq #[.int (-1) tkC] nS2,slS2⟩)
    (sa3:W.nsIn K dS "more"=some (some (.ref tS3)))
    (sb3:K.lookup tS3=some ⟨.type "tuple",odS3,.seq #[.int 1 tkD] nS3,slS3⟩)
    (xmNoHouse:W.nsIn K mainGlobals "NoHouse"=some (some (.ref cE_NoHouse)))
    (xoNoHouse:W.excIn K cE_NoHouse [.type "ValueError",.type "Exception",.type "BaseException",.type "object"] "ValueError.__new__"=true)
    (xgaNoHouse:W.findIn K (.ref cE_NoHouse) "__getattribute__"=some (some (.builtin "BaseException.__getattribute__")))
    (xgnNoHouse:W.findIn K (.ref cE_NoHouse) "__getattr__"=some none)
    (xcaNoHouse:W.findIn K (.ref cE_NoHouse) "__class__"=some (some (.builtin "object.__class__")))
    (xmoNoHouse:W.mroIn K cE_NoHouse (.type "object")=some true)
    (xmbNoHouse:W.mroIn K cE_NoHouse (.type "BaseException")=some true)
    (xmTooMany:W.nsIn K mainGlobals "TooMany"=some (some (.ref cE_TooMany)))
    (xoTooMany:W.excIn K cE_TooMany [.type "ValueError",.type "Exception",.type "BaseException",.type "object"] "ValueError.__new__"=true)
    (xgaTooMany:W.findIn K (.ref cE_TooMany) "__getattribute__"=some (some (.builtin "BaseException.__getattribute__")))
    (xgnTooMany:W.findIn K (.ref cE_TooMany) "__getattr__"=some none)
    (xcaTooMany:W.findIn K (.ref cE_TooMany) "__class__"=some (some (.builtin "object.__class__")))
    (xmoTooMany:W.mroIn K cE_TooMany (.type "object")=some true)
    (xmbTooMany:W.mroIn K cE_TooMany (.type "BaseException")=some true)
    (cmMOST_AMOUNT:W.nsIn K mainGlobals "MOST_AMOUNT"=some (some (.int 1000000000 tkC_MOST_AMOUNT)))
    (zset:W.nsIn K mainGlobals "set"=some none)
   :∃ fd:FuncData,(∀ (s:Shared) (v:Value),BindsTo s fd ⟨[v],[]⟩ [("script",v)])/\∀ base:Heap,K.In base->base.Ns mainGlobals mg->S4 mg base->(∀ t∈[(Ct,Pt)],W.CodeHd base t.1 t.2)->FnOk l.prog w K mg base J7 9 fa fd ["script"] (a7g K Pt):=by
  have e:=hfa.symm.trans (W.mg_of X G a33)
  cases e;obtain ⟨_,F1,hc1,k1⟩:=l1.fn;obtain ⟨_,F2,hc2,k2⟩:=l2.fn;obtain ⟨_,F3,hc3,k3⟩:=l3.fn;obtain ⟨_,F4,hc4,k4⟩:=l4.fn;obtain ⟨_,F5,hc5,k5⟩:=l5.fn;obtain ⟨_,F6,hc6,k6⟩:=l6.fn;obtain ⟨_,F7,hc7,k7⟩:=l7.fn;obtain ⟨_,F8,hc8,k8⟩:=l8.fn;obtain ⟨_,F9,hc9,k9⟩:=l9.fn;obtain ⟨_,F10,hc10,k10⟩:=l10.fn;obtain ⟨_,F11,hc11,k11⟩:=l11.fn;obtain ⟨_,F12,hc12,k12⟩:=l12.fn;obtain ⟨_,F13,hc13,k13⟩:=l13.fn;obtain ⟨_,F14,hc14,k14⟩:=l14.fn;obtain ⟨_,F15,hc15,k15⟩:=l15.fn;obtain ⟨_,F16,hc16,k16⟩:=l16.fn;obtain ⟨_,F17,hc17,k17⟩:=l17.fn;obtain ⟨_,F18,hc18,k18⟩:=l18.fn;obtain ⟨_,F19,hc19,k19⟩:=l19.fn;obtain ⟨_,F20,hc20,k20⟩:=l20.fn;obtain ⟨_,F21,hc21,k21⟩:=l21.fn;obtain ⟨_,F22,hc22,k22⟩:=l22.fn;obtain ⟨_,F23,hc23,k23⟩:=l23.fn;obtain ⟨_,F24,hc24,k24⟩:=l24.fn;obtain ⟨_,F25,hc25,k25⟩:=l25.fn;obtain ⟨_,F26,hc26,k26⟩:=l26.fn;obtain ⟨_,F27,hc27,k27⟩:=l27.fn;obtain ⟨_,F28,hc28,k28⟩:=l28.fn;obtain ⟨_,F29,hc29,k29⟩:=l29.fn;obtain ⟨_,F30,hc30,k30⟩:=l30.fn;obtain ⟨_,F31,hc31,k31⟩:=l31.fn;obtain ⟨_,F32,hc32,k32⟩:=l32.fn;have F33:=a9i (st:=a1l) l33 c33 k33;have b1:Binds K _ ["script","k"] []:=F1.b2 λ _ _ _ _ _ _ _ _=>rfl;have b2:Binds K _ ["cell","many","base"] []:=F2.b3 λ _ _ _ _ _ _ _ _ _=>rfl;have b3:Binds K _ ["house","picks","far"] []:=F3.b3 λ _ _ _ _ _ _ _ _ _=>rfl;have b4:Binds K _ ["script","at","most","far"] []:=F4.b4 λ _ _ _ _ _ _ _ _ _ _=>rfl;have b5:Binds K _ ["book","number"] []:=F5.b2 λ _ _ _ _ _ _ _ _=>rfl;have b6:Binds K _ ["self","goal","rows","bounds"] []:=F6.b4 λ _ _ _ _ _ _ _ _ _ _=>rfl;have b7:Binds K _ ["self"] []:=F7.b1 λ _ _ _ _ _ _ _=>rfl;have b8:Binds K _ ["self","row","other","column"] []:=F8.b4 λ _ _ _ _ _ _ _ _ _ _=>rfl;have b9:Binds K _ ["self","column"] []:=F9.b2 λ _ _ _ _ _ _ _ _=>rfl;have b10:Binds K _ ["cells","lead","column","scale"] []:=F10.b4 λ _ _ _ _ _ _ _ _ _ _=>rfl;have b11:Binds K _ ["self","row","column"] []:=F11.b3 λ _ _ _ _ _ _ _ _ _=>rfl;have b12:Binds K _ ["self"] []:=F12.b1 λ _ _ _ _ _ _ _=>rfl;have b13:Binds K _ ["self"] []:=F13.b1 λ _ _ _ _ _ _ _=>rfl;have b14:Binds K _ ["goal","rows","bounds"] []:=F14.b3 λ _ _ _ _ _ _ _ _ _=>rfl;have b15:Binds K _ ["houses","sizes"] []:=F15.b2 λ _ _ _ _ _ _ _ _=>rfl;have b16:Binds K _ ["houses","house","sizes"] []:=F16.b3 λ _ _ _ _ _ _ _ _ _=>rfl;have b17:Binds K _ ["one","other"] []:=F17.b2 λ _ _ _ _ _ _ _ _=>rfl;have b18:Binds K _ ["top","bottom"] []:=F18.b2 λ _ _ _ _ _ _ _ _=>rfl;have b19:Binds K _ ["houses","house","sizes"] []:=F19.b3 λ _ _ _ _ _ _ _ _ _=>rfl;have b20:Binds K _ ["book","number","sizes"] []:=F20.b3 λ _ _ _ _ _ _ _ _ _=>rfl;have b21:Binds K _ ["rows"] []:=F21.b1 λ _ _ _ _ _ _ _=>rfl;have b22:Binds K _ ["book","numbers"] []:=F22.b2 λ _ _ _ _ _ _ _ _=>rfl;have b23:Binds K _ ["one","other"] []:=F23.b2 λ _ _ _ _ _ _ _ _=>rfl;have b24:Binds K _ ["houses","number","sizes"] []:=F24.b3 λ _ _ _ _ _ _ _ _ _=>rfl;have b25:Binds K _ ["book","sizes"] []:=F25.b2 λ _ _ _ _ _ _ _ _=>rfl;have b26:Binds K _ ["amounts","tops"] []:=F26.b2 λ _ _ _ _ _ _ _ _=>rfl;have b27:Binds K _ ["house","sizes","amounts","bottom"] []:=F27.b4 λ _ _ _ _ _ _ _ _ _ _=>rfl;have b28:Binds K _ ["book","number","sizes"] []:=F28.b3 λ _ _ _ _ _ _ _ _ _=>rfl;have b29:Binds K _ ["ones"] []:=F29.b1 λ _ _ _ _ _ _ _=>rfl;have b30:Binds K _ ["book","prices"] []:=F30.b2 λ _ _ _ _ _ _ _ _=>rfl;have b31:Binds K _ ["book","prices"] []:=F31.b2 λ _ _ _ _ _ _ _ _=>rfl;have b32:Binds K _ ["found","numbers","last"] []:=F32.b3 λ _ _ _ _ _ _ _ _ _=>rfl;have T:A3 mg:=⟨W.mg_none_of X G z1,W.mg_none_of X G z2,W.mg_none_of X G z3,W.mg_none_of X G z4,W.mg_none_of X G z5,W.mg_none_of X G z6,W.mg_none_of X G z7,W.mg_none_of X G z8,W.mg_none_of X G z9,W.mg_none_of X G z10,W.mg_none_of X G z11,W.mg_none_of X G z12,W.mg_none_of X G z13,W.mg_none_of X G z14,W.mg_none_of X G z15,W.mg_none_of X G z16,W.mg_none_of X G z17⟩;have TBd:TB K CB:=⟨⟨bp,bh,bo,bs⟩,b_many,b_scale,b_cells,b_outs,b_ins⟩;have SG:Sg K w.params mg dS:=⟨W.mg_of X G s1,⟨_,_,s3,s4⟩,λ z hz=>by
    rcases hz with rfl | rfl | rfl | rfl
    . exact ⟨_,sa0,λ H=>.inr ⟨_,_,_,sb0,rfl,rfl,(by show 0<=sizeLine; decide),.nil⟩⟩
    . exact ⟨_,sa1,λ H=>.inr ⟨_,_,_,sb1,rfl,rfl,(by show 2<=sizeLine; decide),.cons ⟨_,rfl⟩ (.cons ⟨_,rfl⟩ .nil)⟩⟩
    . exact ⟨_,sa2,λ H=>.inr ⟨_,_,_,sb2,rfl,rfl,(by show 1<=sizeLine; decide),.cons ⟨_,rfl⟩ .nil⟩⟩
    . exact ⟨_,sa3,λ H=>.inr ⟨_,_,_,sb3,rfl,rfl,(by show 1<=sizeLine; decide),.cons ⟨_,rfl⟩ .nil⟩⟩
    ⟩
  have C_MOST_AMOUNT:∃ t,mg "MOST_AMOUNT"=some (.int 1000000000 t):=⟨_,W.mg_of X G cmMOST_AMOUNT⟩;have k_NoHouse:a4t K cE_NoHouse:=⟨a9E xoNoHouse,xgaNoHouse,xgnNoHouse,xcaNoHouse,xmoNoHouse,xmbNoHouse⟩;have m_NoHouse:=W.mg_of X G xmNoHouse;have k_TooMany:a4t K cE_TooMany:=⟨a9E xoTooMany,xgaTooMany,xgnTooMany,xcaTooMany,xmoTooMany,xmbTooMany⟩;have m_TooMany:=W.mg_of X G xmTooMany;refine ⟨W.fnOf "law" "law" (G3 a1l) (v4 a1l) (i9 a1l) .none kVL dcL pmL anL cdL ctL,λ s v=>.of_eq rfl,λ base _ _ BM hCH=>?_⟩;have g1:=λ n:Nat=>b1v (mg:=mg) (P:=l.prog) (w:=w) (base:=base) (n:=n) F1 T;have g2:=λ n:Nat=>a9v (mg:=mg) (P:=l.prog) (w:=w) (base:=base) (n:=n) F2 T;have g3:=λ n:Nat=>b0J (mg:=mg) (P:=l.prog) (w:=w) (base:=base) (n:=n) F3 T;have g4:=λ n:Nat=>b0e (mg:=mg) (P:=l.prog) (w:=w) (base:=base) F4 T (g1 (n+0)) b1 k1 (W.mg_of X G a1) (g2 (n+0)) b2 k2 (W.mg_of X G a2) (g3 (n+0)) b3 k3 (W.mg_of X G a3);have g5:=λ n:Nat=>b3w (mg:=mg) (P:=l.prog) (w:=w) (base:=base) (n:=n) F5 T k_NoHouse m_NoHouse;have g6:=λ n:Nat=>b0z (mg:=mg) (P:=l.prog) (w:=w) (base:=base) (n:=n) F6 T TBd;have g7:=λ n:Nat=>a7L (mg:=mg) (P:=l.prog) (w:=w) (base:=base) (n:=n) F7 hc7 (hCH _ (.head _)) BM T TBd;have g8:=λ n:Nat=>a8r (mg:=mg) (P:=l.prog) (w:=w) (base:=base) (n:=n) F8 TBd;have g9:=λ n:Nat=>a8v (mg:=mg) (P:=l.prog) (w:=w) (base:=base) F9 T TBd ⟨g8 (n+0),b8,⟨a8,n8,k8⟩⟩;have g10:=λ n:Nat=>a9y (mg:=mg) (P:=l.prog) (w:=w) (base:=base) (n:=n) F10 T;have g11:=λ n:Nat=>a4Q (mg:=mg) (P:=l.prog) (w:=w) (base:=base) F11 TBd ⟨g10 (n+0),b10,k10,(W.mg_of X G a10)⟩;have g12:=λ n:Nat=>b1e (mg:=mg) (P:=l.prog) (w:=w) (base:=base) (n:=n) F12 T TBd;have g13:=λ n:Nat=>b3o (mg:=mg) (P:=l.prog) (w:=w) (base:=base) (n:=n) F13 T TBd;have g14:=λ n:Nat=>a4U (mg:=mg) (P:=l.prog) (w:=w) (base:=base) F14 TBd ⟨⟨bm,a6,n6,bk⟩,g6 (n+2),b6,W.mg_of X G aB,⟨g7 (n+0),b7,⟨a7,n7,k7⟩⟩,⟨g9 (n+1),b9,⟨a9,n9,k9⟩⟩,⟨g11 (n+1),b11,⟨a11,n11,k11⟩⟩,⟨g12 (n+2),b12,⟨a12,n12,k12⟩⟩,⟨g13 (n+2),b13,⟨a13,n13,k13⟩⟩⟩;have g15:=λ n:Nat=>a3Y (mg:=mg) (P:=l.prog) (w:=w) (base:=base) (n:=n) F15 T SG;have g16:=λ n:Nat=>a7A (mg:=mg) (P:=l.prog) (w:=w) (base:=base) F16 T SG ⟨g14 (n+0),b14,k14,(W.mg_of X G a14)⟩ ⟨g15 (n+4),b15,k15,(W.mg_of X G a15)⟩;have g17:=λ n:Nat=>b3b (mg:=mg) (P:=l.prog) (w:=w) (base:=base) (n:=n) F17 T;have g18:=λ n:Nat=>b2S (mg:=mg) (P:=l.prog) (w:=w) (base:=base) F18 T ⟨g17 (n+0),b17,k17,(W.mg_of X G a17)⟩;have g19:=λ n:Nat=>b1q (mg:=mg) (P:=l.prog) (w:=w) (base:=base) F19 ⟨g16 (n+0),b16,k16,(W.mg_of X G a16)⟩ ⟨g18 (n+4),b18,k18,(W.mg_of X G a18)⟩;have g20:=λ n:Nat=>a9f (mg:=mg) (P:=l.prog) (w:=w) (base:=base) F20 ⟨g5 (n+6),b5,k5,(W.mg_of X G a5)⟩ ⟨g19 (n+0),b19,k19,(W.mg_of X G a19)⟩;have g21:=λ n:Nat=>b2E (mg:=mg) (P:=l.prog) (w:=w) (base:=base) (n:=n) F21 T;have g22:=λ n:Nat=>b2C (mg:=mg) (P:=l.prog) (w:=w) (base:=base) F22 T k_TooMany m_TooMany C_MOST_AMOUNT ⟨g5 (n+0),b5,k5,(W.mg_of X G a5)⟩ ⟨g21 (n+0),b21,k21,(W.mg_of X G a21)⟩;have g23:=λ n:Nat=>a7u (mg:=mg) (P:=l.prog) (w:=w) (base:=base) (n:=n) F23;have g24:=λ n:Nat=>a9G (mg:=mg) (P:=l.prog) (w:=w) (base:=base) F24 T ⟨g14 (n+0),b14,k14,(W.mg_of X G a14)⟩ ⟨g15 (n+4),b15,k15,(W.mg_of X G a15)⟩;have g25:=λ n:Nat=>a9a (mg:=mg) (P:=l.prog) (w:=w) (base:=base) F25 T ⟨g24 (n+0),b24,k24,(W.mg_of X G a24)⟩;have g26:=λ n:Nat=>a9w (mg:=mg) (P:=l.prog) (w:=w) (base:=base) (n:=n) F26 T;have g27:=λ n:Nat=>a5z (mg:=mg) (P:=l.prog) (w:=w) (base:=base) F27 T SG ⟨g18 (n+0),b18,k18,(W.mg_of X G a18)⟩ ⟨g26 (n+1),b26,k26,(W.mg_of X G a26)⟩;have g28:=λ n:Nat=>a8U (mg:=mg) (P:=l.prog) (w:=w) (base:=base) F28 ⟨g5 (n+5),b5,k5,(W.mg_of X G a5)⟩ ⟨g16 (n+0),b16,k16,(W.mg_of X G a16)⟩ ⟨g18 (n+4),b18,k18,(W.mg_of X G a18)⟩ ⟨g27 (n+3),b27,k27,(W.mg_of X G a27)⟩;have g29:=λ n:Nat=>b1J (mg:=mg) (P:=l.prog) (w:=w) (base:=base) F29 ⟨g17 (n+0),b17,k17,(W.mg_of X G a17)⟩;have g30:=λ n:Nat=>a8n (mg:=mg) (P:=l.prog) (w:=w) (base:=base) F30 T ⟨g29 (n+0),b29,k29,(W.mg_of X G a29)⟩ ⟨g26 (n+1),b26,k26,(W.mg_of X G a26)⟩;have g31:=λ n:Nat=>a7J (mg:=mg) (P:=l.prog) (w:=w) (base:=base) F31 T ⟨g30 (n+0),b30,k30,(W.mg_of X G a30)⟩ ⟨g18 (n+1),b18,k18,(W.mg_of X G a18)⟩;have g32:=λ n:Nat=>b0R (mg:=mg) (P:=l.prog) (w:=w) (base:=base) F32 ⟨g23 (n+0),b23,k23,(W.mg_of X G a23)⟩;exact b3n F33 T (W.mg_none_of X G zset) ⟨⟨g4 6,b4,k4,(W.mg_of X G a4)⟩,⟨g1 7,b1,k1,(W.mg_of X G a1)⟩,⟨g2 7,b2,k2,(W.mg_of X G a2)⟩,⟨g20 0,b20,k20,(W.mg_of X G a20)⟩,⟨g22 6,b22,k22,(W.mg_of X G a22)⟩,⟨g23 7,b23,k23,(W.mg_of X G a23)⟩,⟨g25 1,b25,k25,(W.mg_of X G a25)⟩,⟨g28 1,b28,k28,(W.mg_of X G a28)⟩,⟨g31 4,b31,k31,(W.mg_of X G a31)⟩,⟨g32 6,b32,k32,(W.mg_of X G a32)⟩⟩
end Rim
def PySem.W.Fast.tw17533887574704686333:Nat:=0
def PySem.W.Fast.tw18412168299978790729:Nat:=0
def PySem.W.Fast.tw15885120254723333045:Nat:=0
def PySem.W.Fast.tw256235243028649180:Nat:=0
def PySem.W.Fast.tw5232594279873138203:Nat:=0
def PySem.W.Fast.tw11703151021955458255:Nat:=0
def PySem.W.Fast.tw9803173391884490575:Nat:=0
def PySem.W.Fast.tw17087285184216089695:Nat:=0
def PySem.W.Fast.tw950107116286719939:Nat:=0
def PySem.W.Fast.tw14843122753578420925:Nat:=0
def PySem.W.Fast.tw9283020333977636109:Nat:=0
def PySem.W.Fast.tw9328590280745847557:Nat:=0
def PySem.W.Fast.tw435594838586743957:Nat:=0
def PySem.W.Fast.tw5602874326584777645:Nat:=0
def PySem.W.Fast.tw13149010516312686773:Nat:=0
def PySem.W.Fast.tw2125635158077566543:Nat:=0
def PySem.W.Fast.tw5364065726349492121:Nat:=0
def PySem.W.Fast.tw13234006335731651132:Nat:=0
def PySem.W.Fast.tw4438756672817646302:Nat:=0
def PySem.W.Fast.tw13069795445323237315:Nat:=0
def PySem.W.Fast.tw8796583590671274622:Nat:=0
def PySem.W.Fast.tw10209071565066492548:Nat:=0
def PySem.W.Fast.tw130347458783790536:Nat:=0
def PySem.W.Fast.tw3559782187523844475:Nat:=0
def PySem.W.Fast.tw9603355413873231893:Nat:=0
def PySem.W.Fast.tw3996842812623788574:Nat:=0
def PySem.W.Fast.tw5645222598624010384:Nat:=0
def PySem.W.Fast.tw8644351065387517371:Nat:=0
def PySem.W.Fast.tw14631351077012128062:Nat:=0
def PySem.W.Fast.tw3515462696912698267:Nat:=0
def PySem.W.Fast.tw13356418320253814235:Nat:=0
def PySem.W.Fast.tw3215326922227633180:Nat:=0
def PySem.W.Fast.tw3899179830349774347:Nat:=0
def PySem.W.Fast.tw6759620418332079582:Nat:=0
def PySem.W.Fast.tw1942601093836000973:Nat:=0
def PySem.W.Fast.tw8327045208105838434:Nat:=0
def PySem.W.Fast.tw3627987225148380228:Nat:=0
def PySem.W.Fast.tw7388755878671352717:Nat:=0
def PySem.W.Fast.tw2652772903482283674:Nat:=0
def PySem.W.Fast.tw5555788803095722604:Nat:=0
def PySem.W.Fast.tw16182841396757274436:Nat:=0
def PySem.W.Fast.tw17845532270879681571:Nat:=0
def PySem.W.Fast.tw7180706355689208432:Nat:=0
def PySem.W.Fast.tw5776855334162062340:Nat:=0
def PySem.W.Fast.tw16275219127541221678:Nat:=0
def PySem.W.Fast.tw2398483044208870548:Nat:=0
def PySem.W.Fast.tw9511178427177239510:Nat:=0
def PySem.W.Fast.tw2159285496032420563:Nat:=0
def PySem.W.Fast.tw14734369329108648604:Nat:=0
def PySem.W.Fast.tw10008062760924824769:Nat:=0
def PySem.W.Fast.tw3922563134247996948:Nat:=0
def PySem.W.Fast.tw356664355993818177:Nat:=0
def PySem.W.Fast.tw12140728717065584994:Nat:=0
def PySem.W.Fast.tw12552975845356238499:Nat:=0
def PySem.W.Fast.tw9903124007003700720:Nat:=0
def PySem.W.Fast.tw12075616950534258265:Nat:=0
def PySem.W.Fast.tw2196460972967084416:Nat:=0
def PySem.W.Fast.tw6199825942985925909:Nat:=0
def PySem.W.Fast.tw9322114523464099785:Nat:=0
def PySem.W.Fast.tw5485138068654645118:Nat:=0
def PySem.W.Fast.tw6088205319747412874:Nat:=0
def PySem.W.Fast.tw10745004217406703189:Nat:=0
def PySem.W.Fast.tw4749826323889080087:Nat:=0
def PySem.W.Fast.tw17925264647456447679:Nat:=0
def PySem.W.Fast.tw14502465262599155091:Nat:=0
def PySem.W.Fast.tw18400644839677371676:Nat:=0
def PySem.W.Fast.tw3872168601597633321:Nat:=0
def PySem.W.Fast.tw8118534021505037406:Nat:=0
def PySem.W.Fast.tw12215107473439937248:Nat:=0
def PySem.W.Fast.tw18203565511633281603:Nat:=0
def PySem.W.Fast.tw16140449504951435856:Nat:=0
def PySem.W.Fast.tw4292581457598279451:Nat:=0
def PySem.W.Fast.tw9364707517669628922:Nat:=0
def PySem.W.Fast.tw11126484596728010735:Nat:=0
def PySem.W.Fast.tw8543747053284612320:Nat:=0
def PySem.W.Fast.tw2165849468213636393:Nat:=0
def PySem.W.Fast.tw16311243870934004311:Nat:=0
def PySem.W.Fast.tw1430450065754791085:Nat:=0
def PySem.W.Fast.tw18415685536469728479:Nat:=0
def PySem.W.Fast.tw11632063952204667656:Nat:=0
def PySem.W.Fast.tw2242246878034661889:Nat:=0
def PySem.W.Fast.tw12162046887280229862:Nat:=0
def PySem.W.Fast.tw9205778700932245862:Nat:=0
def PySem.W.Fast.tw8618908250215848548:Nat:=0
def PySem.W.Fast.tw13809448822423365126:Nat:=0
def PySem.W.Fast.tw3317766911939622917:Nat:=0
def PySem.W.Fast.tw16888705168702745252:Nat:=0
def PySem.W.Fast.tw12196654271795348615:Nat:=0
def PySem.W.Fast.tw651068485168955911:Nat:=0
def PySem.W.Fast.tw15769030875867227782:Nat:=0
def PySem.W.Fast.tw11082932925052763980:Nat:=0
def PySem.W.Fast.tw16616234300981523561:Nat:=0
def PySem.W.Fast.tw10646330432753447548:Nat:=0
def PySem.W.Fast.tw7246473605309347422:Nat:=0
def PySem.W.Fast.tw8292904058383806292:Nat:=0
def PySem.W.Fast.tw2229427194789226417:Nat:=0
def PySem.W.Fast.tw3250044861909715379:Nat:=0
def PySem.W.Fast.tw6255767059447093672:Nat:=0
def PySem.W.Fast.tw16753189651589484447:Nat:=0
def PySem.W.Fast.tw3307566638620907389:Nat:=0
def PySem.W.Fast.tw872997776019595817:Nat:=0
def PySem.W.Fast.tw10092056241395088725:Nat:=0
def PySem.W.Fast.tw17429923528034814968:Nat:=0
def PySem.W.Fast.tw13343479714863890179:Nat:=0
def PySem.W.Fast.tw5498292810718393236:Nat:=0
def PySem.W.Fast.tw18337676389227680411:Nat:=0
def PySem.W.Fast.tw3575256787126338184:Nat:=0
def PySem.W.Fast.tw16487972128678010677:Nat:=0
def PySem.W.Fast.tw1956150055477874443:Nat:=0
def PySem.W.Fast.tw1292247355303174279:Nat:=0
def PySem.W.Fast.tw16268851599825245603:Nat:=0
def PySem.W.Fast.tw2631475517045093336:Nat:=0
def PySem.W.Fast.tw2484819405015911215:Nat:=0
def PySem.W.Fast.tw13681056256819369317:Nat:=0
def PySem.W.Fast.tw3823447037685274632:Nat:=0
def PySem.W.Fast.tw6559728500804593323:Nat:=0
def PySem.W.Fast.tw14866146864205153964:Nat:=0
def PySem.W.Fast.tw1931794478518717975:Nat:=0
def PySem.W.Fast.tw12288402426405631875:Nat:=0
def PySem.W.Fast.tw13600032327475954213:Nat:=0
def PySem.W.Fast.tw1812563965830946333:Nat:=0
def PySem.W.Fast.tw9303578804967192608:Nat:=0
def PySem.W.Fast.tw6995263190045749655:Nat:=0
def PySem.W.Fast.tw6773483598415583648:Nat:=0
def PySem.W.Fast.tw4511768646623048448:Nat:=0
def PySem.W.Fast.tw8401848183540822655:Nat:=0
def PySem.W.Fast.tw394443759406148169:Nat:=0
def PySem.W.Fast.tw16039258838448308162:Nat:=0
def PySem.W.Fast.tw13306597710170464695:Nat:=0
def PySem.W.Fast.tw17373432694584880293:Nat:=0
def PySem.W.Fast.tw14141765497650376880:Nat:=0
def PySem.W.Fast.tw3516330164864143029:Nat:=0
def PySem.W.Fast.tw3385044117830634787:Nat:=0
def PySem.W.Fast.tw6187661377077721993:Nat:=0
def PySem.W.Fast.tw15162005118898839350:Nat:=0
def PySem.W.Fast.tw7598897380233195542:Nat:=0
def PySem.W.Fast.tw4811424910516919207:Nat:=0
def PySem.W.Fast.tw6714274697305548356:Nat:=0
def PySem.W.Fast.tw17040190538900426054:Nat:=0
def PySem.W.Fast.tw6433734699641910801:Nat:=0
def PySem.W.Fast.tw502484928244184028:Nat:=0
def PySem.W.Fast.tw17844049349755565664:Nat:=0
def PySem.W.Fast.tw392004842708148227:Nat:=0
def PySem.W.Fast.tw1327604227365850441:Nat:=0
def PySem.W.Fast.tw14098864862469483895:Nat:=0
def PySem.W.Fast.tw11645986245747645597:Nat:=0
def PySem.W.Fast.tw11767069722722880948:Nat:=0
def PySem.W.Fast.tw8844552866788435841:Nat:=0
def PySem.W.Fast.tw1888961216105018920:Nat:=0
def PySem.W.Fast.tw18021095001215360222:Nat:=0
def PySem.W.Fast.tw15785279879464361399:Nat:=0
def PySem.W.Fast.tw5597006000544610954:Nat:=0
def PySem.W.Fast.tw14295445247446707571:Nat:=0
def PySem.W.Fast.tw13800032857473155267:Nat:=0
def PySem.W.Fast.tw18107530937012941295:Nat:=0
def PySem.W.Fast.tw908454604178959692:Nat:=0
def PySem.W.Fast.tw15969059217822394128:Nat:=0
def PySem.W.Fast.tw6803300887889817167:Nat:=0
def PySem.W.Fast.tw17532443620724952977:Nat:=0
def PySem.W.Fast.tw3954625222546292002:Nat:=0
def PySem.W.Fast.tw21526973202443625:Nat:=0
def PySem.W.Fast.tw13828105737073096457:Nat:=0
def PySem.W.Fast.tw13819130779927616332:Nat:=0
def PySem.W.Fast.tw925832148995206685:Nat:=0
def PySem.W.Fast.tw8389788328891139689:Nat:=0
def PySem.W.Fast.tw16149951247935365633:Nat:=0
def PySem.W.Fast.tw14113190740608827294:Nat:=0
def PySem.W.Fast.tw16759760084850247924:Nat:=0
namespace Rim
open PySem L2 Fr
theorem walk {l:W.OpenLaw} {q:Program} {loose:List Str} {XP:(Str->Option Value)->Heap->Prop} {YP:World->Heap->Prop} {d:DefRec} {K:Params->W.Frag} {Ct Pt:Addr} (hn:l.most=some 63) (hdf:d.params.defaults=[])
  (hY:∀ (w:World) (h:Heap),YP w h->(K w.params).In h/\∀ t∈[(Ct,Pt)],h.get? t.2=some (W.tabObj #[]))
  (hC:∀ (w:World),∀ t∈[(Ct,Pt)],W.codeHdIn (K w.params) t.1 t.2=true/\(K w.params).lookup t.2=none)
  (F:∀ (w:World) (mg:Str->Option Value) (fa:Addr) (h:Heap),(K w.params).In h->h.Ns mainGlobals mg->mg d.name=some (.ref fa) →
   ∃ fd:FuncData,(∀ (s:Shared) (u:Value),BindsTo s fd ⟨[u],[]⟩ [("script",u)])/\∀ base:Heap,(K w.params).In base->base.Ns mainGlobals mg->S4 mg base->(∀ t∈[(Ct,Pt)],W.CodeHd base t.1 t.2)->FnOk l.prog w (K w.params) mg base J7 9 fa fd ["script"] (a7g (K w.params) Pt)) :
  W.WalkO q loose XP YP l.row.toRowW d [] (λ f vs=>iW f vs) :=
 L2.walk_ofT (n:=63) (k:=9) (x:="script") (Ts:=[(Ct,Pt)]) (CX:=λ _=>J7) (sp:=λ w=>a7g (K w.params) Pt) hn (by decide) hdf ⟨rfl,by decide,by decide⟩ hY hC F (λ _ _ a ns hl hT hS=>⟨a,ns,rfl,hS,hl,.inl (hT _ (.head _)),λ _=>rfl⟩) λ _ _ _ _ _ z=>z
end Rim
open PySem PySem.W PyProof.Rows
set_option maxRecDepth 100000 in
set_option maxHeartbeats 0 in
theorem PySem.Challenge.cw_rimhouse_k27_whole_merged_behind_holds : PySem.Challenge.rw_rimhouse_k27_whole_merged_behind.Holds := by
  w_on; o_law; km_head; (case hw=>w_witness2)
  k_fill
  refine' Rim.walk (l:=PySem.Challenge.rw_rimhouse_k27_whole_merged_behind) (Ct:=_) (Pt:=96) rfl rfl ?Y ?C ?F
  case Y=>exact λ w h Y=>⟨W.km_in_of Y,λ t ht=>by rw [bH.mp ht]; exact W.km_tabs_of Y _ (.head _)⟩
  case F =>
    intro w mg fa h KX G hmg;refine' Rim.all_mk KX G hmg ?aB ?a1 ?l1 ?a2 ?l2 ?a3 ?l3 ?a4 ?l4 ?a5 ?l5 ?a6 ?l6 ?n6 ?a7 ?l7 ?n7 ?a8 ?l8 ?n8 ?a9 ?l9 ?n9 ?a10 ?l10 ?a11 ?l11 ?n11 ?a12 ?l12 ?n12 ?a13 ?l13 ?n13 ?a14 ?l14 ?a15 ?l15 ?a16 ?l16 ?a17 ?l17 ?a18 ?l18 ?a19 ?l19 ?a20 ?l20 ?a21 ?l21 ?a22 ?l22 ?a23 ?l23 ?a24 ?l24 ?a25 ?l25 ?a26 ?l26 ?a27 ?l27 ?a28 ?l28 ?a29 ?l29 ?a30 ?l30 ?a31 ?l31 ?a32 ?l32 ?a33 ?l33 ?c33 ?k33 ?z1 ?z2 ?z3 ?z4 ?z5 ?z6 ?z7 ?z8 ?z9 ?z10 ?z11 ?z12 ?z13 ?z14 ?z15 ?z16 ?z17 ?bp ?bh ?bo ?bs ?b_many ?b_scale ?b_cells ?b_outs ?b_ins ?bm ?bk ?s1 ?s3 ?s4 ?sa0 ?sb0 ?sa1 ?sb1 ?sa2 ?sb2 ?sa3 ?sb3 ?xmNoHouse ?xoNoHouse ?xgaNoHouse ?xgnNoHouse ?xcaNoHouse ?xmoNoHouse ?xmbNoHouse ?xmTooMany ?xoTooMany ?xgaTooMany ?xgnTooMany ?xcaTooMany ?xmoTooMany ?xmbTooMany ?cmMOST_AMOUNT ?zset
    (case aB=>k_is)
    (case a1=>k_is)
    (case l1=>(refine' L2.fun_in ?l ?c ?k; (case l=>k_is); (case c=>k_is); (case k=>k_is)))
    (case a2=>k_is)
    (case l2=>(refine' L2.fun_in ?l ?c ?k; (case l=>k_is); (case c=>k_is); (case k=>k_is)))
    (case a3=>k_is)
    (case l3=>(refine' L2.fun_in ?l ?c ?k; (case l=>k_is); (case c=>k_is); (case k=>k_is)))
    (case a4=>k_is)
    (case l4=>(refine' L2.fun_in ?l ?c ?k; (case l=>k_is); (case c=>k_is); (case k=>k_is)))
    (case a5=>k_is)
    (case l5=>(refine' L2.fun_in ?l ?c ?k; (case l=>k_is); (case c=>k_is); (case k=>k_is)))
    (case a6=>k_is)
    (case l6=>(refine' L2.fun_in ?l ?c ?k; (case l=>k_is); (case c=>k_is); (case k=>k_is)))
    (case n6=>k_is)
    (case a7=>k_is)
    (case l7=>(refine' L2.fun_in ?l ?c ?k; (case l=>k_is); (case c=>k_is); (case k=>k_is)))
    (case n7=>k_is)
    (case a8=>k_is)
    (case l8=>(refine' L2.fun_in ?l ?c ?k; (case l=>k_is); (case c=>k_is); (case k=>k_is)))
    (case n8=>k_is)
    (case a9=>k_is)
    (case l9=>(refine' L2.fun_in ?l ?c ?k; (case l=>k_is); (case c=>k_is); (case k=>k_is)))
    (case n9=>k_is)
    (case a10=>k_is)
    (case l10=>(refine' L2.fun_in ?l ?c ?k; (case l=>k_is); (case c=>k_is); (case k=>k_is)))
    (case a11=>k_is)
    (case l11=>(refine' L2.fun_in ?l ?c ?k; (case l=>k_is); (case c=>k_is); (case k=>k_is)))
    (case n11=>k_is)
    (case a12=>k_is)
    (case l12=>(refine' L2.fun_in ?l ?c ?k; (case l=>k_is); (case c=>k_is); (case k=>k_is)))
    (case n12=>k_is)
    (case a13=>k_is)
    (case l13=>(refine' L2.fun_in ?l ?c ?k; (case l=>k_is); (case c=>k_is); (case k=>k_is)))
    (case n13=>k_is)
    (case a14=>k_is)
    (case l14=>(refine' L2.fun_in ?l ?c ?k; (case l=>k_is); (case c=>k_is); (case k=>k_is)))
    (case a15=>k_is)
    (case l15=>(refine' L2.fun_in ?l ?c ?k; (case l=>k_is); (case c=>k_is); (case k=>k_is)))
    (case a16=>k_is)
    (case l16=>(refine' L2.fun_in ?l ?c ?k; (case l=>k_is); (case c=>k_is); (case k=>k_is)))
    (case a17=>k_is)
    (case l17=>(refine' L2.fun_in ?l ?c ?k; (case l=>k_is); (case c=>k_is); (case k=>k_is)))
    (case a18=>k_is)
    (case l18=>(refine' L2.fun_in ?l ?c ?k; (case l=>k_is); (case c=>k_is); (case k=>k_is)))
    (case a19=>k_is)
    (case l19=>(refine' L2.fun_in ?l ?c ?k; (case l=>k_is); (case c=>k_is); (case k=>k_is)))
    (case a20=>k_is)
    (case l20=>(refine' L2.fun_in ?l ?c ?k; (case l=>k_is); (case c=>k_is); (case k=>k_is)))
    (case a21=>k_is)
    (case l21=>(refine' L2.fun_in ?l ?c ?k; (case l=>k_is); (case c=>k_is); (case k=>k_is)))
    (case a22=>k_is)
    (case l22=>(refine' L2.fun_in ?l ?c ?k; (case l=>k_is); (case c=>k_is); (case k=>k_is)))
    (case a23=>k_is)
    (case l23=>(refine' L2.fun_in ?l ?c ?k; (case l=>k_is); (case c=>k_is); (case k=>k_is)))
    (case a24=>k_is)
    (case l24=>(refine' L2.fun_in ?l ?c ?k; (case l=>k_is); (case c=>k_is); (case k=>k_is)))
    (case a25=>k_is)
    (case l25=>(refine' L2.fun_in ?l ?c ?k; (case l=>k_is); (case c=>k_is); (case k=>k_is)))
    (case a26=>k_is)
    (case l26=>(refine' L2.fun_in ?l ?c ?k; (case l=>k_is); (case c=>k_is); (case k=>k_is)))
    (case a27=>k_is)
    (case l27=>(refine' L2.fun_in ?l ?c ?k; (case l=>k_is); (case c=>k_is); (case k=>k_is)))
    (case a28=>k_is)
    (case l28=>(refine' L2.fun_in ?l ?c ?k; (case l=>k_is); (case c=>k_is); (case k=>k_is)))
    (case a29=>k_is)
    (case l29=>(refine' L2.fun_in ?l ?c ?k; (case l=>k_is); (case c=>k_is); (case k=>k_is)))
    (case a30=>k_is)
    (case l30=>(refine' L2.fun_in ?l ?c ?k; (case l=>k_is); (case c=>k_is); (case k=>k_is)))
    (case a31=>k_is)
    (case l31=>(refine' L2.fun_in ?l ?c ?k; (case l=>k_is); (case c=>k_is); (case k=>k_is)))
    (case a32=>k_is)
    (case l32=>(refine' L2.fun_in ?l ?c ?k; (case l=>k_is); (case c=>k_is); (case k=>k_is)))
    (case a33=>k_is)
    (case l33=>k_is)
    (case c33=>k_is)
    (case k33=>k_is)
    (case z1=>k_is)
    (case z2=>k_is)
    (case z3=>k_is)
    (case z4=>k_is)
    (case z5=>k_is)
    (case z6=>k_is)
    (case z7=>k_is)
    (case z8=>k_is)
    (case z9=>k_is)
    (case z10=>k_is)
    (case z11=>k_is)
    (case z12=>k_is)
    (case z13=>k_is)
    (case z14=>k_is)
    (case z15=>k_is)
    (case z16=>k_is)
    (case z17=>k_is)
    (case bp=>k_is)
    (case bh=>k_is)
    (case bo=>k_is)
    (case bs=>k_is)
    (case b_many=>k_is)
    (case b_scale=>k_is)
    (case b_cells=>k_is)
    (case b_outs=>k_is)
    (case b_ins=>k_is)
    (case bm=>k_is)
    (case bk=>k_is)
    (case s1=>k_is)
    (case s3=>k_is)
    (case s4=>k_keys)
    (case sa0=>k_is)
    (case sb0=>k_is)
    (case sa1=>k_is)
    (case sb1=>k_is)
    (case sa2=>k_is)
    (case sb2=>k_is)
    (case sa3=>k_is)
    (case sb3=>k_is)
    (case xmNoHouse=>k_is)
    (case xoNoHouse=>k_exc)
    (case xgaNoHouse=>k_is)
    (case xgnNoHouse=>k_is)
    (case xcaNoHouse=>k_is)
    (case xmoNoHouse=>k_is)
    (case xmbNoHouse=>k_is)
    (case xmTooMany=>k_is)
    (case xoTooMany=>k_exc)
    (case xgaTooMany=>k_is)
    (case xgnTooMany=>k_is)
    (case xcaTooMany=>k_is)
    (case xmoTooMany=>k_is)
    (case xmbTooMany=>k_is)
    (case cmMOST_AMOUNT=>k_is)
    (case zset=>k_is)
  case C=>exact λ w t ht=>by rw [bH.mp ht]; exact ⟨by kernel_rfl,by kernel_rfl⟩
