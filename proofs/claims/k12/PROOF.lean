import PyProof.Rows.All
import Wide.All
import OpenK.AllK
import Wide.FinOn
import Lean
import PyProof.EqAt
import PyProof.EqKinds
import PyProof.TupleCall
import PyProof.NeData
import PyProof.ZipIter
import PyProof.EnumMake
import PyProof.EnumFor
import KE.KMinKey
import KE.KUnpack
import KE.KNestM
import PyProof.AssignAttr
import PyProof.ListMulRoad
import PyProof.AutoSeq1
import PyProof.FactsAll.tuple_2
import KE.KLam
import PySem.Challenge.RW_rimhouse_k12_whole_kept
set_option Elab.async false
set_option maxHeartbeats 16000000
set_option linter.all false
set_option maxRecDepth 100000
open Array renaming length_toList->gF,toList->jB
open Bool renaming false_ne_true->bW,and_eq_true->dO,eq_false_iff->eM,eq_iff_iff->fK,false_eq_true->gL,noConfusion->jP
open Classical renaming byContradiction->fC,propDecidable->iY,choose_spec->kW,choose->mU
open False renaming elim->bM
open ForInStep renaming yield->gM
open Iff renaming rfl->gS
open Int renaming mul_comm->aU,mul_assoc->aX,toNat_natCast->aY,mul_zero->bD,le_of_lt->bH,le_refl->cD,mul_nonneg->cN,add_mul->cV,mul_neg->dI,mul_le_mul_of_nonneg_right->dQ,add_zero->dR,mul_pos->dY,zero_mul->dZ,emod_nonneg->eF,emod_lt_of_pos->eG,neg_mul->eN,zero_add->eO,mul_one->eR,mul_add->fN,mul_sub->fO,mul_le_mul_of_nonneg_left->fP,one_mul->gD,natAbs_neg->gE,mul_eq_zero->gR,le_trans->gT,gcd->iJ,natAbs_mul->iK,eq_of_mul_eq_mul_right->iL,le_of_mul_le_mul_right->iO,fdiv_eq_ediv_of_nonneg->jC,dvd_mul_of_dvd_left->jQ,mul_ediv_cancel_left->jR,mul_ediv_cancel'->jS,mul_dvd_mul_left->jT,natAbs_dvd_natAbs->jU,sub_mul->jZ,mul_le_mul->kA,lt_of_le_of_lt->kK,add_sub_cancel->kM,lt_of_lt_of_le->kP
open List renaming length_map->aA,getElem?_map->aD,range->aE,replicate->aG,getElem?_eq_getElem->aH,getD_eq_getElem?_getD->aI,mem_cons->aJ,length_append->aM,mem_append->aO,map_map->aQ,size_toArray->aT,map_cons->aV,not_mem_nil->aZ,mem_map->bA,map_append->bC,getElem?_set_ne->bE,mem_singleton->bF,getElem?_range->bG,getElem?_eq_none->bK,mem_cons_of_mem->bL,mem_append_right->bN,getElem?_append_left->bO,length_replicate->bP,getElem?_eq_some_iff->bQ,mem_of_getElem?->bS,sum_cons->bU,getElem?_set_self->bV,getElem?_append_right->bZ,length_set->cA,zipWith->cF,mem_cons_self->cG,length_take->cI,zipWith_cons_cons->cJ,ext_getElem?->cK,cons_append->cQ,mem_range->cS,getElem_mem->cU,map_congr_left->cW,length_cons->cY,replicate_succ->cZ,length_singleton->dA,lookup_cons->dB,length_drop->dE,map_nil->dG,getElem?_replicate->dL,append_assoc->dM,mem_append_left->dN,nil_append->dW,length_range->eD,mem_replicate->eH,mem_of_mem_drop->eJ,lookup->eK,forIn_cons->eL,append_nil->eW,flatten_cons->eX,foldl->eY,forIn_nil->eZ,take_of_length_le->fA,set_comm->fH,length_zipWith->fM,range_succ->fR,mem_of_mem_take->fU,mem_filter->fW,all_eq_true->fY,length_filter_le->gB,length_nil->gC,nodup_cons->gH,of_mem_zip->gJ,zipIdx_cons->gO,zipIdx_nil->gP,filter_append->gQ,eq_nil_of_length_eq_zero->gW,take_left'->gX,map_eq_nil_iff->gY,filterMap_cons->hU,mem_filterMap->hV,length->hZ,getElem_of_mem->iF,any_eq_true->iG,length_pos_iff->iH,mem_or_eq_of_mem_set->iN,map_set->iP,getElem?_zipWith->iQ,dropLast_concat_getLast->iV,getElem?_of_mem->iW,map_drop->iZ,getElem?_eq_none_iff->jA,getElem?_take_of_lt->jD,take_succ_eq_append_getElem->jM,take_succ->jN,drop_zero->jV,range_succ_eq_map->jW,getElem?_drop->jX,set_set->jY,map->kO,map_id->kQ,drop_left'->kS,forIn_toArray->kU,map_take->kY,map_replicate->kZ
open List.Pairwise renaming nil->mJ
open Nat renaming le_refl->aF,lt_of_lt_of_le->aR,le_trans->aW,ne_of_lt->bI,lt_irrefl->bJ,zero_le->bR,lt_of_le_of_lt->cC,le_of_lt->cO,ne_of_gt->cP,le_add_right->dP,min_le_left->dU,add_sub_cancel_left->eI,lt_succ_self->eV,min_eq_left->fB,sub_self->fQ,max_le->fV,lt_succ_of_lt->fZ,le_succ->gG,succ_mul->gK,pow_le_pow_right->gU,le_of_eq->hW,le_of_not_lt->iA,log2_lt->iI,mul_le_mul->iM,pow_pos->iT,mul_le_mul_right->iU,mul_comm->jJ,lt_of_succ_le->jL,le_antisymm->kC,pow_add->kJ,add_assoc->kL
open Ne renaming symm->aS
open Option renaming getD_some->dX,map_some->fD,getD_none->jI,none->jK
open Option.some renaming inj->aL
open Or renaming inl->aC,inr->dH
open Prod renaming ext->jH
open PyProof.Rows renaming envOfC->dC,boot_isinstance->dD,boot_list->dJ,boot_tuple->fG,callWith_type1->fJ,slot_tuple_getitem->fL,boot_int->fT,boot_min->iR,boot_sum->iX,boot_range->kF,boot_max->kH,callWith_builtin1->mG,callWith_kw->mK,boot_bool->mP,boot_all->mQ,boot_any->mS
open PyProof.Rows.Boot renaming abs->mO
open PySem renaming Paired->aN,boot_len->bB,mem_of_lookup->fX,Fin->gA,Within->gZ,call->iE,ofString_length->jO,seqSlot_of->kX
open PySem.EqMixed renaming eq_bool_str->lJ,eq_int_str->lL,eq_str_bool->lN,eq_str_int->lO,ne_bool_str->lU,ne_int_str->lW,ne_str_bool->lY,ne_str_int->lZ
open PySem.EqNone renaming eq_none_none->lE,eq_none_bool->lF,eq_none_int->lG,eq_none_str->lH,eq_bool_none->lI,eq_int_none->lK,eq_str_none->lM,ne_none_none->lP,ne_none_bool->lQ,ne_none_int->lR,ne_none_str->lS,ne_bool_none->lT,ne_int_none->lV,ne_str_none->lX
open PySem.F renaming plainAttrs_list->eE,slot_list_append->fE,type_list_append->fF,slot_tuple_add->jE,entry_tuple_add->jF,args_tuple_add_2->jG,slot_list_pop->lC,type_list_pop->lD
open PySem.IsL renaming update->mI
open PySem.StrLaws renaming seqIndex_nonneg->mV
open PySem.Within renaming cons->mD
open Sum renaming inl->eP,inr->eQ
open True renaming intro->eU
namespace L2
open PySem PySem.Spec PyProof.Rows
abbrev Key:=Sum Int Str
def b1A:Key->Value->Bool
 | .inl k,v=>Value.isInt k v
 | .inr x,v=>Value.isStrOf x v
def b4R (w:World):Key->Int
 | .inl k=>hashInt k
 | .inr x=>hashStr w x
theorem B9:∀ {k:Key} {v:Value},b1A k v=true->(∃ i t,k=eP i/\v=Value.int i t)\/(∃ x t,k=eQ x/\v=Value.str x t)
 | .inl i,v,h=>by
  obtain ⟨t,e⟩:=Value.isInt_shape (k:=i) (v:=v) h;exact .inl ⟨i,t,rfl,e⟩
 | .inr x,v,h=>by
  obtain ⟨t,e⟩:=Value.isStrOf_shape (x:=x) (v:=v) h;exact .inr ⟨x,t,rfl,e⟩
theorem b1R (a b:Int):decide ((eP a:Key)=eP b)=(a==b):=by
 by_cases e:a=b
 ·subst e; simp
 ·have h:¬ (eP a:Key)=eP b:=λ q=>e (Sum.inl.inj q)
  rw [decide_eq_false h];exact (beq_eq_false_iff_ne.mpr e).symm
theorem b2x (a b:Str):decide ((eQ a:Key)=eQ b)=decide (a=b):=by
 by_cases e:a=b
 ·subst e; simp
 ·have h:¬ (eQ a:Key)=eQ b:=λ q=>e (Sum.inr.inj q)
  rw [decide_eq_false h,decide_eq_false e]
theorem b1S (a:Int) (b:Str):decide ((eP a:Key)=eQ b)=false:=decide_eq_false (λ q=>nomatch q)
theorem b1L (a:Str) (b:Int):decide ((eQ a:Key)=eP b)=false:=decide_eq_false (λ q=>nomatch q)
def a6Q (prog:Program) (w:World):PySem.KeyKind prog w Key where
 is:=b1A
 hash:=b4R w
 inj:=λ v a b ha hb=>by
  rcases B9 ha with ⟨i,t,rfl,rfl⟩ | ⟨x,t,rfl,rfl⟩
  ·rcases B9 hb with ⟨j,u,rfl,e⟩ | ⟨y,u,rfl,e⟩
   ·injection e with e1 _; rw [e1]
   ·exact nomatch e
  ·rcases B9 hb with ⟨j,u,rfl,e⟩ | ⟨y,u,rfl,e⟩
   ·exact nomatch e
   ·injection e with e1 _; rw [e1]
 byValue:=λ k v h=>by
  rcases B9 h with ⟨i,t,rfl,rfl⟩ | ⟨x,t,rfl,rfl⟩ <;> rfl
 pyHash:=λ hv h=>by
  rcases B9 hv with ⟨i,t,rfl,rfl⟩ | ⟨x,t,rfl,rfl⟩
  ·exact wpAny_pyHash_int h
  ·exact wpAny_pyHash_str h
 eqBool:=λ hu hv h=>by
  rcases B9 hu with ⟨i,t,rfl,rfl⟩ | ⟨x,t,rfl,rfl⟩
  ·rcases B9 hv with ⟨j,u,rfl,rfl⟩ | ⟨y,u,rfl,rfl⟩
   ·rw [b1R] at h; exact wpAny_eqBool_int h
   ·rw [b1S] at h; exact SeqAt.EqAt.int_str i t y u _ _ _ _ h
  ·rcases B9 hv with ⟨j,u,rfl,rfl⟩ | ⟨y,u,rfl,rfl⟩
   ·rw [b1L] at h; exact SeqAt.EqAt.str_int x t j u _ _ _ _ h
   ·rw [b2x] at h; exact wpAny_eqBool_str h
 «strs»:=λ k x t v h=>by
  rcases B9 h with ⟨i,u,rfl,e⟩ | ⟨y,u,rfl,e⟩
  ·exact nomatch e
  ·injection e with e1 _
   subst e1
   cases v <;> rfl
inductive V where
 | non | bl (b:Bool) | int (i:Int) | str (x:Str) | byt (b:Array UInt8) | flt (b:UInt64) | ref (a:Addr) | ty (n:String)
 deriving DecidableEq
def RelV:V->Value->Prop
 | .non,u=>u=Value.none
 | .bl b,u=>u=Value.bool b
 | .int i,u=>∃ t,u=Value.int i t
 | .str x,u=>∃ t,u=Value.str x t
 | .byt b,u=>∃ t,u=Value.bytes b t
 | .flt b,u=>∃ t,u=Value.float b t
 | .ref a,u=>u=Value.ref a
 | .ty n,u=>u=Value.type n
abbrev Vals:List V->List Value->Prop:=Paired RelV
theorem Vals.length {xs:List V} {us:List Value} (r:Vals xs us):xs.length=us.length:=Paired.length r
theorem Vals.get:∀ {xs:List V} {us:List Value} {i:Nat} {x:V},Vals xs us->xs[i]?=some x->∃ u,us[i]?=some u/\RelV x u
 | _,_,_,_,.nil,e=>by simp at e
 | _,_,0,_,.cons r _,e=>by simp at e; subst e; exact ⟨_,rfl,r⟩
 | _,_,i+1,x,.cons _ t,e=>by
  obtain ⟨u,h1,h2⟩:=Vals.get (i:=i) (x:=x) t (by simpa using e);exact ⟨u,by simpa using h1,h2⟩
theorem Vals.set {x:V} {u:Value} (r:RelV x u):∀ {xs:List V} {us:List Value} (i:Nat),Vals xs us->Vals (xs.set i x) (us.set i u)
 | _,_,_,.nil=>.nil
 | _,_,0,.cons _ t=>.cons r t
 | _,_,i+1,.cons q t=>.cons q (Vals.set r i t)
theorem Vals.append:∀ {xs ys:List V} {us ws:List Value},Vals xs us->Vals ys ws->Vals (xs++ys) (us++ws)
 | _,_,_,_,.nil,s=>s
 | _,_,_,_,.cons r t,s=>.cons r (Vals.append t s)
theorem Vals.take:∀ {xs:List V} {us:List Value} (n:Nat),Vals xs us->Vals (xs.take n) (us.take n)
 | _,_,0,_=>.nil
 | _,_,_+1,.nil=>.nil
 | _,_,n+1,.cons r t=>.cons r (Vals.take n t)
theorem Vals.drop:∀ {xs:List V} {us:List Value} (n:Nat),Vals xs us->Vals (xs.drop n) (us.drop n)
 | _,_,0,r=>r
 | _,_,_+1,.nil=>.nil
 | _,_,n+1,.cons _ t=>Vals.drop n t
theorem Vals.none_of:∀ {xs:List V} {us:List Value} {i:Nat},Vals xs us->xs[i]?=none->us[i]?=none:=λ {xs us i} r e=>by
 have h1:=r.length;have h2:xs.length<=i:=jA.mp e;exact jA.mpr (by omega)
def RelO:Option V->Option Value->Prop
 | some v,some u=>RelV v u
 | none,none=>True
 | _,_=>False
def KV {κ:Type}:List (κ×V)->List (κ×Value)->Prop:=Paired λ (p:κ×V) (q:κ×Value)=>p.1=q.1/\RelV p.2 q.2
def kV:Key->V
 | .inl i=>.int i
 | .inr x=>.str x
inductive HO where
  | lst (xs:List V)
  | tup (xs:List V)
  | dK (kvs:List (Key×V)) | dT (kvs:List (List Key×V))
  | set (S:Int->Bool) (n:Nat)
  | ins (C dx:Addr) (fs:List (Str×V))
  | own (x:Addr)
  | xd (fs:List (Str×V))
  | met (f x:Addr)
  | rng (lo hi:Int)
  | frz (o:Obj) (u:HO)
  | tbl (ps:Array Value)
  | ext (φ:Heap->Prop)
abbrev Hp:=Addr->Option HO
def r6 (H:Hp) (a:Addr) (o:HO):Hp:=λ b=>if b=a then some o else H b
theorem upd_same {H:Hp} {a:Addr} {o:HO}:r6 H a o a=some o:=by unfold r6; rw [if_pos rfl]
theorem c9 {H:Hp} {a b:Addr} {o:HO} (h:b≠a):r6 H a o b=H b:=by unfold r6; rw [if_neg h]
theorem T7 {H:Hp} {a:Addr} {o u:HO}:r6 (r6 H a o) a u=r6 H a u:=by
 funext b; unfold r6; split <;> rfl
theorem y9 {H:Hp} {a b:Addr} {o u:HO} (h:H a=some o) (h':H b=some u) (d:o≠u):a≠b:=by
 intro e; subst e; rw [h] at h'; exact d (aL h')
theorem d7 {H:Hp} {a b:Addr} {o:HO} (h:H a=some o) (h':H b=none):a≠b:=by
 intro e; subst e; rw [h] at h'; cases h'
section
variable (P:Program) (w:World)
def ObjOk (H:Hp) (h:Heap) (a:Addr):HO->Prop
 | .lst xs=>xs.length<=sizeLine/\∃ (its:List Value) (n:Nat),Vals xs its/\h.get? a=some { cls:=.type "list",data:=.seq its.toArray n }
 | .tup xs=>xs.length<=sizeLine/\∃ its:List Value,Vals xs its/\IsTup h a its.toArray
 | .dK kvs=>kvs.length<=sizeLine/\(a==sysModules)=false/\∃ vs,KV kvs vs/\h.DictOf (a6Q P w) a vs
 | .dT kvs=>kvs.length<=sizeLine/\(a==sysModules)=false/\∃ xs:List (List Key×Addr×Value),
   Paired (λ (p:List Key×V) (q:List Key×Addr×Value)=>p.1=q.1/\H q.2.1=some (.tup (p.1.map kV))/\RelV p.2 q.2.2) kvs xs ∧
   ∃ o es ep,h.get? a=some o/\o.ExactDict/\o.data=.dict es ep/\es.toList=xs.map (entryOfKey (tupleKind (a6Q P w)))/\(xs.map (·.1)).Nodup
 | .set S n=>h.SetOf (intKind P w) a S n
 | .ins C dx fs=>H dx=some (.own a)/\fs.length<=1000/\dx≠a/\h.get? a=some (W.instObj C dx) ∧
   ∃ mA,h.Ns1 dx mA/\(∀ f,RelO (fs.lookup f) (mA f))/\gZ mA (fs.map (·.1))
 | .own _=>∃ o,h.get? a=some o
 | .xd fs=>∃ mA,h.Ns1 a mA/\∀ f,RelO (fs.lookup f) (mA f)
 | .rng lo hi=>∃ t u v,h.get? a=some { cls:=.type "range",data:=.fields #[.int lo t,.int hi u,.int 1 v] }
 | .frz o u=>h.get? a=some o/\ObjOk H h a u
 | .tbl ps=>h.get? a=some { cls:=.none,data:=.fields ps }
 | .met f x=>h.get? a=some (W.methodObj (.ref f) (.ref x))
 | .ext φ=>φ h/\(∃ o,h.get? a=some o)/\∀ h1 h2:Heap,φ h1->(∀ o,h1.get? a=some o->h2.get? a=some o)->φ h2
def HOk (H:Hp) (h:Heap):Prop:=∀ a o,H a=some o->ObjOk P w H h a o
end
section
variable {P:Program} {w:World} {H H':Hp} {h h':Heap} {a:Addr} {o:HO}
theorem ObjOk.lt (x:ObjOk P w H h a o):a<h.objs.size:=by
 cases o with
 | lst xs=>obtain ⟨_,_,_,_,e⟩:=x; exact Heap.lt_size e
 | tup xs=>obtain ⟨_,_,_,p⟩:=x; exact p.lt
 | dK kvs=>obtain ⟨_,_,_,_,o,_,_,e,_⟩:=x; exact Heap.lt_size e
 | dT kvs=>obtain ⟨_,_,_,_,o,_,_,e,_⟩:=x; exact Heap.lt_size e
 | set S n=>obtain ⟨o,_,_,_,e,_⟩:=x; exact Heap.lt_size e
 | ins C dx fs=>obtain ⟨_,_,_,e,_⟩:=x; exact Heap.lt_size e
 | own y=>obtain ⟨_,e⟩:=x; exact Heap.lt_size e
 | xd fs=>obtain ⟨_,⟨_,_,_,e,_⟩,_⟩:=x; exact Heap.lt_size e
 | rng lo hi=>obtain ⟨_,_,_,e⟩:=x; exact Heap.lt_size e
 | frz ob u=>obtain ⟨e,_⟩:=x; exact Heap.lt_size e
 | tbl ps=>exact Heap.lt_size (show h.get? a=some _ from x)
 | met f y=>exact Heap.lt_size (show h.get? a=some _ from x)
 | ext φ=>obtain ⟨_,⟨_,e⟩,_⟩:=x; exact Heap.lt_size e
theorem Paired.mapP {α β:Type} {F G:α->β->Prop}:∀ {l₁:List α} {l₂:List β},Paired F l₁ l₂->(∀ a b,F a b->G a b)->Paired G l₁ l₂
 | _,_,.nil,_=>.nil
 | _,_,.cons r t,f=>.cons (f _ _ r) (Paired.mapP t f)
theorem Paired.imp' {α β:Type} {F G:α->β->Prop} (f:∀ a b,F a b->G a b) {l₁:List α} {l₂:List β} (r:Paired F l₁ l₂):Paired G l₁ l₂:=Paired.mapP r f
theorem ObjOk.stay (x:ObjOk P w H h a o) (k:∀ b u,(b=a\/H b=some (.own a))->h.get? b=some u->h'.get? b=some u)
  (ho:∀ b,H b=some (.own a)->H' b=some (.own a)) (ht:∀ b xs,H b=some (.tup xs)->H' b=some (.tup xs)):ObjOk P w H' h' a o:=by
 induction o with
 | lst xs=>obtain ⟨z,its,n,r,e⟩:=x; exact ⟨z,its,n,r,k _ _ (.inl rfl) e⟩
 | tup xs=>obtain ⟨z,its,r,ob,e,c⟩:=x; exact ⟨z,its,r,ob,k _ _ (.inl rfl) e,c⟩
 | dK kvs=>obtain ⟨z,y,vs,r,ob,es,ep,e,c⟩:=x; exact ⟨z,y,vs,r,ob,es,ep,k _ _ (.inl rfl) e,c⟩
 | dT kvs =>
  obtain ⟨z,y,xs,r,ob,es,ep,e,c⟩:=x;exact ⟨z,y,xs,Paired.mapP r λ p q z=>⟨z.1,ht _ _ z.2.1,z.2.2⟩,ob,es,ep,k _ _ (.inl rfl) e,c⟩
 | set S n=>obtain ⟨ob,es,ep,t,e,c⟩:=x; exact ⟨ob,es,ep,t,k _ _ (.inl rfl) e,c⟩
 | ins C dx fs =>
  obtain ⟨d,z,ne,e,mA,⟨od,es,ep,e2,c⟩,r⟩:=x;exact ⟨ho _ d,z,ne,k _ _ (.inl rfl) e,mA,⟨od,es,ep,k _ _ (.inr d) e2,c⟩,r⟩
 | own y=>obtain ⟨ob,e⟩:=x; exact ⟨ob,k _ _ (.inl rfl) e⟩
 | xd fs=>obtain ⟨mA,⟨od,es,ep,e,c⟩,r⟩:=x; exact ⟨mA,⟨od,es,ep,k _ _ (.inl rfl) e,c⟩,r⟩
 | rng lo hi=>obtain ⟨t,u,v,e⟩:=x; exact ⟨t,u,v,k _ _ (.inl rfl) e⟩
 | frz ob u ih=>obtain ⟨e,q⟩:=x; exact ⟨k _ _ (.inl rfl) e,ih q⟩
 | tbl ps =>
  have e:h.get? a=some { cls:=.none,data:=.fields ps }:=x
  show h'.get? a=some { cls:=.none,data:=.fields ps }
  exact k a _ (.inl rfl) e
 | met f y =>
  have e:h.get? a=some (W.methodObj (.ref f) (.ref y)):=x
  show h'.get? a=some (W.methodObj (.ref f) (.ref y))
  exact k a _ (.inl rfl) e
 | ext φ=>obtain ⟨p,⟨o,e⟩,st⟩:=x; exact ⟨st _ _ p λ o q=>k _ _ (.inl rfl) q,⟨o,k _ _ (.inl rfl) e⟩,st⟩
theorem HOk.lt (x:HOk P w H h) (e:H a=some o):a<h.objs.size:=(x a o e).lt
theorem HOk.fresh (x:HOk P w H h) (e:h.objs.size<=a):H a=none:=by
 cases q:H a with
 | none=>rfl
 | some u=>exact absurd (aR (x.lt q) e) (bJ _)
theorem HOk.kept (x:HOk P w H h) (k:∀ b u,h.get? b=some u->h'.get? b=some u):HOk P w H h':=λ a o e =>
 (x a o e).stay (λ b u _ q=>k b u q) (λ _ q=>q) λ _ _ q=>q
theorem HOk.laid (x:HOk P w H h) (k:∀ b u,h.get? b=some u->h'.get? b=some u) (hp:h.objs.size<=a) (new:ObjOk P w (r6 H a o) h' a o):HOk P w (r6 H a o) h':=λ b u e=>by
 have hn:=x.fresh hp
 by_cases hb:b=a
 ·subst hb; rw [upd_same] at e; cases e; exact new
 ·rw [c9 hb] at e
  exact (x b u e).stay (λ c v _ q=>k c v q) (λ c q=>by rw [c9 (d7 q hn)]; exact q) λ c xs q=>by rw [c9 (d7 q hn)]; exact q
end
def Rd (H:Hp) (a:Addr) (u:HO):Prop:=H a=some u\/∃ o,H a=some (.frz o u)
theorem Rd.ok {P:Program} {w:World} {H:Hp} {h:Heap} {a:Addr} {u:HO} (r:Rd H a u) (x:HOk P w H h):ObjOk P w H h a u:=by
 rcases r with r | ⟨o,r⟩
 ·exact x a u r
 ·obtain ⟨_,q⟩:=x a _ r
  exact q
def Mut:Option HO->Prop
 | some (.lst _)=>True
 | some (.dK _)=>True
 | some (.dT _)=>True
 | some (.set _ _)=>True
 | some (.ins _ _ _)=>True
 | some (.ext _)=>True
 | _=>False
section
variable {P:Program} {w:World} {H:Hp} {h h':Heap} {x e:Addr} {o':HO}
theorem HOk.write (ok:HOk P w H h) (mu:Mut (H x)) (he:e=x\/H e=some (.own x)) (k:∀ b u,b≠e->h.get? b=some u->h'.get? b=some u) (heo:∃ u,h'.get? e=some u)
  (new:ObjOk P w (r6 H x o') h' x o'):HOk P w (r6 H x o') h':=λ b u q=>by
 have nown:∀ c y,H c=some (.own y)->c≠x:=λ c y r z=>by subst z; rw [r] at mu; exact mu
 have ntup:∀ c xs,H c=some (.tup xs)->c≠x:=λ c xs r z=>by subst z; rw [r] at mu; exact mu
 by_cases hb:b=x
 ·subst hb; rw [upd_same] at q; cases q; exact new
 ·rw [c9 hb] at q
  by_cases hbe:b=e
  ·have q':H b=some (.own x):=by
    rcases he with z | z
    ·exact absurd (hbe.trans z) hb
    ·rw [hbe]; exact z
   rw [q] at q'; cases q';obtain ⟨v,hv⟩:=heo;exact ⟨v,by rw [hbe]; exact hv⟩
  ·refine (ok b u q).stay (λ c v hc r=>k c v ?_ r) (λ c r=>by rw [c9 (nown c b r)]; exact r) λ c xs r=>by rw [c9 (ntup c xs r)]; exact r
   rcases hc with rfl | hc
   ·exact hbe
   ·rintro rfl
    rcases he with z | z
    ·exact nown c b hc z
    ·rw [hc] at z; cases z; exact hb rfl
end
structure Un (fs ex:List Addr) (H H':Hp) (h h':Heap):Prop where
 keep:∀ b o,h.get? b=some o->H b=none->b ∉ fs->b ∉ ex->h'.get? b=some o
 slot:∀ b o,h.get? b=some o->H b=none->b∈fs->b ∉ ex->∃ sl,h'.get? b=some { o with slots:=sl }
 free:∀ b o,h.get? b=some o->H b=none->b ∉ ex->H' b=none
 there:∀ b o,h.get? b=some o->b ∉ ex->∃ o',h'.get? b=some o'
 tups:∀ b xs,H b=some (.tup xs)->H' b=some (.tup xs)
 frzs:∀ b o u,H b=some (.frz o u)->H' b=some (.frz o u)
 tbls:∀ b ps,H b=some (.tbl ps)->∃ more,H' b=some (.tbl (ps++more))
section
variable {fs fs' ex ex':List Addr} {H H1 H2:Hp} {h h1 h2 h':Heap} {a x e:Addr} {o:HO}
theorem Un.any (u:Un fs ex H H1 h h1) {b:Addr} {ob:Obj} (q:h.get? b=some ob) (n:H b=none) (hx:b ∉ ex):∃ sl,h1.get? b=some { ob with slots:=sl }:=by
 by_cases hb:b∈fs
 ·exact u.slot b ob q n hb hx
 ·exact ⟨ob.slots,u.keep b ob q n hb hx⟩
theorem Un.kept (k:∀ b u,h.get? b=some u->h'.get? b=some u):Un fs ex H H h h' :=
 ⟨λ b ob q _ _ _=>k b ob q,λ b ob q _ _ _=>⟨ob.slots,k b ob q⟩,λ _ _ _ n _=>n,λ b ob q _=>⟨ob,k b ob q⟩,λ _ _ q=>q,λ _ _ _ q=>q,λ _ ps q=>⟨#[],by rw [q]; simp⟩⟩
theorem Un.refl:Un fs ex H H h h:=Un.kept λ _ _ q=>q
theorem Un.laid (k:∀ b u,h.get? b=some u->h'.get? b=some u) (hp:h.objs.size<=a) (hn:H a=none):Un fs ex H (r6 H a o) h h' where
 keep:=λ b u q _ _ _=>k b u q
 slot:=λ b u q _ _ _=>⟨u.slots,k b u q⟩
 free:=λ b u q n _=>by rw [c9 (bI (aR (Heap.lt_size q) hp))]; exact n
 there:=λ b u q _=>⟨u,k b u q⟩
 tups:=λ b xs q=>by rw [c9 (d7 q hn)]; exact q
 frzs:=λ b u xs q=>by rw [c9 (d7 q hn)]; exact q
 tbls:=λ b ps q=>⟨#[],by rw [c9 (d7 q hn),q]; simp⟩
theorem Un.write (mu:Mut (H x)) (he:e=x\/H e=some (.own x)) (k:∀ b u,b≠e->h.get? b=some u->h'.get? b=some u) (heo:∃ u,h'.get? e=some u):Un fs ex H (r6 H x o) h h':=by
 have hx:∀ b,H b=none->b≠x:=λ b n z=>by subst z; rw [n] at mu; exact mu
 have hb:∀ b,H b=none->b≠e:=λ b n z=>by
  subst z;rcases he with r | r
  ·exact hx b n r
  ·rw [n] at r; cases r
 have hm:∀ b u,H b=some u->¬ Mut (some u)->b≠x:=λ b u q nm z=>by subst z; rw [q] at mu; exact nm mu
 refine ⟨λ b u q n _ _=>k b u (hb b n) q,λ b u q n _ _=>⟨u.slots,k b u (hb b n) q⟩,λ b u q n _=>by rw [c9 (hx b n)]; exact n,λ b u q _=>?_,
  λ b xs q=>by rw [c9 (hm b _ q λ z=>z)]; exact q,λ b u xs q=>by rw [c9 (hm b _ q λ z=>z)]; exact q,λ b ps q=>⟨#[],by rw [c9 (hm b _ q λ z=>z),q]; simp⟩⟩
 by_cases hbe:b=e
 ·subst hbe; exact heo
 ·exact ⟨u,k b u hbe q⟩
end
def trk (h:Heap) (H:Hp):List Addr:=(aE h.objs.size).filter λ a=>(H a).isSome
def a2F (h:Heap) (H:Hp):Heap:=W.hideAll h (trk h H)
theorem a7r (h:Heap) (H:Hp):(a2F h H).objs.size=h.objs.size:=W.hideAll_size _ _
theorem a8Q {h:Heap} {H:Hp} {b:Addr} {o:Obj} (e:h.get? b=some o) (n:H b=none):(a2F h H).get? b=some o :=
 W.hideAll_get _ e λ hm=>by
  have q:(H b).isSome=true:=(fW.mp hm).2;rw [n] at q; simp at q
theorem b0P {h:Heap} {H:Hp} {b:Addr} {o:Obj} (e:(a2F h H).get? b=some o):h.get? b=some o/\H b=none:=by
 have e':h.get? b=some o:=W.of_hideAll (trk h H) e;refine ⟨e',?_⟩
 cases q:H b with
 | none=>rfl
 | some x =>
  have hm:b∈trk h H:=fW.mpr ⟨List.mem_range.mpr (Heap.lt_size e'),by simp [q]⟩;have z:(a2F h H).get? b=none:=W.hideAll_none (trk h H) hm;rw [z] at e; cases e
def b0A (g h:Heap) (L:Addr):List (Addr×Obj):=(aE h.objs.size).filterMap λ a=>if a=L\/(g.get? a).isSome=true then none else (h.get? a).map λ o=>(a,o)
def rest (g h:Heap) (L d:Addr):List (Addr×Obj):=(b0A g h L).filter λ p=>decide (p.1≠d)
structure Mod (K:W.Frag) (mg:Str->Option Value) (base:Heap):Prop where
 kin:K.In base
 glob:base.Ns mainGlobals mg
 blt:∃ mb,base.Ns builtinsNs mb/\∀ x:Str,x≠"__name__"->mb x=bootBuiltins x
 nolimit:base.NoLimit
structure Cx where
 prog:Program
 w:World
 K:W.Frag
 mg:Str->Option Value
 base:Heap
 A:Around
 N:List Str
 s₀:Shared
 H₀:Hp
 env:Env
 outer:List Env
 stack:List Env
 ex:List Addr
 fn:Str->Bool
 calm:Bool
 pn:List (Addr×Obj)
 xe:Value->Shared->Prop
def frs (l:List Env):List Addr:=l.filterMap (·.frame)
abbrev Cx.fs (X:Cx):List Addr:=frs X.outer
def Vis (sc:Scope) (x:Str):Prop:=sc.names.lookup x=some .local\/sc.names.lookup x=some .cell\/sc.names.lookup x=some .free
def Loc (sc:Scope) (x:Str):Prop:=sc.names.lookup x=some .local\/sc.names.lookup x=some .cell
def b4T (env:Env) (h:Heap) (m:Str->Option Value) (x:Str) (u:Value):Prop :=
 (env.kindOf x=some .local/\m x=some u)\/((env.kindOf x=some .cell\/env.kindOf x=some .free)/\∃ c,env.cells.lookup x=some c/\h.IsCell c (some u))
structure Cx.Ok (X:Cx):Prop where
 mod:Mod X.K X.mg X.base
 kind:X.env.scope.kind=.function
 glob:X.env.globals=mainGlobals
 blt:X.env.builtins=builtinsNs
 above:X.s₀.heap.objs.size<=X.env.locals
 inj:∀ x y c,X.env.cells.lookup x=some c->X.env.cells.lookup y=some c->x=y
 has:∀ x,(X.env.kindOf x=some .cell\/X.env.kindOf x=some .free)->∃ c,X.env.cells.lookup x=some c
 cab:∀ x c,X.fn x=true->X.env.cells.lookup x=some c->X.s₀.heap.objs.size<=c
 hd:X.calm=true->X.A.handled=none
 frames:X.A.frames=some X.stack
 stk:X.stack=X.outer\/(X.stack=X.env::X.outer/\X.env.frame=some X.env.locals)
 exf:∀ b∈X.ex,b≠X.env.locals/\∀ x c,X.env.cells.lookup x=some c->c≠b
 bs:∀ b o,X.base.get? b=some o->X.s₀.heap.get? b=some o/\X.H₀ b=none
 bsz:X.base.objs.size<=X.s₀.heap.objs.size
 noex:∀ b o,X.base.get? b=some o->b ∉ X.ex
 exfs:∀ b∈X.ex,b ∉ X.fs
 funs:X.s₀.heap.FunFrames X.base X.outer
 frf:∀ b∈X.fs,X.H₀ b=none
structure Inv (X:Cx) (pins:List (Addr×Obj)) (σ:List (Option V)) (H:Hp) (s:Shared):Prop where
 ok:X.Ok
 os:s.os=X.s₀.os
 bare:AllBare s.gens
 base:Un X.fs X.ex X.H₀ H X.s₀.heap s.heap
 loc:∃ m,s.heap.Ns X.env.locals m/\∀ (i:Nat) (x:Str) (v:V),X.N[i]?=some x->σ[i]?=some (some v)->Vis X.env.scope x->∃ u,RelV v u/\b4T X.env s.heap m x u
 cell:∀ x c,X.env.cells.lookup x=some c->∃ v,s.heap.IsCell c v
 free:H X.env.locals=none
 freeC:∀ x c,X.env.cells.lookup x=some c->H c=none
 pin:∀ p∈X.pn++pins,s.heap.get? p.1=some p.2/\H p.1=none/\p.1≠X.env.locals/\p.1 ∉ X.fs/\∀ v,p.2.data≠.cell v
 hok:HOk X.prog X.w H s.heap
 len:σ.length=X.N.length
section
variable {X:Cx} {pins:List (Addr×Obj)} {σ:List (Option V)} {H H':Hp} {s:Shared} {h':Heap}
theorem Cx.Ok.nofr (ok:X.Ok) {b:Addr} {o:Obj} (e:X.base.get? b=some o):b ∉ X.fs:=λ hb=>by
 have:=(ok.funs.mem hb).1;rw [e] at this; cases this
theorem Inv.bs (I:Inv X pins σ H s):∀ b o,X.base.get? b=some o->s.heap.get? b=some o/\H b=none:=λ b o e =>
 ⟨I.base.keep b o (I.ok.bs b o e).1 (I.ok.bs b o e).2 (I.ok.nofr e) (I.ok.noex b o e),I.base.free b o (I.ok.bs b o e).1 (I.ok.bs b o e).2 (I.ok.noex b o e)⟩
theorem Inv.bk (I:Inv X pins σ H s):∀ b o,X.base.get? b=some o->s.heap.get? b=some o:=λ b o e=>(I.bs b o e).1
theorem Inv.mod (I:Inv X pins σ H s):Mod X.K X.mg X.base:=I.ok.mod
theorem Inv.kIn (I:Inv X pins σ H s):X.K.In s.heap:=I.ok.mod.kin.keeps I.bk
theorem Inv.nolimit (I:Inv X pins σ H s):s.heap.NoLimit:=I.ok.mod.nolimit.keeps I.bk
theorem Inv.fr (I:Inv X pins σ H s):∃ m,Fr X.base X.env.locals s.heap m :=
 let ⟨m,hn,_⟩:=I.loc
 ⟨m,hn,I.bk,aW I.ok.bsz I.ok.above⟩
theorem Inv.lt (I:Inv X pins σ H s):X.env.locals<s.heap.objs.size:=let ⟨_,hn,_⟩:=I.loc; hn.lt
theorem Inv.sz (I:Inv X pins σ H s):X.s₀.heap.objs.size<=s.heap.objs.size:=aW I.ok.above (cO I.lt)
theorem Inv.nofs (I:Inv X pins σ H s) {a:Addr} (h:s.heap.objs.size<=a):a ∉ X.fs:=λ hb=>by
 obtain ⟨_,o,ho,_⟩:=I.ok.funs.mem hb;exact absurd (aR (Heap.lt_size ho) (aW I.sz h)) (bJ _)
theorem Inv.cne (I:Inv X pins σ H s):∀ x c,X.env.cells.lookup x=some c->c≠X.env.locals:=λ x c e z=>by
 obtain ⟨v,o,ho,hd⟩:=I.cell x c e;obtain ⟨m,⟨o',es,ep,ho',hd',_⟩,_⟩:=I.loc;rw [z,ho'] at ho; cases ho; rw [hd'] at hd; cases hd
theorem Inv.funs (I:Inv X pins σ H s):s.heap.FunFrames X.base X.outer:=by
 have all:∀ (l:List Env),(∀ b∈frs l,b∈X.fs)->X.s₀.heap.FunFrames X.base l->s.heap.FunFrames X.base l:=by
  intro l
  induction l with
  | nil=>intro _ _; trivial
  | cons env r ih =>
   intro hs hl;obtain ⟨hk,⟨L,o,hf,hn,ho,hd⟩,hr⟩:=hl;have hL:L∈X.fs:=hs L (by unfold frs; rw [hU,hf]; exact cG);obtain ⟨sl,e⟩:=I.base.slot L o ho (I.ok.frf L hL) hL λ z=>I.ok.exfs L z hL;exact ⟨hk,⟨L,_,hf,hn,e,hd⟩,ih (λ b hb=>hs b (by unfold frs; rw [hU,hf]; exact bL _ hb)) hr⟩
 exact all X.outer (λ _ hb=>hb) I.ok.funs
theorem Inv.stack (I:Inv X pins σ H s):s.heap.FunFrames X.base X.stack:=by
 rcases I.ok.stk with e | ⟨e,hf⟩
 ·rw [e]; exact I.funs
 ·rw [e]
  obtain ⟨m,hn,_⟩:=I.loc;refine .cons (by rw [I.ok.kind]; decide) hf hn ?_ I.funs;exact Heap.get?_none_of_le (aW I.ok.bsz I.ok.above)
theorem Inv.stkSub (I:Inv X pins σ H s):∀ b∈frs X.stack,b∈X.env.locals::X.fs:=λ b hb=>by
 rcases I.ok.stk with e | ⟨e,hf⟩
 ·rw [e] at hb; exact bL _ hb
 ·rw [e] at hb
  unfold frs at hb;rw [hU,hf] at hb;exact hb
theorem Inv.stkFree (I:Inv X pins σ H s):∀ b∈frs X.stack,H b=none:=λ b hb=>by
 rcases aJ.mp (I.stkSub b hb) with e | hb
 ·rw [e]; exact I.free
 ·obtain ⟨_,o,ho,_⟩:=I.ok.funs.mem hb
  exact I.base.free b o ho (I.ok.frf b hb) λ z=>I.ok.exfs b z hb
theorem Inv.step {g':Array GenState} {t':Nat} {d':Drawn} {ch:List Addr} (I:Inv X pins σ H s)
  (hch:∀ b∈ch,(b∈X.ex\/X.s₀.heap.objs.size<=b)/\b≠X.env.locals/\(∀ x c,X.env.cells.lookup x=some c->c≠b)/\∀ p∈X.pn++pins,p.1≠b)
  (keep:∀ b o,b≠X.env.locals->b ∉ X.fs->b ∉ ch->s.heap.get? b=some o->H b=none->h'.get? b=some o)
  (slot:∀ b o,b≠X.env.locals->b∈X.fs->b ∉ ch->s.heap.get? b=some o->H b=none->∃ sl,h'.get? b=some { o with slots:=sl }) (free:∀ b o,b ∉ ch->s.heap.get? b=some o->H b=none->H' b=none)
  (there:∀ b o,b ∉ ch->s.heap.get? b=some o->∃ o',h'.get? b=some o')
  (tups:∀ b xs,H b=some (.tup xs)->H' b=some (.tup xs)) (frzs:∀ b o u,H b=some (.frz o u)->H' b=some (.frz o u)) (tbls:∀ b ps,H b=some (.tbl ps)->∃ more,H' b=some (.tbl (ps++more)))
  (ns:∀ m,s.heap.Ns X.env.locals m->h'.Ns X.env.locals m) (hok:HOk X.prog X.w H' h') (hg:AllBare g') :
  Inv X pins σ H' { s with heap:=h',gens:=g',drawn:=d',toks:=t' }:=by
 have neL:∀ b o,X.s₀.heap.get? b=some o->b≠X.env.locals:=λ b o e=>bI (aR (Heap.lt_size e) I.ok.above);have neC:∀ b o,X.s₀.heap.get? b=some o->b ∉ X.ex->b ∉ ch:=λ b o e hx hb=>by
  rcases (hch b hb).1 with z | z
  ·exact hx z
  ·exact absurd (aR (Heap.lt_size e) z) (bJ _)
 have cellK:∀ x c,X.env.cells.lookup x=some c->∀ v,s.heap.IsCell c v->h'.IsCell c v:=λ x c e v ⟨o,ho,hd⟩=>by
  have nch:c ∉ ch:=λ z=>(hch c z).2.2.1 x c e rfl
  by_cases hc:c∈X.fs
  ·obtain ⟨sl,q⟩:=slot c o (I.cne x c e) hc nch ho (I.freeC x c e)
   exact ⟨_,q,hd⟩
  ·exact ⟨o,keep c o (I.cne x c e) hc nch ho (I.freeC x c e),hd⟩
 refine ⟨I.ok,I.os,hg,⟨λ b o e n hb hx=>?_,λ b o e n hb hx=>?_,λ b o e n hx=>?_,λ b o e hx=>?_,λ b xs e=>tups b xs (I.base.tups b xs e),λ b o xs e=>frzs b o xs (I.base.frzs b o xs e),λ b ps e=>?_⟩,?_,λ x c e=>?_,?_,λ x c e=>?_,λ p hp=>?_,hok,I.len⟩
 ·exact keep b o (neL b o e) hb (neC b o e hx) (I.base.keep b o e n hb hx) (I.base.free b o e n hx)
 ·obtain ⟨sl,e1⟩:=I.base.slot b o e n hb hx
  obtain ⟨sl',e2⟩:=slot b _ (neL b o e) hb (neC b o e hx) e1 (I.base.free b o e n hx);exact ⟨sl',e2⟩
 ·obtain ⟨o',e1⟩:=I.base.there b o e hx
  exact free b o' (neC b o e hx) e1 (I.base.free b o e n hx)
 ·obtain ⟨o',e1⟩:=I.base.there b o e hx
  exact there b o' (neC b o e hx) e1
 ·obtain ⟨m1,e1⟩:=I.base.tbls b ps e
  obtain ⟨m2,e2⟩:=tbls b _ e1;exact ⟨m1++m2,by rw [e2,Array.append_assoc]⟩
 ·obtain ⟨m,hn,hl⟩:=I.loc
  refine ⟨m,ns m hn,λ i x v e1 e2 e3=>?_⟩;obtain ⟨u,r,l⟩:=hl i x v e1 e2 e3;refine ⟨u,r,?_⟩;rcases l with l | ⟨k,c,e,z⟩
  ·exact .inl l
  ·exact .inr ⟨k,c,e,cellK x c e _ z⟩
 ·obtain ⟨v,z⟩:=I.cell x c e
  exact ⟨v,cellK x c e v z⟩
 ·obtain ⟨m,⟨o,_,_,ho,_⟩,_⟩:=I.loc
  exact free _ o (λ z=>(hch _ z).2.1 rfl) ho I.free
 ·obtain ⟨v,o,ho,hd⟩:=I.cell x c e
  exact free c o (λ z=>(hch c z).2.2.1 x c e rfl) ho (I.freeC x c e)
 ·obtain ⟨e,n,ne,nf,d⟩:=I.pin p hp
  have nch:p.1 ∉ ch:=λ z=>(hch p.1 z).2.2.2 p hp rfl;exact ⟨keep p.1 p.2 ne nf nch e n,free p.1 p.2 nch e n,ne,nf,d⟩
theorem Inv.un {t':Nat} (I:Inv X pins σ H s) (u:Un X.fs [] H H' s.heap h') (hok:HOk X.prog X.w H' h'):Inv X pins σ H' { s with heap:=h',toks:=t' }:=by
 obtain ⟨m,⟨o,es,ep,ho,r⟩,_⟩:=id I.loc;obtain ⟨sl,hL⟩:=u.any ho I.free (by simp);exact I.step (g':=s.gens) (d':=s.drawn) (ch:=[]) (λ _ z=>nomatch z) (λ b o _ hb _ e n=>u.keep b o e n hb (by simp)) (λ b o _ hb _ e n=>u.slot b o e n hb (by simp)) (λ b o _ e n=>u.free b o e n (by simp)) (λ b o _ e=>u.there b o e (by simp)) u.tups u.frzs u.tbls (λ m' hm=>by
  obtain ⟨o',es',ep',ho',r'⟩:=hm;rw [ho] at ho'; cases ho';exact ⟨_,es',ep',hL,r'⟩) hok I.bare
theorem Inv.call {g':Array GenState} {t':Nat} {d':Drawn} {ch:List Addr} (I:Inv X pins σ H s) (u:Un (frs X.stack) ch H H' s.heap h') (hok:HOk X.prog X.w H' h') (hg:AllBare g')
  (hch:∀ b∈ch,(b∈X.ex\/X.s₀.heap.objs.size<=b)/\b≠X.env.locals/\(∀ x c,X.env.cells.lookup x=some c->c≠b)/\∀ p∈X.pn++pins,p.1≠b) :
  Inv X pins σ H' { s with heap:=h',gens:=g',drawn:=d',toks:=t' }:=by
 obtain ⟨m,⟨o,es,ep,ho,r⟩,_⟩:=id I.loc;obtain ⟨sl,hL⟩:=u.any ho I.free λ z=>(hch _ z).2.1 rfl;exact I.step (ch:=ch) hch (λ b o hL hb hc e n=>u.keep b o e n (λ z=>(aJ.mp (I.stkSub b z)).elim hL hb) hc) (λ b o _ _ hc e n=>u.any e n hc) (λ b o hc e n=>u.free b o e n hc) (λ b o hc e=>u.there b o e hc) u.tups u.frzs u.tbls (λ m' hm=>by
  obtain ⟨o',es',ep',ho',r'⟩:=hm;rw [ho] at ho'; cases ho';exact ⟨_,es',ep',hL,r'⟩) hok hg
theorem Inv.turned {t':Nat} {it:Addr} (I:Inv X pins σ H s) (k:∀ b o,b≠it->s.heap.get? b=some o->h'.get? b=some o) (hn:H it=none) (hL:it≠X.env.locals)
  (h1:it∈X.ex\/X.s₀.heap.objs.size<=it) (h2:∀ x c,X.env.cells.lookup x=some c->c≠it) (h3:∀ p∈X.pn++pins,p.1≠it):Inv X pins σ H { s with heap:=h',toks:=t' }:=by
 have nit:∀ b u,H b=some u->b≠it:=λ b u e z=>by rw [z,hn] at e; cases e
 refine I.step (g':=s.gens) (d':=s.drawn) (ch:=[it]) (λ b hb=>?_) (λ b o _ _ hc e _=>k b o (λ z=>hc (by simp [z])) e) (λ b o _ _ hc e _=>⟨o.slots,k b o (λ z=>hc (by simp [z])) e⟩) (λ _ _ _ _ n=>n)
  (λ b o hc e=>⟨o,k b o (λ z=>hc (by simp [z])) e⟩) (λ _ _ e=>e) (λ _ _ _ e=>e) (λ b ps e=>⟨#[],by rw [e]; simp⟩) (λ m hm=>?_) (λ b u e=>?_) I.bare
 ·have e:b=it:=by simpa using hb
  subst e;exact ⟨h1,hL,h2,h3⟩
 ·obtain ⟨o,es,ep,ho,r⟩:=hm
  exact ⟨o,es,ep,k _ o (aS hL) ho,r⟩
 ·refine (I.hok b u e).stay (λ c v hc q=>k c v ?_ q) (λ _ q=>q) λ _ _ q=>q
  rcases hc with z | z
  ·rw [z]; exact nit b u e
  ·exact nit c _ z
theorem Inv.tok (I:Inv X pins σ H s) (t:Nat):Inv X pins σ H { s with toks:=t }:=I.un (h':=s.heap) (t':=t) Un.refl I.hok
theorem Inv.kept {t':Nat} (I:Inv X pins σ H s) (k:∀ b u,s.heap.get? b=some u->h'.get? b=some u):Inv X pins σ H { s with heap:=h',toks:=t' }:=I.un (Un.kept k) (I.hok.kept k)
theorem Inv.laid {a:Addr} {o:HO} {t':Nat} (I:Inv X pins σ H s) (k:∀ b u,s.heap.get? b=some u->h'.get? b=some u) (hp:s.heap.objs.size<=a) (new:ObjOk X.prog X.w (r6 H a o) h' a o) :
  Inv X pins σ (r6 H a o) { s with heap:=h',toks:=t' }:=I.un (Un.laid k hp (I.hok.fresh hp)) (I.hok.laid k hp new)
theorem Inv.write {x e:Addr} {o:HO} {t':Nat} (I:Inv X pins σ H s) (mu:Mut (H x)) (he:e=x\/H e=some (.own x)) (k:∀ b u,b≠e->s.heap.get? b=some u->h'.get? b=some u) (heo:∃ u,h'.get? e=some u)
  (new:ObjOk X.prog X.w (r6 H x o) h' x o):Inv X pins σ (r6 H x o) { s with heap:=h',toks:=t' }:=I.un (Un.write mu he k heo) (I.hok.write mu he k heo new)
theorem Inv.weak {σ':List (Option V)} (I:Inv X pins σ H s) (hl:σ'.length=σ.length) (w:∀ (i:Nat) v,σ'[i]?=some (some v)->σ[i]?=some (some v)):Inv X pins σ' H s :=
 ⟨I.ok,I.os,I.bare,I.base,let ⟨m,hn,hl'⟩:=I.loc; ⟨m,hn,λ i x v e1 e2 e3=>hl' i x v e1 (w i v e2) e3⟩,I.cell,I.free,I.freeC,I.pin,I.hok,hl.trans I.len⟩
theorem Inv.pins_of {pins':List (Addr×Obj)} (I:Inv X pins σ H s) (h:∀ p∈pins',s.heap.get? p.1=some p.2/\H p.1=none/\p.1≠X.env.locals/\p.1 ∉ X.fs/\∀ v,p.2.data≠.cell v):Inv X pins' σ H s :=
 ⟨I.ok,I.os,I.bare,I.base,I.loc,I.cell,I.free,I.freeC,λ p hp=>(aO.mp hp).elim (λ z=>I.pin p (dN _ z)) (h p),I.hok,I.len⟩
theorem a2k {N:List Str} (hN:N.Nodup) {i j:Nat} {x:Str} (a:N[i]?=some x) (b:N[j]?=some x):i=j:=by
 obtain ⟨h1,e1⟩:=bQ.mp a;obtain ⟨h2,e2⟩:=bQ.mp b;exact (List.getElem_inj hN).mp (e1.trans e2.symm)
theorem a0S {M:Model} {A:Around} {E:Value->Shared->Prop} {i:Nat} {x:Str} {v:V} {u:Value} {Q:Unit->Shared->Prop} (I:Inv X pins σ H s) (hN:X.N.Nodup) (hi:X.N[i]?=some x) (hx:Loc X.env.scope x) (r:RelV v u)
  (h:∀ s',Inv X pins (σ.set i (some v)) H s'->(∃ a,Heap.SameBut a s.heap s'.heap/\(a=X.env.locals\/X.env.cells.lookup x=some a))->Q () s') (hf:X.fn x=true\/X.env.scope.names.lookup x=some .local:=by first | exact .inl rfl | exact .inr rfl | assumption):wpAny M A (storeName X.env x u) Q E s:=by
 obtain ⟨m,hn,hl⟩:=id I.loc;have hcls:(X.env.scope.kind==.class || (X.env.scope.kind==.module&&X.env.locals != X.env.globals))=false:=by rw [I.ok.kind]; rfl
 have hiσ:i<σ.length:=by rw [I.len]; exact (bQ.mp hi).1
 have cne:=I.cne;have tracked:∀ {a:Addr} {h':Heap},(∃ o,s.heap.get? a=some o/\H a=none)->Heap.SameBut a s.heap h'->HOk X.prog X.w H h':=λ {a h'} ha hs b ob e=>by
  obtain ⟨_,_,hfree⟩:=ha;refine (I.hok b ob e).stay (λ c w' hc q=>(hs.2 c ?_).trans q) (λ _ q=>q) λ _ _ q=>q;rintro rfl;rcases hc with rfl | hc
  ·rw [hfree] at e; cases e
  ·rw [hfree] at hc; cases hc
 rcases hx with hk | hk
 ·refine wpAny_storeName_local hk hn (λ h' hn' hs=>?_) hcls
  obtain ⟨oL,_,_,hoL,_⟩:=id hn;refine h _ ⟨I.ok,I.os,I.bare,⟨λ b o e n hb hx=>?_,λ b o e n hb hx=>?_,I.base.free,λ b o e hx=>?_,I.base.tups,I.base.frzs,I.base.tbls⟩,⟨_,hn',λ j y v' e1 e2 e3=>?_⟩,λ y c e=>?_,I.free,I.freeC,λ p hp=>?_,tracked ⟨oL,hoL,I.free⟩ hs,by simpa using I.len⟩ ⟨_,hs,.inl rfl⟩
  ·exact (hs.2 b (bI (aR (Heap.lt_size e) I.ok.above))).trans (I.base.keep b o e n hb hx)
  ·obtain ⟨sl,e1⟩:=I.base.slot b o e n hb hx
   exact ⟨sl,(hs.2 b (bI (aR (Heap.lt_size e) I.ok.above))).trans e1⟩
  ·obtain ⟨o',e1⟩:=I.base.there b o e hx
   exact ⟨o',(hs.2 b (bI (aR (Heap.lt_size e) I.ok.above))).trans e1⟩
  ·by_cases hj:j=i
   ·subst hj
    rw [hi] at e1; cases e1;rw [bV hiσ] at e2
    cases e2;exact ⟨u,r,.inl ⟨hk,by simp⟩⟩
   ·rw [bE (aS hj)] at e2
    obtain ⟨u',r',q⟩:=hl j y v' e1 e2 e3;refine ⟨u',r',?_⟩;rcases q with ⟨k,e⟩ | ⟨k,c,e,z⟩
    ·refine .inl ⟨k,?_⟩
     have:y≠x:=λ e=>hj (a2k hN e1 (e ▸ hi));simp [this,e]
    ·exact .inr ⟨k,c,e,z.sameBut hs (cne y c e)⟩
  ·obtain ⟨w',z⟩:=I.cell y c e
   exact ⟨w',z.sameBut hs (cne y c e)⟩
  ·obtain ⟨e,n,ne,nf,d⟩:=I.pin p hp
   exact ⟨(hs.2 p.1 ne).trans e,n,ne,nf,d⟩
 ·have hfn:X.fn x=true:=by
   rcases hf with z | z
   ·exact z
   ·rw [z] at hk; cases hk
  obtain ⟨c,hc⟩:=I.ok.has x (.inl hk);obtain ⟨w',z⟩:=I.cell x c hc;refine wpAny_storeName_cell I.ok.kind hk hc z (λ h' hc' hs=>?_);obtain ⟨oc,hoc,hocd⟩:=id z;refine h { s with heap:=h' } ⟨I.ok,I.os,I.bare,⟨λ b o e n hb hx=>?_,λ b o e n hb hx=>?_,I.base.free,λ b o e hx=>?_,I.base.tups,I.base.frzs,I.base.tbls⟩,⟨m,hn.sameBut hs (aS (cne x c hc)),λ j y v' e1 e2 e3=>?_⟩,λ y c' e=>?_,I.free,I.freeC,λ p hp=>?_,tracked ⟨oc,hoc,I.freeC x c hc⟩ hs,by simpa using I.len⟩ ⟨c,hs,.inr hc⟩
  ·exact (hs.2 b (bI (aR (Heap.lt_size e) (I.ok.cab x c hfn hc)))).trans (I.base.keep b o e n hb hx)
  ·obtain ⟨sl,e1⟩:=I.base.slot b o e n hb hx
   exact ⟨sl,(hs.2 b (bI (aR (Heap.lt_size e) (I.ok.cab x c hfn hc)))).trans e1⟩
  ·obtain ⟨o',e1⟩:=I.base.there b o e hx
   exact ⟨o',(hs.2 b (bI (aR (Heap.lt_size e) (I.ok.cab x c hfn hc)))).trans e1⟩
  ·by_cases hj:j=i
   ·subst hj
    rw [hi] at e1; cases e1;rw [bV hiσ] at e2
    cases e2;exact ⟨u,r,.inr ⟨.inl hk,c,hc,hc'⟩⟩
   ·rw [bE (aS hj)] at e2
    obtain ⟨u',r',q⟩:=hl j y v' e1 e2 e3;refine ⟨u',r',?_⟩;rcases q with q | ⟨k,c',e,z'⟩
    ·exact .inl q
    ·refine .inr ⟨k,c',e,z'.sameBut hs ?_⟩
     rintro rfl;exact hj (a2k hN e1 (I.ok.inj _ _ _ e hc ▸ hi))
  ·by_cases hcc:c'=c
   ·subst hcc; exact ⟨_,hc'⟩
   ·obtain ⟨w2,z2⟩:=I.cell y c' e
    exact ⟨w2,z2.sameBut hs hcc⟩
  ·obtain ⟨e,n,ne,nf,d⟩:=I.pin p hp
   refine ⟨(hs.2 p.1 ?_).trans e,n,ne,nf,d⟩;intro q;rw [q,hoc] at e;have q':oc=p.2:=aL e;exact d w' (by rw [<- q']; exact hocd)
theorem W2 {M:Model} {A:Around} {E:Value->Shared->Prop} {i:Nat} {x:Str} {v:V} {u:Value} {Q:Unit->Shared->Prop} (I:Inv X pins σ H s) (hN:X.N.Nodup) (hi:X.N[i]?=some x) (hx:Loc X.env.scope x) (r:RelV v u)
  (h:∀ s',Inv X pins (σ.set i (some v)) H s'->Q () s') (hf:X.fn x=true\/X.env.scope.names.lookup x=some .local:=by first | exact .inl rfl | exact .inr rfl | assumption):wpAny M A (storeName X.env x u) Q E s :=
 a0S I hN hi hx r (λ s' I' _=>h s' I') hf
theorem Inv.call' {s':Shared} {ch:List Addr} (I:Inv X pins σ H s) (ho:s'.os=s.os) (u:Un (frs X.stack) ch H H' s.heap s'.heap) (hok:HOk X.prog X.w H' s'.heap) (hg:AllBare s'.gens)
  (hch:∀ b∈ch,(b∈X.ex\/X.s₀.heap.objs.size<=b)/\b≠X.env.locals/\(∀ x c,X.env.cells.lookup x=some c->c≠b)/\∀ p∈X.pn++pins,p.1≠b):Inv X pins σ H' s':=by
 obtain ⟨h',g',d',t',o'⟩:=s';have e:o'=s.os:=ho;subst e;exact I.call (g':=g') (t':=t') (d':=d') u hok hg hch
end
abbrev XK:=Value->Option Addr->Hp->Prop
abbrev St:=List (Option V)
abbrev VK:=V->Hp->Prop
abbrev TE:=St->Hp->VK->Prop
abbrev TT:=St->Hp->(Bool->Hp->Prop)->Prop
abbrev TA:=St->Hp->(List V->Hp->Prop)->Prop
structure Ends where
 nx:St->Hp->Prop
 rt:VK
 bk:St->Hp->Prop:=λ _ _=>False
 ct:St->Hp->Prop:=λ _ _=>False
abbrev TS:=Ends->St->Hp->Prop
def EP (X:Cx) (pins:List (Addr×Obj)) (σ:St) (Q:VK) (u:Value) (s':Shared):Prop:=∃ v H',Inv X pins σ H' s'/\RelV v u/\Q v H'
def TP (X:Cx) (pins:List (Addr×Obj)) (σ:St) (Q:Bool->Hp->Prop) (b:Bool) (s':Shared):Prop:=∃ H',Inv X pins σ H' s'/\Q b H'
def AP (X:Cx) (pins:List (Addr×Obj)) (σ:St) (Q:List V->Hp->Prop) (us:List Value) (s':Shared):Prop:=∃ vs H',Inv X pins σ H' s'/\Vals vs us/\Q vs H'
def SP (X:Cx) (pins:List (Addr×Obj)) (D:Ends) (f:Flow) (s':Shared):Prop :=
 match f with
 | .next=>∃ σ' H',Inv X pins σ' H' s'/\D.nx σ' H'
 | .brk=>∃ σ' H',Inv X pins σ' H' s'/\D.bk σ' H'
 | .cont=>∃ σ' H',Inv X pins σ' H' s'/\D.ct σ' H'
 | .ret u=>∃ v σ' H',Inv X pins σ' H' s'/\RelV v u/\D.rt v H'
def PE (X:Cx) (e:Expr) (t:TE):Prop :=
 ∀ (pins:List (Addr×Obj)) (s:Shared) (σ:St) (H:Hp) (Q:VK),Inv X pins σ H s->t σ H Q->wpAny (model X.prog X.w) X.A (eval e X.env) (EP X pins σ Q) X.xe s
def PT (X:Cx) (e:Expr) (t:TT):Prop :=
 ∀ (pins:List (Addr×Obj)) (s:Shared) (σ:St) (H:Hp) (Q:Bool->Hp->Prop),Inv X pins σ H s->t σ H Q->wpAny (model X.prog X.w) X.A (isTrue e X.env (eval e X.env)) (TP X pins σ Q) X.xe s
def PW (X:Cx) (e:Expr) (t:TT):Prop :=
 ∀ (whole:Sem Value) (pins:List (Addr×Obj)) (s:Shared) (σ:St) (H:Hp) (Q:Bool->Hp->Prop),Inv X pins σ H s->t σ H Q->wpAny (model X.prog X.w) X.A (isTrue e X.env whole) (TP X pins σ Q) X.xe s
theorem PW.pt {X:Cx} {e:Expr} {t:TT} (h:PW X e t):PT X e t:=h _
def PA (X:Cx) (es:List Expr) (t:TA):Prop :=
 ∀ (pos:Pos) (pins:List (Addr×Obj)) (s:Shared) (σ:St) (H:Hp) (Q:List V->Hp->Prop),Inv X pins σ H s->t σ H Q->wpAny (model X.prog X.w) X.A (spliced (backTo pos (starEach es X.env))) (AP X pins σ Q) X.xe s
def PS (X:Cx) (st:Stmt) (t:TS):Prop :=
 ∀ (pins:List (Addr×Obj)) (s:Shared) (σ:St) (H:Hp) (D:Ends),Inv X pins σ H s->t D σ H->wpAny (model X.prog X.w) X.A (exec st X.env) (SP X pins D) X.xe s
def PSs (X:Cx) (st:List Stmt) (t:TS):Prop :=
 ∀ (pins:List (Addr×Obj)) (s:Shared) (σ:St) (H:Hp) (D:Ends),Inv X pins σ H s->t D σ H->wpAny (model X.prog X.w) X.A (execs st X.env) (SP X pins D) X.xe s
theorem A8 {α:Type} {t:Sem α} {Q Q':α->Shared->Prop} {M:Model} {A:Around} {E:Value->Shared->Prop} {s:Shared} (h:wpAny M A t Q E s) (hQ:∀ a s,Q a s->Q' a s):wpAny M A t Q' E s:=wpAny_mono h hQ λ _ _ x=>x
section
variable {X:Cx}
theorem bin {a b:Expr} {ta tb:TE} (ha:PE X a ta) (hb:PE X b tb) {pins:List (Addr×Obj)} {s:Shared} {σ:St} {H:Hp} {R:V->V->Hp->Prop} (I:Inv X pins σ H s) (h:ta σ H λ x H1=>tb σ H1 λ y H2=>R x y H2)
  {α:Type} {Q:α->Shared->Prop} {f:Value->Value->Sem α}
  (hf:∀ v u s2 x y H2,Inv X pins σ H2 s2->RelV x v->RelV y u->R x y H2->wpAny (model X.prog X.w) X.A (f v u) Q X.xe s2) :
  wpAny (model X.prog X.w) X.A (eval a X.env) (λ v s₁=>wpAny (model X.prog X.w) X.A (eval b X.env) (λ u s₂=>wpAny (model X.prog X.w) X.A (f v u) Q X.xe s₂) X.xe s₁) X.xe s:=by
 refine A8 (ha pins s σ H _ I h) λ v s1 ⟨x,H1,I1,r1,q1⟩=>?_;refine A8 (hb pins s1 σ H1 _ I1 q1) λ u s2 ⟨y,H2,I2,r2,q2⟩=>?_;exact hf v u s2 x y H2 I2 r1 r2 q2
def a4t (i:Nat):TE:=λ σ H Q=>∃ v,σ[i]?=some (some v)/\Q v H
def tC (v:V):TE:=λ _ H Q=>Q v H
theorem b2B {i:Nat} {x:Str} {pos:Pos} (hN:X.N[i]?=some x) (hv:Vis X.env.scope x) (hd:(x==("__debug__":Str))=false:=by decide) (hcd:(x==("__classdict__":Str))=false:=by decide):PE X (.Name x pos) (a4t i):=by
 intro pins s σ H Q I h;obtain ⟨v,e,h⟩:=h;obtain ⟨m,hn,hl⟩:=I.loc;obtain ⟨u,r,l⟩:=hl i x v hN e hv;have fin:EP X pins σ Q u s:=⟨v,H,I,r,h⟩;rcases l with ⟨hk,hm⟩ | ⟨hk,c,hc,hcell⟩
 ·exact wpAny_Name (wpAny_loadName_local I.ok.kind hk hn hm fin) hd
 ·rcases hk with hk | hk
  ·exact wpAny_Name (wpAny_loadName_cell I.ok.kind hk hc hcell fin) hd
  ·exact wpAny_Name (wpAny_loadName_free I.ok.kind hk hc hcell fin hcd) hd
theorem h8 {i j pos}:PE X (.Constant (.int i) j pos) (tC (.int i)):=λ _ _ _ H _ I h=>wpAny_Constant_int ⟨.int i,H,I.tok _,⟨_,rfl⟩,h⟩
theorem a3h {b j pos}:PE X (.Constant (.bool b) j pos) (tC (.bl b)):=λ _ _ _ H _ I h=>Constant_bool ⟨.bl b,H,I,rfl,h⟩
theorem W5 {j pos}:PE X (.Constant .none j pos) (tC .non):=λ _ _ _ H _ I h=>Constant_none ⟨.non,H,I,rfl,h⟩
theorem D8 {x j pos}:PE X (.Constant (.str x) j pos) (tC (.str x)):=λ _ _ _ H _ I h=>Calls.Constant_str ⟨.str x,H,I.tok _,⟨_,rfl⟩,h⟩
def Gl (X:Cx) (x:Str):Prop:=X.env.kindOf x=some .globalImplicit
theorem Z0 {E:Value->Shared->Prop} {pins:List (Addr×Obj)} {s:Shared} {σ:St} {H:Hp} {x:Str} {u:Value} {pos:Pos} {Q:Value->Shared->Prop} (I:Inv X pins σ H s) (hg:Gl X x) (hm:X.mg x=some u) (h:Q u s)
  (hd:(x==("__debug__":Str))=false:=by decide):wpAny (model X.prog X.w) X.A (eval (.Name x pos) X.env) Q E s :=
 Calls.Name_function_global I.ok.kind hg (Calls.loadGlobal_global (by rw [I.ok.glob]; exact I.mod.glob.keeps I.bk) hm h) hd
theorem U5 {E:Value->Shared->Prop} {pins:List (Addr×Obj)} {s:Shared} {σ:St} {H:Hp} {x:Str} {u:Value} {pos:Pos} {Q:Value->Shared->Prop} (I:Inv X pins σ H s) (hg:Gl X x) (hm:X.mg x=none) (hv:bootBuiltins x=some u) (h:Q u s)
  (hn:x≠"__name__":=by decide) (hd:(x==("__debug__":Str))=false:=by decide):wpAny (model X.prog X.w) X.A (eval (.Name x pos) X.env) Q E s:=by
 obtain ⟨mb,h1,h2⟩:=I.mod.blt;exact Calls.Name_function_global I.ok.kind hg (Calls.loadGlobal_builtin (by rw [I.ok.glob]; exact I.mod.glob.keeps I.bk) hm (by rw [I.ok.blt]; exact h1.keeps I.bk) ((h2 x hn).trans hv) h) hd
theorem K2 {x:Str} {v:V} {u:Value} {pos:Pos} (hg:Gl X x) (hm:X.mg x=some u) (r:RelV v u) (hd:(x==("__debug__":Str))=false:=by decide):PE X (.Name x pos) (tC v) :=
 λ _ _ _ H _ I h=>Z0 I hg hm ⟨v,H,I,r,h⟩ hd
theorem T0 {x:Str} {v:V} {u:Value} {pos:Pos} (hg:Gl X x) (hm:X.mg x=none) (hv:bootBuiltins x=some u) (r:RelV v u) (hn:x≠"__name__":=by decide) (hd:(x==("__debug__":Str))=false:=by decide):PE X (.Name x pos) (tC v) :=
 λ _ _ _ H _ I h=>U5 I hg hm hv ⟨v,H,I,r,h⟩ hn hd
variable {a b:Expr} {ta tb:TE} {pos:Pos}
def tB (t:TE):TT:=λ σ H Q=>t σ H λ x H1=>∃ c,x=.bl c/\Q c H1
theorem U9 {e:Expr} {t:TE} (h:PE X e t) (he:∀ whole,isTrue e X.env whole=(do let v <- whole; standAt e.pos; holding [v] (truthy v)):=by intro _; rfl):PT X e (tB t):=by
 intro pins s σ H Q I hw;refine isTrue_plain (A8 (h pins s σ H _ I hw) λ v s1 ⟨x,H1,I1,r1,q1⟩=>?_) (he _);obtain ⟨d,rfl,q⟩:=q1
 cases r1;exact wpAny_truthy_bool ⟨H1,I1,q⟩
variable {tA tB':TT} {rest:List Expr}
def b4w (t u:TT):TT:=λ σ H Q=>t σ H λ c H1=>if c=true then u σ H1 Q else Q false H1
def tOr (t u:TT):TT:=λ σ H Q=>t σ H λ c H1=>if c=true then Q true H1 else u σ H1 Q
def b4M (t:TT):TT:=λ σ H Q=>t σ H λ c H1=>Q (!c) H1
theorem a1J (ha:PT X a tA):PW X (.BoolOp .And [a] pos) tA:=by
 intro wh pins s σ H Q I h;refine isTrue_and (A8 (ha pins s σ H Q I h) λ c s1 e=>?_)
 cases c with
 | true=>exact isTrue_and_nil e
 | false=>exact e
theorem a2t (ha:PT X a tA):PW X (.BoolOp .Or [a] pos) tA:=by
 intro wh pins s σ H Q I h;refine isTrue_or (A8 (ha pins s σ H Q I h) λ c s1 e=>?_)
 cases c with
 | false=>exact isTrue_or_nil e
 | true=>exact e
theorem a3B (ha:PT X a tA) (hb:PW X (.BoolOp .And (b::rest) pos) tB'):PW X (.BoolOp .And (a::b::rest) pos) (b4w tA tB'):=by
 intro wh pins s σ H Q I h;refine isTrue_and (A8 (ha pins s σ H _ I h) λ c s1 ⟨H1,I1,q1⟩=>?_)
 cases c with
 | true=>exact hb wh pins s1 σ H1 Q I1 q1
 | false=>exact ⟨H1,I1,q1⟩
theorem a4A (ha:PT X a tA) (hb:PW X (.BoolOp .Or (b::rest) pos) tB'):PW X (.BoolOp .Or (a::b::rest) pos) (tOr tA tB'):=by
 intro wh pins s σ H Q I h;refine isTrue_or (A8 (ha pins s σ H _ I h) λ c s1 ⟨H1,I1,q1⟩=>?_)
 cases c with
 | true=>exact ⟨H1,I1,q1⟩
 | false=>exact hb wh pins s1 σ H1 Q I1 q1
theorem U3 (ha:PT X a tA):PT X (.UnaryOp .Not a pos) (b4M tA):=by
 intro pins s σ H Q I h;exact isTrue_not (ha pins s σ H (λ c H1=>Q (!c) H1) I h)
def b3K (ta tb:TE):TE:=λ σ H Q=>ta σ H λ x H1=>∃ c,x=.bl c/\if c=true then tb σ H1 Q else Q (.bl false) H1
def b3G (ta:TE):TE:=λ σ H Q=>ta σ H λ x H1=>∃ c,x=.bl c/\Q (.bl (!c)) H1
theorem a0T {op} {t:TE} (h:PE X a t):PE X (.BoolOp op [a] pos) t:=λ pins s σ H Q I hw=>BoolOp_one (h pins s σ H Q I hw)
theorem X0 (ha:PE X a ta) (hb:PE X (.BoolOp .And (b::rest) pos) tb):PE X (.BoolOp .And (a::b::rest) pos) (b3K ta tb):=by
 intro pins s σ H Q I h;refine BoolOp_and (A8 (ha pins s σ H _ I h) λ v s1 ⟨x,H1,I1,r1,q1⟩=>?_);obtain ⟨c,rfl,q1⟩:=q1
 cases r1;refine wpAny_truthy_bool ?_
 cases c with
 | true=>exact hb pins s1 σ H1 Q I1 q1
 | false=>exact ⟨.bl false,H1,I1,rfl,q1⟩
theorem b2P (ha:PE X a ta):PE X (.UnaryOp .Not a pos) (b3G ta):=by
 intro pins s σ H Q I h;refine UnaryOp_ (A8 (ha pins s σ H _ I h) λ v s1 ⟨x,H1,I1,r1,q1⟩=>?_);obtain ⟨c,rfl,q1⟩:=q1
 cases r1;exact not_of (wpAny_truthy_bool ⟨.bl (!c),H1,I1,rfl,q1⟩)
end
def SqL (K:W.Frag) (H:Hp) (a:Addr) (xs:List V):Prop :=
 Rd H a (.lst xs) ∨
  ∃ (o:Obj) (its:Array Value) (n:Nat),K.lookup a=some o/\o.cls=.type "list"/\o.dict=none/\o.data=.seq its n/\its.size<=sizeLine/\Vals xs its.toList
def SqT (K:W.Frag) (H:Hp) (a:Addr) (xs:List V):Prop :=
 Rd H a (.tup xs) ∨
  ∃ (o:Obj) (its:Array Value) (n:Nat),K.lookup a=some o/\o.cls=.type "tuple"/\o.data=.seq its n/\its.size<=sizeLine/\Vals xs its.toList
def b4V:Value->Option V
 | .none=>some .non
 | .bool b=>some (.bl b)
 | .int i _=>some (.int i)
 | .str x _=>some (.str x)
 | .bytes b _=>some (.byt b)
 | .float b _=>some (.flt b)
 | .ref a=>some (.ref a)
 | .type n=>some (.ty n)
 | _=>none
theorem RelV.abs {x:V} {u:Value} (r:RelV x u):b4V u=some x:=by
 cases x with
 | non=>cases r; rfl
 | bl _=>cases r; rfl
 | int _=>obtain ⟨t,rfl⟩:=r; rfl
 | str _=>obtain ⟨t,rfl⟩:=r; rfl
 | byt _=>obtain ⟨t,rfl⟩:=r; rfl
 | flt _=>obtain ⟨t,rfl⟩:=r; rfl
 | ref _=>cases r; rfl
 | ty _=>cases r; rfl
theorem RelV.inj {x y:V} {u:Value} (r:RelV x u) (q:RelV y u):x=y:=aL (r.abs.symm.trans q.abs)
theorem Vals.inj:∀ {xs ys:List V} {us:List Value},Vals xs us->Vals ys us->xs=ys
 | _,_,_,.nil,.nil=>rfl
 | _,_,_,.cons r t,.cons r' t'=>by rw [r.inj r',Vals.inj t t']
section
variable {X:Cx} {pins:List (Addr×Obj)} {σ:St} {H:Hp} {s:Shared} {a:Addr} {xs ys:List V}
theorem SqL.of {K:W.Frag} (h:H a=some (.lst xs)):SqL K H a xs:=.inl (.inl h)
theorem SqT.of {K:W.Frag} (h:H a=some (.tup xs)):SqT K H a xs:=.inl (.inl h)
theorem Inv.list (I:Inv X pins σ H s) (h:SqL X.K H a xs):∃ its:List Value,Vals xs its/\PlainL s.heap a its.toArray/\xs.length<=sizeLine:=by
 rcases h with h | ⟨o,its,n,hk,hc,hd,hs,hz,r⟩
 ·obtain ⟨z,its,n,r,e⟩:=h.ok I.hok
  exact ⟨its,r,⟨_,n,e,rfl,rfl,rfl⟩,z⟩
 ·refine ⟨its.toList,r,⟨o,n,I.kIn a o hk,hc,hd,by simpa using hs⟩,?_⟩
  have e:=r.length;simp only [gF] at e;omega
theorem Inv.tuple (I:Inv X pins σ H s) (h:SqT X.K H a xs):∃ its:List Value,Vals xs its/\IsTup s.heap a its.toArray/\xs.length<=sizeLine:=by
 rcases h with h | ⟨o,its,n,hk,hc,hs,hz,r⟩
 ·obtain ⟨z,its,r,p⟩:=h.ok I.hok
  exact ⟨its,r,p,z⟩
 ·refine ⟨its.toList,r,⟨o,I.kIn a o hk,hc,n,by simpa using hs⟩,?_⟩
  have e:=r.length;simp only [gF] at e;omega
theorem Inv.list_inj (I:Inv X pins σ H s) (h:SqL X.K H a xs) (h':SqL X.K H a ys):xs=ys:=by
 obtain ⟨its,r,⟨o,n,e,_,_,d⟩,_⟩:=I.list h;obtain ⟨its',r',⟨o',n',e',_,_,d'⟩,_⟩:=I.list h';rw [e] at e'; cases e';rw [d] at d';injection d' with d1 _
 have:its=its':=by simpa using congrArg jB d1
 subst this;exact r.inj r'
theorem Inv.tuple_inj (I:Inv X pins σ H s) (h:SqT X.K H a xs) (h':SqT X.K H a ys):xs=ys:=by
 obtain ⟨its,r,⟨o,e,_,n,d⟩,_⟩:=I.tuple h;obtain ⟨its',r',⟨o',e',_,n',d'⟩,_⟩:=I.tuple h';rw [e] at e'; cases e';rw [d] at d';injection d' with d1 _
 have:its=its':=by simpa using congrArg jB d1
 subst this;exact r.inj r'
end
abbrev Cx.wish (X:Cx) (E:Value->Shared->Prop):Cx:={ X with xe:=E }
abbrev Cx.nox (X:Cx):Cx:=X.wish λ _ _=>False
theorem Cx.Ok.wish {X:Cx} (ok:X.Ok) (E:Value->Shared->Prop):(X.wish E).Ok :=
 ⟨ok.mod,ok.kind,ok.glob,ok.blt,ok.above,ok.inj,ok.has,ok.cab,ok.hd,ok.frames,ok.stk,ok.exf,ok.bs,ok.bsz,ok.noex,ok.exfs,ok.funs,ok.frf⟩
theorem Cx.Ok.unwish {X:Cx} {E:Value->Shared->Prop} (ok:(X.wish E).Ok):X.Ok :=
 ⟨ok.mod,ok.kind,ok.glob,ok.blt,ok.above,ok.inj,ok.has,ok.cab,ok.hd,ok.frames,ok.stk,ok.exf,ok.bs,ok.bsz,ok.noex,ok.exfs,ok.funs,ok.frf⟩
section
variable {X:Cx} {pins:List (Addr×Obj)} {σ:St} {H:Hp} {s:Shared} {E:Value->Shared->Prop}
theorem Inv.wish (I:Inv X pins σ H s) (E:Value->Shared->Prop):Inv (X.wish E) pins σ H s:=⟨I.ok.wish E,I.os,I.bare,I.base,I.loc,I.cell,I.free,I.freeC,I.pin,I.hok,I.len⟩
theorem Inv.unwish (I:Inv (X.wish E) pins σ H s):Inv X pins σ H s:=⟨I.ok.unwish,I.os,I.bare,I.base,I.loc,I.cell,I.free,I.freeC,I.pin,I.hok,I.len⟩
theorem SP.unwish {D:Ends} {f:Flow} {s':Shared} (h:SP (X.wish E) pins D f s'):SP X pins D f s':=by
 cases f with
 | next=>obtain ⟨σ',H',I,q⟩:=h; exact ⟨σ',H',I.unwish,q⟩
 | brk=>obtain ⟨σ',H',I,q⟩:=h; exact ⟨σ',H',I.unwish,q⟩
 | cont=>obtain ⟨σ',H',I,q⟩:=h; exact ⟨σ',H',I.unwish,q⟩
 | ret u=>obtain ⟨v,σ',H',I,r,q⟩:=h; exact ⟨v,σ',H',I.unwish,r,q⟩
theorem PSs.nox {st:List Stmt} {t:TS} (h:PSs X.nox st t):PSs X st t:=λ pins s σ H D I hw =>
 wpAny_mono (h pins s σ H D (I.wish _) hw) (λ _ _ q=>q.unwish) λ _ _ z=>bM z
end
section
variable {X:Cx} {st:Stmt} {rest:List Stmt} {t u:TS} {e:Expr} {te:TE} {pos:Pos}
def b3t:TS:=λ D σ H=>D.nx σ H
def b4G (t u:TS):TS:=λ D σ H=>t { D with nx:=u D } σ H
theorem v8:PSs X [] b3t:=λ _ _ σ H _ I h=>wpAny_execs_nil ⟨σ,H,I,h⟩
theorem i9 (h1:PS X st t) (h2:PSs X rest u):PSs X (st::rest) (b4G t u):=by
 intro pins s σ H D I h;refine wpAny_execs_cons (A8 (h1 pins s σ H { D with nx:=u D } I h) λ f s1 q=>?_)
 cases f with
 | next =>
  obtain ⟨σ',H',I',q⟩:=q;exact h2 pins s1 σ' H' D I' q
 | ret v=>exact q
 | brk=>exact q
 | cont=>exact q
theorem j3 (h1:PS X st t):PSs X [st] t:=by
 intro pins s σ H D I h;refine wpAny_execs_cons (A8 (h1 pins s σ H D I h) λ f s1 q=>?_)
 cases f with
 | next=>exact wpAny_execs_nil q
 | ret v=>exact q
 | brk=>exact q
 | cont=>exact q
theorem Inv.quiet {pins:List (Addr×Obj)} {σ:St} {H:Hp} {s:Shared} (I:Inv X pins σ H s):interactive X.env=false:=by simp [interactive,I.ok.kind]
def b4j (te:TE):TS:=λ D σ H=>te σ H λ _ H1=>D.nx σ H1
theorem D3 (he:PE X e te) (hs:swapsWith e none pos.line X.env=pure false:=by rfl):PS X (.Expr e pos) (b4j te):=by
 intro pins s σ H D I h;exact wpAny_Expr_any (A8 (he pins s σ H _ I h) λ v s1 ⟨x,H1,I1,r1,q1⟩=>⟨σ,H1,I1,q1⟩) I.quiet hs
def b4H (te:TE):TS:=λ D σ H=>te σ H D.rt
theorem r9 (he:PE X e te):PS X (.Return (some e) pos) (b4H te):=by
 intro pins s σ H D I h;exact wpAny_Return_some (A8 (he pins s σ H _ I h) λ v s1 ⟨x,H1,I1,r1,q1⟩=>⟨x,σ,H1,I1,r1,q1⟩)
def b4W (c:TT) (t u:TS):TS:=λ D σ H=>c σ H λ b H1=>if b=true then t D σ H1 else u D σ H1
theorem A4 {c:Expr} {a b:List Stmt} {tc:TT} (hc:PT X c tc) (ha:PSs X a t) (hb:PSs X b u):PS X (.If c a b pos) (b4W tc t u):=by
 intro pins s σ H D I h;refine wpAny_If (A8 (hc pins s σ H _ I h) λ d s1 ⟨H1,I1,q1⟩=>?_)
 cases d with
 | true=>exact ha pins s1 σ H1 D I1 q1
 | false=>exact hb pins s1 σ H1 D I1 q1
def b1W:TS:=λ _ _ _=>False
theorem a2P {sts:List Stmt}:PSs X sts b1W:=λ _ _ _ _ _ _ h=>h.elim
end
abbrev TG:=V->St->Hp->(St->Hp->Prop)->Prop
abbrev TGs:=List V->St->Hp->(St->Hp->Prop)->Prop
def PG (X:Cx) (target:Expr) (t:TG):Prop :=
 ∀ (pins:List (Addr×Obj)) (s:Shared) (σ:St) (H:Hp) (v:V) (u:Value) (Q:St->Hp->Prop),Inv X pins σ H s->RelV v u->t v σ H Q →
  wpAny (model X.prog X.w) X.A (assign target X.env u) (λ _ s'=>∃ σ' H',Inv X pins σ' H' s'/\Q σ' H') X.xe s
def PGs (X:Cx) (ts:List Expr) (t:TGs):Prop :=
 ∀ (pins:List (Addr×Obj)) (s:Shared) (σ:St) (H:Hp) (vs:List V) (us:List Value) (Q:St->Hp->Prop),Inv X pins σ H s->Vals vs us->t vs σ H Q →
  wpAny (model X.prog X.w) X.A (assignInOrder ((assignEach ts X.env).map (·.2)) us) (λ _ s'=>∃ σ' H',Inv X pins σ' H' s'/\Q σ' H') X.xe s
abbrev b2p:=V->V->V->Hp->(Hp->Prop)->Prop
def b3x (X:Cx) (t:b2p):Prop :=
 ∀ (pins:List (Addr×Obj)) (s:Shared) (σ:St) (H:Hp) (o i v:V) (ov iv u:Value) (Q:Hp->Prop),Inv X pins σ H s->RelV o ov->RelV i iv->RelV v u->t o i v H Q →
  wpAny (model X.prog X.w) X.A (setItem ov iv u) (λ _ s'=>∃ H',Inv X pins σ H' s'/\Q H') X.xe s
section
variable {X:Cx} {pos:Pos}
def J8 (i:Nat):TG:=λ v σ H Q=>Q (σ.set i (some v)) H
theorem j8 {i:Nat} {x:Str} (hN:X.N.Nodup) (hi:X.N[i]?=some x) (hx:Loc X.env.scope x) (hf:X.fn x=true\/X.env.scope.names.lookup x=some .local:=by first | exact .inl rfl | exact .inr rfl | assumption):PG X (.Name x pos) (J8 i):=by
 intro pins s σ H v u Q I r h;exact wpAny_assign_Name (W2 I hN hi hx r (λ s' I'=>⟨_,H,I',h⟩) hf)
def a7A:TGs:=λ vs σ H Q=>vs=[]/\Q σ H
def W8 (t:TG) (u:TGs):TGs:=λ vs σ H Q=>∃ v r,vs=v::r/\t v σ H λ σ' H'=>u r σ' H' Q
theorem C2:PGs X [] a7A:=by
 intro pins s σ H vs us Q I r h;obtain ⟨e,h⟩:=h;subst e
 cases r;exact assignInOrder_nil ⟨σ,H,I,h⟩
theorem r8 {e:Expr} {es:List Expr} {t:TG} {u:TGs} (h1:PG X e t) (h2:PGs X es u)
  (hs:(assignEach (e::es) X.env).map (·.2)=assign e X.env::(assignEach es X.env).map (·.2):=by rfl):PGs X (e::es) (W8 t u):=by
 intro pins s σ H vs us Q I r h;obtain ⟨v,vr,e1,h⟩:=h;subst e1
 cases r with
 | cons r rr =>
  rw [hs];refine assignInOrder_cons (A8 (h1 pins s σ H _ _ _ I r h) λ _ s1 ⟨σ1,H1,I1,q1⟩=>?_);exact h2 pins s1 σ1 H1 _ _ Q I1 rr q1
def a5x (K:W.Frag) (n:Nat) (t:TGs):TG:=λ v σ H Q=>∃ a xs,v=.ref a/\SqT K H a xs/\xs.length=n/\t xs σ H Q
theorem T8 {es:List Expr} {k:Nat} {t:TGs} {n:Nat} (hc:X.calm=true) (h:PGs X es t)
  (hn:(assignEach es X.env).length=n:=by rfl) (hst:(assignEach es X.env).findIdx? (·.1)=none:=by rfl):PG X (.Tuple es k pos) (a5x X.K n t):=by
 intro pins s σ H v u Q I r hw;obtain ⟨a,xs,e1,hq,hl,hw⟩:=hw;subst e1
 cases r;obtain ⟨its,rv,ht,hz⟩:=I.tuple hq;refine assign_Tuple_tuple (I.ok.hd hc) ht (by simp [hn,<- hl,rv.length]) hst λ h' hx=>?_;have I1:Inv X pins σ H { s with heap:=h' }:=I.kept (t':=s.toks) λ b o e=>hx b o (bI (Heap.lt_size e)) e;exact h pins _ σ H xs _ Q I1 (by simpa using rv) hw
def b4Z (to ti:TE) (t:b2p):TG:=λ v σ H Q=>to σ H λ o H1=>ti σ H1 λ i H2=>t o i v H2 λ H3=>Q σ H3
theorem U8 {o i:Expr} {to ti:TE} {t:b2p} (ho:PE X o to) (hi:PE X i ti) (hs:b3x X t)
  (ha:∀ v,assign (.Subscript o i pos) X.env v=(do
   let ov <- holding [v] (eval o X.env)
   let iv <- holding [v,ov] (eval i X.env)
   standAt pos
   holding [v,ov,iv] (setItem ov iv v)
   release [v,ov,iv] []):=by intro _; rfl):PG X (.Subscript o i pos) (b4Z to ti t):=by
 intro pins s σ H v u Q I r h;rw [ha];refine wpAny_bind (wpAny_holding (A8 (ho pins s σ H _ I h) λ ov s1 ⟨x,H1,I1,r1,q1⟩=>?_));refine wpAny_bind (wpAny_holding (A8 (hi pins s1 σ H1 _ I1 q1) λ iv s2 ⟨y,H2,I2,r2,q2⟩=>?_));refine wpAny_bind (wpAny_standAt (wpAny_bind (wpAny_holding (A8 (hs pins s2 σ H2 x y v ov iv u _ I2 r1 r2 r q2) λ _ s3 ⟨H3,I3,q3⟩=>?_))));exact wpAny_release ⟨σ,H3,I3,q3⟩
def a7x (te:TE) (g:TG):TS:=λ D σ H=>te σ H λ x H1=>g x σ H1 D.nx
theorem G9 {tg e:Expr} {te:TE} {g:TG} (he:PE X e te) (hg:PG X tg g) (hs:swapsWithSole [tg] e pos.line X.env=pure false:=by rfl) (hw:swappedStores [tg] e X.env=pure none:=by rfl)
  (h1:(assignEach [tg] X.env).map (·.2)=[assign tg X.env]:=by rfl):PS X (.Assign [tg] e pos) (a7x te g):=by
 intro pins s σ H D I h;refine wpAny_Assign_stores (A8 (he pins s σ H _ I h) λ v s1 ⟨x,H1,I1,r1,q1⟩=>?_) hs hw;rw [h1];exact A8 (hg pins s1 σ H1 x v _ I1 r1 q1) λ _ s2 q=>q
theorem o4 {i:Nat} {x:Str} {e:Expr} {te:TE} {pos':Pos} (hN:X.N.Nodup) (hi:X.N[i]?=some x) (hx:Loc X.env.scope x) (he:PE X e te) (hs:swapsWith e (some (.Name x pos')) pos.line X.env=pure false:=by rfl) (hf:X.fn x=true\/X.env.scope.names.lookup x=some .local:=by first | exact .inl rfl | exact .inr rfl | assumption) :
  PS X (.Assign [.Name x pos'] e pos) (a7x te (J8 i)):=by
 intro pins s σ H D I h;refine wpAny_Assign_Name (A8 (he pins s σ H _ I h) λ v s1 ⟨y,H1,I1,r1,q1⟩=>?_) hs;exact W2 I1 hN hi hx r1 (λ s2 I2=>⟨_,H1,I2,q1⟩) hf
def b4S (i j:Nat) (ta:TA):TS:=λ D σ H=>ta σ H λ vs H1=>∃ v w,vs=[v,w]/\D.nx ((σ.set i (some v)).set j (some w)) H1
theorem b2A {i j:Nat} {x y:Str} {a b:Expr} {ta:TA} {px py pt:Pos} {kt k2 pt2} (hc:X.calm=true) (hN:X.N.Nodup) (hi:X.N[i]?=some x) (hj:X.N[j]?=some y) (hij:i≠j)
  (hx:X.env.scope.names.lookup x=some .local) (hy:X.env.scope.names.lookup y=some .local) (ha:PA X [a,b] ta)
  (hw:swappedStores [.Tuple [.Name x px,.Name y py] kt pt] (.Tuple [a,b] k2 pt2) X.env=pure (some [x,y]))
  (hs:swapsWithSole [.Tuple [.Name x px,.Name y py] kt pt] (.Tuple [a,b] k2 pt2) pos.line X.env=pure false:=by rfl) :
  PS X (.Assign [.Tuple [.Name x px,.Name y py] kt pt] (.Tuple [a,b] k2 pt2) pos) (b4S i j ta):=by
 intro pins s σ H D I h;rw [exec_Assign_arm];refine wpAny_bind (wpAny_standAt ?_);rw [hs];refine wpAny_bind (wpAny_pure ?_);rw [if_neg (by decide)];refine wpAny_bind (Tuple_ (A8 (ha _ pins s σ H _ I h) λ us s1 ⟨vs,H1,I1,r1,q1⟩=>?_));obtain ⟨v,w,e1,q1⟩:=q1;subst e1;obtain ⟨u1,u2,rfl,rv,rw'⟩:∃ u1 u2,us=[u1,u2]/\RelV v u1/\RelV w u2:=by
  cases r1 with
  | cons p q =>
   cases q with
   | cons p' q' =>
    cases q';exact ⟨_,_,rfl,p,p'⟩
 refine wpAny_newObj_type ?_ (by show 2<=sizeLine; decide);have I2:Inv X pins σ H1 { s1 with heap:=s1.heap.push { cls:=.type "tuple",data:=.seq [u1,u2].toArray } }:=I1.kept (t':=s1.toks) λ b o e=>Heap.get?_push_of_some _ e;rw [hw];refine wpAny_bind (wpAny_pure ?_)
 show wpAny (model X.prog X.w) X.A (do rule "assign.swapped-stores"; let items <- unpackItems (.ref s1.heap.objs.size) 2 none; assignInOrder [λ v=>bindName X.env y v,λ v=>bindName X.env x v] items.reverse; pure Flow.next) _ _ _
 refine wpAny_bind (wpAny_rule (wpAny_bind (unpackItems_tuple (items:=#[u1,u2]) (I.ok.hd hc) (IsTup.new s1.heap _) λ h' hx'=>?_)));have I3:=I2.kept (h':=h') (t':=s1.toks) λ b o e=>hx' b o (bI (Heap.lt_size e)) e
 show wpAny _ _ (assignInOrder [λ v=>bindName X.env y v,λ v=>bindName X.env x v] [u2,u1] >>= λ _=>pure Flow.next) _ _ _
 refine wpAny_bind (assignInOrder_cons (wpAny_bindName (W2 I3 hN hj (.inl hy) rw' (λ s2 I4=>?_) (.inr hy))));refine assignInOrder_cons (wpAny_bindName (W2 I4 hN hi (.inl hx) rv (λ s3 I5=>assignInOrder_nil (wpAny_pure ?_)) (.inr hx)));rw [fH _ _ (aS hij)] at I5;exact ⟨_,H1,I5,q1⟩
end
section
variable {X:Cx} {pos:Pos}
def a8k (c:TT) (tb:TS):TS:=λ D σ H=>∃ W:Nat->St->Hp->Prop,(∃ m,W m σ H)/\∀ m σ H,W m σ H →
 c σ H λ b H1=>if b=true then ∃ N:St->Hp->Prop,(∀ σ' H',N σ' H'->∃ m',m'<m/\W m' σ' H')/\tb { D with nx:=N,ct:=N,bk:=D.nx } σ H1 else D.nx σ H1
theorem a4Y {c:Expr} {body:List Stmt} {tc:TT} {tb:TS} (hp:PassesOwn (model X.prog X.w) X.A X.env X.xe) (hc:PT X c tc) (hb:PSs X body tb):PS X (.While c body [] pos) (a8k tc tb):=by
 intro pins s σ H D I h;obtain ⟨W,⟨m0,w0⟩,turn⟩:=h;refine wpAny_While (codeAny_whileLoop (λ n s'=>∃ σ' H',Inv X pins σ' H' s'/\W n σ' H') ?_ m0 ⟨σ,H,I,w0⟩);rintro n s1 ⟨σ1,H1,I1,w1⟩;refine wpAny_passesOwn hp (A8 (hc pins s1 σ1 H1 _ I1 (turn n σ1 H1 w1)) λ b s2 ⟨H2,I2,q2⟩=>?_)
 cases b with
 | true =>
  obtain ⟨N,hN,q2⟩:=q2;rw [if_pos rfl];refine wpAny_passesOwn hp (A8 (hb pins s2 σ1 H2 _ I2 q2) λ f s3 q3=>?_)
  cases f with
  | next =>
   obtain ⟨σ3,H3,I3,n3⟩:=q3;obtain ⟨m',hm,w3⟩:=hN σ3 H3 n3;exact ⟨m',hm,σ3,H3,I3,w3⟩
  | cont =>
   obtain ⟨σ3,H3,I3,n3⟩:=q3;obtain ⟨m',hm,w3⟩:=hN σ3 H3 n3;exact ⟨m',hm,σ3,H3,I3,w3⟩
  | brk=>exact q3
  | ret v=>exact q3
 | false =>
  rw [if_neg bW];exact wpAny_execs_nil ⟨σ1,H2,I2,q2⟩
end
structure It where
 go:Nat->Hp->Prop
 yld:Nat->Hp->V->Hp->Prop
 stop:Nat->Hp->Prop
def U7 (X:Cx) (pins:List (Addr×Obj)) (H:Hp) (b:Addr):Prop :=
 H b=none/\b≠X.env.locals/\b ∉ X.fs/\(b∈X.ex\/X.s₀.heap.objs.size<=b)/\(∀ x c,X.env.cells.lookup x=some c->c≠b)/\∀ p∈X.pn++pins,p.1≠b
theorem Inv.fpOk {X:Cx} {pins:List (Addr×Obj)} {σ:St} {H H':Hp} {s:Shared} {b:Addr} (I:Inv X pins σ H s) (hb:s.heap.objs.size<=b) (hn:H' b=none):U7 X pins H' b:=by
 refine ⟨hn,cP (aR I.lt hb),I.nofs hb,.inr (aW I.sz hb),λ x c e z=>?_,λ p hp z=>?_⟩
 ·obtain ⟨v,q⟩:=I.cell x c e
  exact absurd (aR q.lt (by rw [z]; exact hb)) (bJ _)
 ·exact absurd (aR (Heap.lt_size (I.pin p hp).1) (by rw [z]; exact hb)) (bJ _)
structure a5A (P:Program) (w:World) (K:W.Frag) (tg:Expr) (J:It) (fp:List Addr) (it:Addr) (tn:Nat->Heap->Prop):Prop where
 mem:it∈fp
 obj:∀ i h,tn i h->∀ b∈fp,∃ o,h.get? b=some o/\∀ v,o.data≠.cell v
 keep:∀ i h h',tn i h->(∀ b∈fp,∀ o,h.get? b=some o->h'.get? b=some o)->tn i h'
 item:∀ (X:Cx),X.prog=P->X.w=w->X.K=K->X.calm=true->∀ (i:Nat) (pins:List (Addr×Obj)) (s:Shared) (σ:St) (H:Hp) (E:Value->Shared->Prop),Inv X pins σ H s->(∀ b∈fp,U7 X pins H b)->tn i s.heap->J.go i H →
  wpAny (model P w) X.A (pyNext (.ref it)) (λ r s1=>∃ u,r=some u ∧
   wpAny (model P w) X.A (letOwnedTupleGo tg (.ref it) u) (λ _ s2=>∃ x H',Inv X pins σ H' s2/\RelV x u/\J.yld i H x H'/\tn (i+1) s2.heap/\∀ b∈fp,H' b=none) E s1) E s
 done:∀ (X:Cx),X.prog=P->X.w=w->X.K=K->X.calm=true->∀ (i:Nat) (pins:List (Addr×Obj)) (s:Shared) (σ:St) (H:Hp) (E:Value->Shared->Prop),Inv X pins σ H s->(∀ b∈fp,U7 X pins H b)->tn i s.heap->J.stop i H →
  wpAny (model P w) X.A (pyNext (.ref it)) (λ r s1=>r=none/\Inv X pins σ H s1) E s
 self:∀ (A:Around) (i:Nat) (s:Shared) (Q:Value->Shared->Prop) (E:Value->Shared->Prop),tn i s.heap->Q (.ref it) s->wpAny (model P w) A (pyIter (.ref it)) Q E s
abbrev TI:=St->Hp->(It->Hp->Prop)->Prop
def PIE (X:Cx) (pins:List (Addr×Obj)) (σ:St) (tg:Expr) (R:It->Hp->Prop) (itv:Value) (s2:Shared):Prop :=
 ∃ (it:Addr) (fp:List Addr) (tn:Nat->Heap->Prop) (J:It) (H':Hp),itv=.ref it/\Inv X pins σ H' s2/\a5A X.prog X.w X.K tg J fp it tn/\tn 0 s2.heap/\(∀ b∈fp,U7 X pins H' b)/\R J H'
def PI (X:Cx) (tg iter:Expr) (wi:TI):Prop :=
 ∀ (pins:List (Addr×Obj)) (s:Shared) (σ:St) (H:Hp) (R:It->Hp->Prop),Inv X pins σ H s->wi σ H R →
  wpAny (model X.prog X.w) X.A (eval iter X.env) (λ v s1=>wpAny (model X.prog X.w) X.A (pyIter v) (PIE X pins σ tg R) X.xe s1) X.xe s
theorem a9K {M:Model} {A:Around} {E:Value->Shared->Prop} {s:Shared} {tg:Expr} {it:Addr} {u:Value} {o:Obj} {n:String} {vs:Array Value} {Q:Unit->Shared->Prop} (ho:s.heap.get? it=some o) (hc:o.cls=.type n) (hd:o.data=.fields vs)
    (hn:["enumerate","zip","dict_itemiterator","dict_reverseitemiterator","odict_iterator","itertools.zip_longest","itertools.pairwise"].contains n=false) (hQ:Q () s):wpAny M A (letOwnedTupleGo tg (.ref it) u) Q E s:=by
  unfold letOwnedTupleGo
  cases tg <;> first
    | exact wpAny_pure hQ
    | (cases u <;> first
        | exact wpAny_pure hQ
        | (refine wpAny_bind (wpAny_load ho ?_)
           rw [hc,hd]
           show wpAny M A (if (["enumerate","zip","dict_itemiterator","dict_reverseitemiterator","odict_iterator","itertools.zip_longest","itertools.pairwise"].contains n&&vs[0]?==some (rawInt _))=true then _ else _) Q E s
           rw [if_neg (by intro h; rw [hn,Bool.false_and] at h; cases h)];exact wpAny_pure hQ))
def Itl (K:W.Frag) (a:Addr):It :=
 ⟨λ i H=>∃ xs x,SqL K H a xs/\xs[i]?=some x,λ i H x H'=>H'=H/\∀ xs,SqL K H a xs->xs[i]?=some x,λ i H=>∃ xs,SqL K H a xs/\xs.length<=i⟩
def Itt (K:W.Frag) (a:Addr):It :=
 ⟨λ i H=>∃ xs x,SqT K H a xs/\xs[i]?=some x,λ i H x H'=>H'=H/\∀ xs,SqT K H a xs->xs[i]?=some x,λ i H=>∃ xs,SqT K H a xs/\xs.length<=i⟩
def Itr (lo:Int) (n:Nat):It:=⟨λ i _=>i<n,λ i H x H'=>H'=H/\x=.int (lo+i),λ i _=>n<=i⟩
theorem a7J {P:Program} {w:World} {K:W.Frag} {tg:Expr} (a it:Addr):a5A P w K tg (Itl K a) [it] it (λ i h=>h.IsListIter it a i) where
 mem:=by simp
 obj:=λ i h st b hb=>by
  have e:b=it:=by simpa using hb
  subst e;obtain ⟨o,e,c,d⟩:=st;exact ⟨o,e,λ v z=>by rw [d] at z; cases z⟩
 keep:=λ i h h' st k=>st.at λ o e=>k it (by simp) o e
 item:=by
  intro X hP hw hK hc i pins s σ H E I hf st hg;subst hP hw hK;obtain ⟨xs,x,hq,hx⟩:=hg;obtain ⟨its,rv,p,hz⟩:=I.list hq;obtain ⟨u,hu,ru⟩:=rv.get hx;obtain ⟨f0,f1,f2,f3,f4,f5⟩:=hf it (by simp);refine wpAny_pyNext_list_item st p.isList (x:=u) (by simpa using hu) λ h' st' sb=>?_;have I1:Inv X pins σ H { s with heap:=h' }:=I.turned (t':=s.toks) (λ b o hb e=>(sb.2 b hb).trans e) f0 f1 f3 f4 f5;obtain ⟨o,e,c,d⟩:=id st';exact ⟨u,rfl,a9K (s:={ s with heap:=h' }) e c d (by decide) ⟨x,H,I1,ru,⟨rfl,λ ys hy=>by rw [I.list_inj hy hq]; exact hx⟩,st',λ b hb=>(hf b hb).1⟩⟩
 done:=by
  intro X hP hw hK hc i pins s σ H E I hf st hg;subst hP hw hK;obtain ⟨xs,hq,hx⟩:=hg;obtain ⟨its,rv,p,hz⟩:=I.list hq;obtain ⟨f0,f1,f2,f3,f4,f5⟩:=hf it (by simp);have hl:=rv.length;exact wpAny_pyNext_list_end (I.ok.hd hc) st p.isList (by simp; omega) λ h' eb=>⟨rfl,I.turned (t':=s.toks) (λ b o hb e=>eb b o hb e) f0 f1 f3 f4 f5⟩
 self:=λ _ _ _ _ _ st h=>wpAny_pyIter_listiter st h
theorem a5E {P:Program} {w:World} {K:W.Frag} {tg:Expr} (a it:Addr):a5A P w K tg (Itt K a) [it] it (λ i h=>h.IsTupleIter it a i) where
 mem:=by simp
 obj:=λ i h st b hb=>by
  have e:b=it:=by simpa using hb
  subst e;obtain ⟨o,e,c,d⟩:=st;exact ⟨o,e,λ v z=>by rw [d] at z; cases z⟩
 keep:=λ i h h' st k=>st.at λ o e=>k it (by simp) o e
 item:=by
  intro X hP hw hK hc i pins s σ H E I hf st hg;subst hP hw hK;obtain ⟨xs,x,hq,hx⟩:=hg;obtain ⟨its,rv,p,hz⟩:=I.tuple hq;obtain ⟨u,hu,ru⟩:=rv.get hx;obtain ⟨f0,f1,f2,f3,f4,f5⟩:=hf it (by simp);refine wpAny_pyNext_tuple_item st (show s.heap.IsTuple a its.toArray from p) (x:=u) (by simpa using hu) λ h' st' sb=>?_;have I1:Inv X pins σ H { s with heap:=h' }:=I.turned (t':=s.toks) (λ b o hb e=>(sb.2 b hb).trans e) f0 f1 f3 f4 f5;obtain ⟨o,e,c,d⟩:=id st';exact ⟨u,rfl,a9K (s:={ s with heap:=h' }) e c d (by decide) ⟨x,H,I1,ru,⟨rfl,λ ys hy=>by rw [I.tuple_inj hy hq]; exact hx⟩,st',λ b hb=>(hf b hb).1⟩⟩
 done:=by
  intro X hP hw hK hc i pins s σ H E I hf st hg;subst hP hw hK;obtain ⟨xs,hq,hx⟩:=hg;obtain ⟨its,rv,p,hz⟩:=I.tuple hq;obtain ⟨f0,f1,f2,f3,f4,f5⟩:=hf it (by simp);have hl:=rv.length;exact wpAny_pyNext_tuple_end (I.ok.hd hc) st (show s.heap.IsTuple a its.toArray from p) (by simp; omega) λ h' eb=>⟨rfl,I.turned (t':=s.toks) (λ b o hb e=>eb b o hb e) f0 f1 f3 f4 f5⟩
 self:=λ _ _ _ _ _ st h=>wpAny_pyIter_tupleiter st h
theorem a5r {P:Program} {w:World} {K:W.Frag} {tg:Expr} (it:Addr) (lo:Int) (n:Nat):a5A P w K tg (Itr lo n) [it] it (λ i h=>IsRangeIter h it (lo+(i:Nat)*1) ((n:Int) - (i:Nat)) 1) where
 mem:=by simp
 obj:=λ i h st b hb=>by
  have e:b=it:=by simpa using hb
  subst e;exact ⟨_,st,λ v z=>by
   have z':Data.fields _=Data.cell v:=z
   cases z'⟩
 keep:=λ i h h' st k=>k it (by simp) _ st
 item:=by
  intro X hP hw hK hc i pins s σ H E I hf st hg;subst hP hw hK;obtain ⟨f0,f1,f2,f3,f4,f5⟩:=hf it (by simp);have W:=Walks.range (prog:=X.prog) (w:=X.w) (I.ok.hd hc) it lo 1 n;refine W.item i s _ _ hg st λ v h' tk hv st' kk=>?_;obtain ⟨t,rfl⟩:=hv;have I1:Inv X pins σ H { s with heap:=h',toks:=tk }:=I.turned (λ b o hb e=>kk b o (by simpa using hb) e) f0 f1 f3 f4 f5;refine ⟨_,rfl,a9K (s:={ s with heap:=h',toks:=tk }) (n:="range_iterator") st' rfl rfl (by decide) ⟨.int (lo+i),H,I1,⟨t,?_⟩,⟨rfl,rfl⟩,st',λ b hb=>(hf b hb).1⟩⟩;rw [eR]
 done:=by
  intro X hP hw hK hc i pins s σ H E I hf st hg;subst hP hw hK;obtain ⟨f0,f1,f2,f3,f4,f5⟩:=hf it (by simp);exact wpAny_pyNext_range_end (I.ok.hd hc) st (by have:n<=i:=hg; omega) λ h' eb=>⟨rfl,I.turned (t':=s.toks) (λ b o hb e=>eb b o hb e) f0 f1 f3 f4 f5⟩
 self:=λ _ _ _ _ _ st h=>wpAny_pyIter_rangeiter st h
section
variable {X:Cx} {tg:Expr}
def b4b (K:W.Frag) (tl:TE):TI:=λ σ H R=>tl σ H λ x H1=>∃ a,x=.ref a/\(∃ xs,SqL K H1 a xs)/\R (Itl K a) H1
def b3i (K:W.Frag) (tl:TE):TI:=λ σ H R=>tl σ H λ x H1=>∃ a,x=.ref a/\(∃ xs,SqT K H1 a xs)/\R (Itt K a) H1
theorem M4 {l:Expr} {tl:TE} (hl:PE X l tl):PI X tg l (b4b X.K tl):=by
 intro pins s σ H R I h;refine A8 (hl pins s σ H _ I h) λ v s1 ⟨x,H1,I1,r1,q1⟩=>?_;obtain ⟨a,e,⟨xs,hq⟩,q⟩:=q1;subst e
 cases r1;obtain ⟨its,rv,p,hz⟩:=I1.list hq;refine wpAny_pyIter_list p.isList ?_;refine ⟨s1.heap.objs.size,[s1.heap.objs.size],_,_,H1,rfl,I1.kept (t':=s1.toks) λ b o e=>Heap.get?_push_of_some _ e,a7J a _,⟨_,Heap.get?_push_size _ rfl,rfl,rfl⟩,λ b hb=>?_,q⟩;have e:b=s1.heap.objs.size:=by simpa using hb
 subst e;exact I1.fpOk (aF _) (I1.hok.fresh (aF _))
theorem a1Z {l:Expr} {tl:TE} (hl:PE X l tl):PI X tg l (b3i X.K tl):=by
 intro pins s σ H R I h;refine A8 (hl pins s σ H _ I h) λ v s1 ⟨x,H1,I1,r1,q1⟩=>?_;obtain ⟨a,e,⟨xs,hq⟩,q⟩:=q1;subst e
 cases r1;obtain ⟨its,rv,p,hz⟩:=I1.tuple hq;refine wpAny_pyIter_tuple (show s1.heap.IsTuple a its.toArray from p) ?_;refine ⟨s1.heap.objs.size,[s1.heap.objs.size],_,_,H1,rfl,I1.kept (t':=s1.toks) λ b o e=>Heap.get?_push_of_some _ e,a5E a _,⟨_,Heap.get?_push_size _ rfl,rfl,rfl⟩,λ b hb=>?_,q⟩;have e:b=s1.heap.objs.size:=by simpa using hb
 subst e;exact I1.fpOk (aF _) (I1.hok.fresh (aF _))
theorem a8q {pins:List (Addr×Obj)} {σ:St} {H:Hp} {s:Shared} {R:It->Hp->Prop} {E:Value->Shared->Prop} {lo hi:Int} {t u v:Tok} {tk:Nat} (I:Inv X pins σ H s) (h1:-(2 ^ 62)<=lo) (h2:lo<2 ^ 62) (h3:-(2 ^ 62)<=hi) (h4:hi<2 ^ 62)
  (q:R (Itr lo (hi - lo).toNat) H):wpAny (model X.prog X.w) X.A (pyIter (.ref s.heap.objs.size)) (PIE X pins σ tg R) E { s with heap:=s.heap.push { cls:=.type "range",data:=.fields #[.int lo t,.int hi u,.int 1 v] },toks:=tk }:=by
 refine wpAny_pyIter_range (IsRange.new ..) (small_one h1 h2 h3 h4) ?_;have I1:Inv X pins σ H { s with heap:=s.heap.push { cls:=.type "range",data:=.fields #[.int lo t,.int hi u,.int 1 v] },toks:=tk }:=I.kept λ b o e=>Heap.get?_push_of_some _ e;refine ⟨(s.heap.push { cls:=.type "range",data:=.fields #[.int lo t,.int hi u,.int 1 v] }).objs.size,[(s.heap.push { cls:=.type "range",data:=.fields #[.int lo t,.int hi u,.int 1 v] }).objs.size],_,_,H,rfl,
  I1.kept (t':=tk) λ b o e=>Heap.get?_push_of_some _ e,a5r _ lo (hi - lo).toNat,?_,λ b hb=>?_,q⟩
 ·have e1:lo+((0:Nat):Int)*1=lo:=by simp
  have e2:(((hi - lo).toNat:Nat):Int) - ((0:Nat):Int)=Builtin.Range.rangeSize lo hi 1:=by rw [rangeSize_one]; split <;> omega
  show IsRangeIter _ _ (lo+((0:Nat):Int)*1) ((((hi - lo).toNat:Nat):Int) - ((0:Nat):Int)) 1
  rw [e1,e2];exact Heap.get?_push_size _ rfl
 ·have e:b=(s.heap.push { cls:=.type "range",data:=.fields #[.int lo t,.int hi u,.int 1 v] }).objs.size:=by simpa using hb
  subst e;exact I1.fpOk (aF _) (I1.hok.fresh (aF _))
def b3H (ta:TA):TI:=λ σ H R=>ta σ H λ vs H1=>∃ j:Int,vs=[.int j]/\-(2 ^ 62)<=j/\j<2 ^ 62/\R (Itr 0 j.toNat) H1
theorem A3 {a:Expr} {ta:TA} {p pos:Pos} (hg:Gl X "range") (hm:X.mg "range"=none) (ha:PA X [a] ta) (hs:starEach [a] X.env=[(false,eval a X.env)]:=by rfl):PI X tg (.Call (.Name "range" p) [a] [] pos) (b3H ta):=by
 intro pins s σ H R I h;refine Call_ (U5 I hg hm boot_range (fJ (A8 (ha pos pins s σ H _ I h) λ us s1 ⟨vs,H1,I1,r1,q1⟩=>?_) hs rfl));obtain ⟨j,e,q1,q2,q⟩:=q1;subst e
 cases r1 with
 | cons r rr =>
  cases rr;obtain ⟨t,rfl⟩:=r;exact call_range_1 (a8q I1 (by omega) (by omega) q1 q2 (by simpa using q))
def b2C (wi:TI) (g:TG) (tb:TS):TS:=λ D σ H=>wi σ H λ J H1=>∃ W:Nat->Nat->St->Hp->Prop,(∃ m,W 0 m σ H1)/\∀ i m σ H,W i m σ H →
 (J.stop i H/\D.nx σ H)\/(J.go i H/\∃ N:St->Hp->Prop,(∀ σ' H',N σ' H'->∃ m',m'<m/\W (i+1) m' σ' H')/\∀ x H',J.yld i H x H'->g x σ H' λ σ2 H2=>tb { D with nx:=N,ct:=N,bk:=D.nx } σ2 H2)
def a2B (fp:List Addr) (h:Heap):List (Addr×Obj):=fp.filterMap λ b=>(h.get? b).map λ o=>(b,o)
theorem T1 {fp:List Addr} {h:Heap} {b:Addr} {o:Obj} (hb:b∈fp) (e:h.get? b=some o):(b,o)∈a2B fp h:=hV.mpr ⟨b,hb,by rw [e]; rfl⟩
theorem a7w {fp:List Addr} {h:Heap} {p:Addr×Obj} (hp:p∈a2B fp h):p.1∈fp/\h.get? p.1=some p.2:=by
 obtain ⟨b,hb,e⟩:=hV.mp hp
 cases q:h.get? b with
 | none=>rw [q] at e; cases e
 | some o =>
  rw [q] at e;have e':(b,o)=p:=aL e;subst e';exact ⟨hb,q⟩
theorem Inv.pinned {pins:List (Addr×Obj)} {σ:St} {H:Hp} {s:Shared} {fp:List Addr} (I:Inv X pins σ H s) (hf:∀ b∈fp,U7 X pins H b) (ho:∀ b∈fp,∃ o,s.heap.get? b=some o/\∀ v,o.data≠.cell v):Inv X (pins++a2B fp s.heap) σ H s :=
 I.pins_of λ p hp=>(aO.mp hp).elim (λ z=>I.pin p (bN _ z)) λ z=>by
  obtain ⟨hb,e⟩:=a7w z;obtain ⟨f0,f1,f2,_⟩:=hf p.1 hb;obtain ⟨o,e',d⟩:=ho p.1 hb;rw [e] at e'; cases e';exact ⟨e,f0,f1,f2,d⟩
theorem Inv.unpinned {pins pl:List (Addr×Obj)} {σ:St} {H:Hp} {s:Shared} (I:Inv X (pins++pl) σ H s):Inv X pins σ H s:=I.pins_of λ p hp=>I.pin p (bN _ (dN _ hp))
theorem W3 {iter:Expr} {body:List Stmt} {wi:TI} {g:TG} {tb:TS} {pos:Pos} (hp:PassesOwn (model X.prog X.w) X.A X.env X.xe) (hc:X.calm=true) (hi:PI X tg iter wi) (hg:PG X tg g) (hb:PSs X body tb)
  (hs:∀ x,foldedSetIterable iter X.env x=pure x:=by intro _; rfl):PS X (.For tg iter body [] pos) (b2C wi g tb):=by
 intro pins s σ H D I h;refine wpAny_For (A8 (hi pins s σ H _ I h) λ v s1 h1=>A8 h1 λ itv s2 h2=>?_) hs;obtain ⟨it,fp,tn,J,H2,e,I2,T,st2,f2,W,⟨m0,w0⟩,turn⟩:=h2;subst e;have stat:∀ {H':Hp},(∀ b∈fp,H' b=none)->∀ b∈fp,U7 X pins H' b:=λ hn b hb=>⟨hn b hb,(f2 b hb).2⟩;refine codeAny_forLoop_any (λ n s'=>∃ i σ' H',Inv X pins σ' H' s'/\tn i s'.heap/\(∀ b∈fp,H' b=none)/\W i n σ' H') ?_ m0 ⟨0,σ,H2,I2,st2,λ b hb=>(f2 b hb).1,w0⟩;rintro n s3 ⟨i,σ3,H3,I3,st3,fr3,w3⟩;rcases turn i n σ3 H3 w3 with ⟨stop,qn⟩ | ⟨go,N,hN,step⟩
 ·refine wpAny_passesOwn hp (A8 (T.done X rfl rfl rfl hc i pins s3 σ3 H3 X.xe I3 (stat fr3) st3 stop) λ r s4 ⟨hr,I4⟩=>?_)
  subst hr;exact wpAny_execs_nil ⟨σ3,H3,I4,qn⟩
 ·refine wpAny_passesOwn hp (A8 (T.item X rfl rfl rfl hc i pins s3 σ3 H3 X.xe I3 (stat fr3) st3 go) λ r s4 ⟨u,hr,h4⟩=>?_)
  subst hr;refine wpAny_passesOwn hp (A8 h4 λ _ s5 ⟨x,H5,I5,r5,y5,st5,fr5⟩=>?_);have I5':=I5.pinned (stat fr5) (T.obj _ _ st5);refine wpAny_passesOwn hp (A8 (hg _ s5 σ3 H5 x u _ I5' r5 (step x H5 y5)) λ _ s6 ⟨σ6,H6,I6,q6⟩=>?_);refine wpAny_passesOwn hp (A8 (hb _ s6 σ6 H6 _ I6 q6) λ f s7 q7=>?_);have again:∀ {σ7:St} {H7:Hp},Inv X (pins++a2B fp s5.heap) σ7 H7 s7->N σ7 H7->∃ m,m<n/\∃ i σ' H',Inv X pins σ' H' s7/\tn i s7.heap/\(∀ b∈fp,H' b=none)/\W i m σ' H':=λ {σ7 H7} I7 n7=>by
   obtain ⟨m',hm,w7⟩:=hN σ7 H7 n7;refine ⟨m',hm,i+1,σ7,H7,I7.unpinned,T.keep _ _ _ st5 λ b hb o e=>(I7.pin (b,o) (bN _ (bN _ (T1 hb e)))).1,λ b hb=>?_,w7⟩;obtain ⟨o,e,d⟩:=T.obj _ _ st5 b hb;exact (I7.pin (b,o) (bN _ (bN _ (T1 hb e)))).2.1
  cases f with
  | next=>obtain ⟨σ7,H7,I7,n7⟩:=q7; exact again I7 n7
  | cont=>obtain ⟨σ7,H7,I7,n7⟩:=q7; exact again I7 n7
  | brk=>obtain ⟨σ7,H7,I7,q7⟩:=q7; exact ⟨σ7,H7,I7.unpinned,q7⟩
  | ret v=>obtain ⟨x7,σ7,H7,I7,r7,q7⟩:=q7; exact ⟨x7,σ7,H7,I7.unpinned,r7,q7⟩
end
theorem a4h {K:W.Frag} {a:Addr} {xs:List V} {g:TG} {tb:TS} {D:Ends} {σ:St} {H:Hp} (Pv:Nat->St->Hp->Prop) (h0:Pv 0 σ H) (hl:∀ i σ H,i<=xs.length->Pv i σ H->SqL K H a xs)
  (hs:∀ i x σ H,xs[i]?=some x->Pv i σ H->g x σ H λ σ2 H2=>tb { D with nx:=Pv (i+1),ct:=Pv (i+1),bk:=D.nx } σ2 H2) (hd:∀ σ H,Pv xs.length σ H->D.nx σ H) :
  ∃ W:Nat->Nat->St->Hp->Prop,(∃ m,W 0 m σ H)/\∀ i m σ H,W i m σ H →
   ((Itl K a).stop i H/\D.nx σ H)\/((Itl K a).go i H/\∃ N:St->Hp->Prop,(∀ σ' H',N σ' H'->∃ m',m'<m/\W (i+1) m' σ' H')/\∀ x H',(Itl K a).yld i H x H'->g x σ H' λ σ2 H2=>tb { D with nx:=N,ct:=N,bk:=D.nx } σ2 H2):=by
 refine ⟨λ i m σ H=>m=xs.length - i/\i<=xs.length/\Pv i σ H,⟨xs.length,by simp,bR _,h0⟩,?_⟩;rintro i m σ H ⟨rfl,hi,p⟩;have q:=hl i σ H hi p
 by_cases hlt:i<xs.length
 ·refine .inr ⟨⟨xs,xs[i],q,by simp [hlt]⟩,Pv (i+1),λ σ' H' p'=>⟨xs.length - (i+1),by omega,rfl,hlt,p'⟩,λ x H' y=>?_⟩
  obtain ⟨e,y⟩:=y;subst e;exact hs i x σ _ (y xs q) p
 ·have e:i=xs.length:=by omega
  subst e;exact .inl ⟨⟨xs,q,aF _⟩,hd σ H p⟩
theorem Z8 {lo:Int} {n:Nat} {g:TG} {tb:TS} {D:Ends} {σ:St} {H:Hp} (Pv:Nat->St->Hp->Prop) (h0:Pv 0 σ H)
  (hs:∀ i σ H,i<n->Pv i σ H->g (.int (lo+i)) σ H λ σ2 H2=>tb { D with nx:=Pv (i+1),ct:=Pv (i+1),bk:=D.nx } σ2 H2) (hd:∀ σ H,Pv n σ H->D.nx σ H) :
  ∃ W:Nat->Nat->St->Hp->Prop,(∃ m,W 0 m σ H)/\∀ i m σ H,W i m σ H →
   ((Itr lo n).stop i H/\D.nx σ H)\/((Itr lo n).go i H/\∃ N:St->Hp->Prop,(∀ σ' H',N σ' H'->∃ m',m'<m/\W (i+1) m' σ' H')/\∀ x H',(Itr lo n).yld i H x H'->g x σ H' λ σ2 H2=>tb { D with nx:=N,ct:=N,bk:=D.nx } σ2 H2):=by
 refine ⟨λ i m σ H=>m=n - i/\i<=n/\Pv i σ H,⟨n,by simp,bR _,h0⟩,?_⟩;rintro i m σ H ⟨rfl,hi,p⟩
 by_cases hlt:i<n
 ·refine .inr ⟨hlt,Pv (i+1),λ σ' H' p'=>⟨n - (i+1),by omega,rfl,hlt,p'⟩,λ x H' y=>?_⟩
  obtain ⟨e,y⟩:=y;subst e y;exact hs i σ _ hlt p
 ·have e:i=n:=by omega
  subst e;exact .inl ⟨Nat.le_refl _,hd σ H p⟩
theorem a9H {c:TT} {tb:TS} {D:Ends} {σ:St} {H:Hp} (Pv:St->Hp->Prop) (μ:St->Hp->Nat) (h0:Pv σ H)
  (hs:∀ σ H,Pv σ H->c σ H λ b H1=>if b=true then tb { D with nx:=λ σ' H'=>Pv σ' H'/\μ σ' H'<μ σ H,ct:=λ σ' H'=>Pv σ' H'/\μ σ' H'<μ σ H,bk:=D.nx } σ H1 else D.nx σ H1)
  (mono:∀ σ H Q Q',(∀ b H1,Q b H1->Q' b H1)->c σ H Q->c σ H Q'):a8k c tb D σ H:=by
 refine ⟨λ m σ H=>m=μ σ H/\Pv σ H,⟨_,rfl,h0⟩,?_⟩;rintro m σ H ⟨rfl,p⟩;refine mono σ H _ _ (λ b H1 q=>?_) (hs σ H p)
 cases b with
 | true=>exact ⟨_,λ σ' H' ⟨p',l⟩=>⟨_,l,rfl,p'⟩,q⟩
 | false=>exact q
abbrev R2:=V->V->Hp->VK->Prop
def OpR (X:Cx) (f:Value->Value->Sem Value) (r:R2):Prop :=
 ∀ (pins:List (Addr×Obj)) (s:Shared) (σ:St) (H:Hp) (x y:V) (v u:Value) (Q:VK),Inv X pins σ H s->RelV x v->RelV y u->r x y H Q →
  wpAny (model X.prog X.w) X.A (f v u) (EP X pins σ Q) X.xe s
def UnR (X:Cx) (f:Value->Sem Value) (r:V->Hp->VK->Prop):Prop :=
 ∀ (pins:List (Addr×Obj)) (s:Shared) (σ:St) (H:Hp) (x:V) (v:Value) (Q:VK),Inv X pins σ H s->RelV x v->r x H Q →
  wpAny (model X.prog X.w) X.A (f v) (EP X pins σ Q) X.xe s
def G2 (X:Cx) (f:Value) (r:List V->Hp->VK->Prop):Prop :=
 ∀ (pins:List (Addr×Obj)) (s:Shared) (σ:St) (H:Hp) (xs:List V) (us:List Value) (Q:VK),Inv X pins σ H s->Vals xs us->r xs H Q →
  wpAny (model X.prog X.w) X.A (call f us) (EP X pins σ Q) X.xe s
def tOp (r:R2) (ta tb:TE):TE:=λ σ H Q=>ta σ H λ x H1=>tb σ H1 λ y H2=>r x y H2 Q
def tUn (r:V->Hp->VK->Prop) (ta:TE):TE:=λ σ H Q=>ta σ H λ x H1=>r x H1 Q
def rI (C:Int->Int->Prop) (g:Int->Int->V):R2:=λ x y H Q=>∃ i j,x=.int i/\y=.int j/\C i j/\Q (g i j) H
def rI0 (g:Int->Int->V):R2:=λ x y H Q=>∃ i j,x=.int i/\y=.int j/\Q (g i j) H
def rU (g:Int->V):V->Hp->VK->Prop:=λ x H Q=>∃ i,x=.int i/\Q (g i) H
section
variable {X:Cx} {a b c:Expr} {ta tb tc:TE} {pos:Pos}
theorem b2u (ha:PE X a ta) (hb:PE X b tb) {pins:List (Addr×Obj)} {s:Shared} {σ:St} {H:Hp} {R:V->V->Hp->Prop} (I:Inv X pins σ H s)
  (h:ta σ H λ x H1=>tb σ H1 λ y H2=>R x y H2) {Q:Value->Shared->Prop} {f:Value->Value->Sem Value}
  (hf:∀ v u s2 x y H2,Inv X pins σ H2 s2->RelV x v->RelV y u->R x y H2->wpAny (model X.prog X.w) X.A (f v u) Q X.xe s2) :
  wpAny (model X.prog X.w) X.A (eval a X.env) (λ v s₁=>wpAny (model X.prog X.w) X.A (eval b X.env) (λ u s₂=>wpAny (model X.prog X.w) X.A (f v u) Q X.xe s₂) X.xe s₁) X.xe s:=by
 refine A8 (ha pins s σ H _ I h) λ v s1 ⟨x,H1,I1,r1,q1⟩=>?_;refine A8 (hb pins s1 σ H1 _ I1 q1) λ u s2 ⟨y,H2,I2,r2,q2⟩=>?_;exact hf v u s2 x y H2 I2 r1 r2 q2
theorem j4 {op:Operator} {r:R2} (ho:OpR X (binaryOp op) r) (ha:PE X a ta) (hb:PE X b tb):PE X (.BinOp a op b pos) (tOp r ta tb):=by
 intro pins s σ H Q I h;exact wpAny_BinOp (b2u ha hb I h λ v u s2 x y H2 I2 rx ry q=>ho pins s2 σ H2 x y v u Q I2 rx ry q)
theorem O6 {op:UnaryOp} {r:V->Hp->VK->Prop} (ho:UnR X (unaryOp op) r) (ha:PE X a ta):PE X (.UnaryOp op a pos) (tUn r ta):=by
 intro pins s σ H Q I h;exact UnaryOp_ (A8 (ha pins s σ H _ I h) λ v s1 ⟨x,H1,I1,r1,q1⟩=>ho pins s1 σ H1 x v Q I1 r1 q1)
theorem opI {f:Value->Value->Sem Value} {C:Int->Int->Prop} {g:Int->Int->Int}
  (rule:∀ (i j:Int) (t u:Tok) (s:Shared) (Q:Value->Shared->Prop) (E:Value->Shared->Prop),C i j->Q (.int (g i j) s.toks) { s with toks:=s.toks+1 }->wpAny (model X.prog X.w) X.A (f (.int i t) (.int j u)) Q E s) :
  OpR X f (rI C λ i j=>.int (g i j)):=by
 intro pins s σ H x y v u Q I rx ry h;obtain ⟨i,j,rfl,rfl,hc,q⟩:=h;obtain ⟨t,rfl⟩:=rx;obtain ⟨t',rfl⟩:=ry;exact rule i j t t' s _ _ hc ⟨.int (g i j),H,I.tok _,⟨_,rfl⟩,q⟩
theorem b3I {f:Value->Value->Sem Value} {g:Int->Int->Int}
  (rule:∀ (i j:Int) (t u:Tok) (s:Shared) (Q:Value->Shared->Prop) (E:Value->Shared->Prop),Q (.int (g i j) s.toks) { s with toks:=s.toks+1 }->wpAny (model X.prog X.w) X.A (f (.int i t) (.int j u)) Q E s) :
  OpR X f (rI0 λ i j=>.int (g i j)):=by
 intro pins s σ H x y v u Q I rx ry h;obtain ⟨i,j,rfl,rfl,q⟩:=h;obtain ⟨t,rfl⟩:=rx;obtain ⟨t',rfl⟩:=ry;exact rule i j t t' s _ _ ⟨.int (g i j),H,I.tok _,⟨_,rfl⟩,q⟩
theorem a9W {f:Value->Value->Sem Value} {g:Int->Int->Bool}
  (rule:∀ (i j:Int) (t u:Tok) (s:Shared) (Q:Value->Shared->Prop) (E:Value->Shared->Prop),Q (.bool (g i j)) s->wpAny (model X.prog X.w) X.A (f (.int i t) (.int j u)) Q E s) :
  OpR X f (rI0 λ i j=>.bl (g i j)):=by
 intro pins s σ H x y v u Q I rx ry h;obtain ⟨i,j,rfl,rfl,q⟩:=h;obtain ⟨t,rfl⟩:=rx;obtain ⟨t',rfl⟩:=ry;exact rule i j t t' s _ _ ⟨.bl (g i j),H,I,rfl,q⟩
def b4Y (i j:Int):Prop:=0<j/\j<1073741824
def b5j (i j:Int):Prop:=0<=j/\j<=1000000/\i.natAbs<2 ^ 64
def CMul (i j:Int):Prop:=(-(2 ^ 64)<i/\i<2 ^ 64)\/(-(2 ^ 64)<j/\j<2 ^ 64)
theorem CMul.ok {i j:Int} (h:CMul i j):IntMulOk i j:=by
 rcases h with ⟨h1,h2⟩ | ⟨h1,h2⟩
 ·exact .of_left (intBits_le_64 h1 h2)
 ·exact .of_right (intBits_le_64 h1 h2)
theorem C4:OpR X (binaryOp .Add) (rI0 λ i j=>.int (i+j)):=b3I λ _ _ _ _ _ _ _ q=>add_int q
theorem a1N:OpR X (binaryOp .Sub) (rI0 λ i j=>.int (i - j)):=b3I λ _ _ _ _ _ _ _ q=>sub_int q
theorem N5:OpR X (binaryOp .Mult) (rI CMul λ i j=>.int (i*j)):=opI λ _ _ _ _ _ _ _ hc q=>mul_int q hc.ok
theorem V1:OpR X (binaryOp .FloorDiv) (rI b4Y λ i j=>.int (i / j)):=opI λ i j _ _ _ _ _ hc q=>by
 have h1:(0:Int)<j:=hc.1;have h2:j<1073741824:=hc.2;exact floordiv_int (by omega) (by rw [jC i (by omega)]; exact q) (.inl (PyProof.noPylong_small (by omega)))
theorem x9:OpR X (binaryOp .Mod) (rI (λ _ j=>0<j) λ i j=>.int (i % j)):=opI λ i j _ _ _ _ _ hc q=>by
 have h1:(0:Int)<j:=hc;exact mod_int' (by omega) (by rw [Int.fmod_eq_emod_of_nonneg i (by omega)]; exact q)
theorem a5P:OpR X (binaryOp .Pow) (rI b5j λ i j=>.int (i ^ j.toNat)):=opI λ _ _ _ _ _ _ _ hc q=>pow_int_small hc.1 hc.2.1 hc.2.2 q
theorem unI {f:Value->Sem Value} {g:Int->Int}
  (rule:∀ (i:Int) (t:Tok) (s:Shared) (Q:Value->Shared->Prop) (E:Value->Shared->Prop),Q (.int (g i) s.toks) { s with toks:=s.toks+1 }->wpAny (model X.prog X.w) X.A (f (.int i t)) Q E s) :
  UnR X f (rU λ i=>.int (g i)):=by
 intro pins s σ H x v Q I rx h;obtain ⟨i,rfl,q⟩:=h;obtain ⟨t,rfl⟩:=rx;exact rule i t s _ _ ⟨.int (g i),H,I.tok _,⟨_,rfl⟩,q⟩
theorem J1:UnR X (unaryOp .USub) (rU λ i=>.int (-i)):=unI λ _ _ _ _ _ q=>neg_int q
end
def b3M:V->V->Bool
 | .non,.non=>true | .non,.int _=>true | .int _,.non=>true | .non,.bl _=>true | .bl _,.non=>true | .non,.str _=>true | .str _,.non=>true
 | .int _,.int _=>true | .bl _,.bl _=>true | .str _,.str _=>true | .byt _,.byt _=>true
 | .int _,.str _=>true | .str _,.int _=>true | .bl _,.str _=>true | .str _,.bl _=>true
 | _,_=>false
def rEq:R2:=λ x y H Q=>b3M x y=true/\Q (.bl (decide (x=y))) H
def rNe:R2:=λ x y H Q=>b3M x y=true/\Q (.bl (!decide (x=y))) H
theorem a6w {i j:Int}:decide (V.int i=V.int j)=(i==j):=by
 rw [fK];simp
theorem a9t {i j:Bool}:decide (V.bl i=V.bl j)=(i==j):=by
 rw [fK];simp
theorem a6r {i j:Str}:decide (V.str i=V.str j)=(i==j):=by
 rw [fK];simp
theorem a6l {i j:Array UInt8}:decide (V.byt i=V.byt j)=(i.toList==j.toList):=by
 rw [fK]
 cases i
 cases j;simp
section
variable {X:Cx} {a b c:Expr} {ta tb tc:TE} {pos:Pos}
theorem x8 {pins:List (Addr×Obj)} {σ:St} {H:Hp} {s:Shared} {Q:VK} {k k':Bool} (I:Inv X pins σ H s) (q:Q (.bl k) H) (e:k=k'):EP X pins σ Q (.bool k') s:=by
 subst e;exact ⟨.bl k,H,I,rfl,q⟩
theorem N6:OpR X (compareOp .Eq) rEq:=by
 intro pins s σ H x y v u Q I rx ry h;obtain ⟨hs,q⟩:=h
 cases x with
 | non =>
  cases rx
  cases y with
  | non=>cases ry; exact lE (x8 I q (by simp))
  | bl j=>cases ry; exact lF (x8 I q (by simp))
  | int j=>obtain ⟨t',rfl⟩:=ry; exact lG (x8 I q (by simp))
  | str j=>obtain ⟨t',rfl⟩:=ry; exact lH (x8 I q (by simp))
  | _=>exact absurd (show false=true from hs) bW
 | bl i =>
  cases rx
  cases y with
  | non=>cases ry; exact lI (x8 I q (by simp))
  | bl j=>cases ry; exact eq_bool (x8 I q a9t)
  | str j=>obtain ⟨t',rfl⟩:=ry; exact lJ (x8 I q (by simp))
  | _=>exact absurd (show false=true from hs) bW
 | int i =>
  obtain ⟨t,rfl⟩:=rx
  cases y with
  | non=>cases ry; exact lK (x8 I q (by simp))
  | int j=>obtain ⟨t',rfl⟩:=ry; exact eq_int (x8 I q a6w)
  | str j=>obtain ⟨t',rfl⟩:=ry; exact lL (x8 I q (by simp))
  | _=>exact absurd (show false=true from hs) bW
 | str i =>
  obtain ⟨t,rfl⟩:=rx
  cases y with
  | non=>cases ry; exact lM (x8 I q (by simp))
  | bl j=>cases ry; exact lN (x8 I q (by simp))
  | int j=>obtain ⟨t',rfl⟩:=ry; exact lO (x8 I q (by simp))
  | str j=>obtain ⟨t',rfl⟩:=ry; exact eq_str (x8 I q a6r)
  | _=>exact absurd (show false=true from hs) bW
 | byt i =>
  obtain ⟨t,rfl⟩:=rx
  cases y with
  | byt j=>obtain ⟨t',rfl⟩:=ry; exact W.eq_bytes (x8 I q a6l)
  | _=>exact absurd (show false=true from hs) bW
 | _=>cases y <;> exact absurd (show false=true from hs) bW
theorem a9B:OpR X (compareOp .NotEq) rNe:=by
 intro pins s σ H x y v u Q I rx ry h;obtain ⟨hs,q⟩:=h
 cases x with
 | non =>
  cases rx
  cases y with
  | non=>cases ry; exact lP (x8 I q (by simp))
  | bl j=>cases ry; exact lQ (x8 I q (by simp))
  | int j=>obtain ⟨t',rfl⟩:=ry; exact lR (x8 I q (by simp))
  | str j=>obtain ⟨t',rfl⟩:=ry; exact lS (x8 I q (by simp))
  | _=>exact absurd (show false=true from hs) bW
 | bl i =>
  cases rx
  cases y with
  | non=>cases ry; exact lT (x8 I q (by simp))
  | bl j=>cases ry; exact ne_bool (x8 I q (congrArg not a9t))
  | str j=>obtain ⟨t',rfl⟩:=ry; exact lU (x8 I q (by simp))
  | _=>exact absurd (show false=true from hs) bW
 | int i =>
  obtain ⟨t,rfl⟩:=rx
  cases y with
  | non=>cases ry; exact lV (x8 I q (by simp))
  | int j=>obtain ⟨t',rfl⟩:=ry; exact ne_int (x8 I q (congrArg not a6w))
  | str j=>obtain ⟨t',rfl⟩:=ry; exact lW (x8 I q (by simp))
  | _=>exact absurd (show false=true from hs) bW
 | str i =>
  obtain ⟨t,rfl⟩:=rx
  cases y with
  | non=>cases ry; exact lX (x8 I q (by simp))
  | bl j=>cases ry; exact lY (x8 I q (by simp))
  | int j=>obtain ⟨t',rfl⟩:=ry; exact lZ (x8 I q (by simp))
  | str j=>obtain ⟨t',rfl⟩:=ry; exact ne_str (x8 I q (congrArg not a6r))
  | _=>exact absurd (show false=true from hs) bW
 | byt i =>
  obtain ⟨t,rfl⟩:=rx
  cases y with
  | byt j=>obtain ⟨t',rfl⟩:=ry; exact W.ne_bytes (x8 I q (congrArg not a6l))
  | _=>exact absurd (show false=true from hs) bW
 | _=>cases y <;> exact absurd (show false=true from hs) bW
theorem a1p:OpR X (compareOp .Lt) (rI0 λ i j=>.bl (decide (i<j))):=a9W λ _ _ _ _ _ _ _ q=>lt_int q
theorem a4i:OpR X (compareOp .LtE) (rI0 λ i j=>.bl (decide (i<=j))):=a9W λ _ _ _ _ _ _ _ q=>le_int q
theorem a0D:OpR X (compareOp .Gt) (rI0 λ i j=>.bl (decide (j<i))):=a9W λ _ _ _ _ _ _ _ q=>gt_int q
theorem a8n:OpR X (compareOp .GtE) (rI0 λ i j=>.bl (decide (j<=i))):=a9W λ _ _ _ _ _ _ _ q=>ge_int q
theorem a5K:OpR X (compareOp .Is) (λ x y H Q=>y=.non/\Q (.bl (decide (x=.non))) H):=by
 intro pins s σ H x y v u Q I rx ry h;obtain ⟨rfl,q⟩:=h
 cases ry;refine is_none_gen (x8 I q ?_)
 cases x <;> first
  | (cases rx; rfl)
  | (obtain ⟨t,rfl⟩:=rx; rfl)
theorem b0H:OpR X (compareOp .IsNot) (λ x y H Q=>y=.non/\Q (.bl (!decide (x=.non))) H):=by
 intro pins s σ H x y v u Q I rx ry h;obtain ⟨rfl,q⟩:=h
 cases ry;refine isnot_none_gen (x8 I q ?_)
 cases x <;> first
  | (cases rx; rfl)
  | (obtain ⟨t,rfl⟩:=rx; rfl)
theorem p6 (b:Expr) {op:CmpOp} (h:op≠.In:=by decide) (h2:op≠.NotIn:=by decide):behindInMarks op b=false:=by
 have e1:(op==CmpOp.In)=false:=by cases op <;> first | rfl | exact absurd rfl h
 have e2:(op==CmpOp.NotIn)=false:=by cases op <;> first | rfl | exact absurd rfl h2
 cases b <;> simp [behindInMarks,e1,e2]
theorem A9 {op:CmpOp} {r:R2} (ho:OpR X (compareOp op) r) (ha:PE X a ta) (hb:PE X b tb) (hm:behindInMarks op b=false):PE X (.Compare a [op] [b] pos) (tOp r ta tb):=by
 intro pins s σ H Q I h;exact wpAny_Compare1 (b2u ha hb I h λ v u s2 x y H2 I2 rx ry q=>ho pins s2 σ H2 x y v u Q I2 rx ry q) hm
def b1B (t:TE):TT:=λ σ H Q=>t σ H λ x H'=>∃ k,x=.bl k/\Q k H'
theorem t9 {op:CmpOp} {r:R2} (ho:OpR X (compareOp op) r) (ha:PE X a ta) (hb:PE X b tb) (hm:behindInMarks op b=false):PT X (.Compare a [op] [b] pos) (b1B (tOp r ta tb)):=by
 intro pins s σ H Q I h;refine wpAny_isTrue_Compare1 (A8 (ha pins s σ H _ I h) λ v s1 ⟨x,H1,I1,r1,q1⟩=>A8 (hb pins s1 σ H1 _ I1 q1) λ u s2 ⟨y,H2,I2,r2,q2⟩ =>
  A8 (ho pins s2 σ H2 x y v u _ I2 r1 r2 q2) λ c s3 ⟨z,H3,I3,r3,k,e,q3⟩=>?_) hm
 subst e
 cases r3;exact wpAny_truthy_bool ⟨H3,I3,q3⟩
def a9j (r r':R2) (ta tb tc:TE):TE:=λ σ H Q=>ta σ H λ x H1=>tb σ H1 λ y H2=>r x y H2 λ z H3=>∃ k,z=.bl k ∧
 (if k=true then tc σ H3 λ w' H4=>r' y w' H4 Q else Q (.bl false) H3)
theorem a7W {op op':CmpOp} {r r':R2} (ho:OpR X (compareOp op) r) (ho':OpR X (compareOp op') r') (ha:PE X a ta) (hb:PE X b tb) (hc:PE X c tc)
  (hm:lastMarks [op,op'] [b,c]=false:=by with_unfolding_all rfl):PE X (.Compare a [op,op'] [b,c] pos) (a9j r r' ta tb tc):=by
 intro pins s σ H Q I h;refine Compare_chain (A8 (ha pins s σ H _ I h) λ v s1 ⟨x,H1,I1,r1,q1⟩=>chain_link (A8 (hb pins s1 σ H1 _ I1 q1) λ u s2 ⟨y,H2,I2,r2,q2⟩ =>
  A8 (ho pins s2 σ H2 x y v u _ I2 r1 r2 q2) λ d s3 ⟨z,H3,I3,r3,k,e,q3⟩=>?_)) hm
 subst e
 cases r3;refine wpAny_truthy_bool ?_
 cases k with
 | false=>exact ite_ff ⟨.bl false,H3,I3,rfl,q3⟩
 | true=>exact ite_tt (chain_last (A8 (hc pins s3 σ H3 _ I3 q3) λ w' s4 ⟨z',H4,I4,r4,q4⟩=>ho' pins s4 σ H4 y z' u w' Q I4 r2 r4 q4))
theorem a4u {op op':CmpOp} {r r':R2} (ho:OpR X (compareOp op) r) (ho':OpR X (compareOp op') r') (ha:PE X a ta) (hb:PE X b tb) (hc:PE X c tc)
  (hm:lastMarks [op,op'] [b,c]=false:=by with_unfolding_all rfl):PT X (.Compare a [op,op'] [b,c] pos) (b1B (a9j r r' ta tb tc)):=by
 intro pins s σ H Q I h;refine isTrue_chain (A8 (ha pins s σ H _ I h) λ v s1 ⟨x,H1,I1,r1,q1⟩=>test_link (A8 (hb pins s1 σ H1 _ I1 q1) λ u s2 ⟨y,H2,I2,r2,q2⟩ =>
  A8 (ho pins s2 σ H2 x y v u _ I2 r1 r2 q2) λ d s3 ⟨z,H3,I3,r3,k,e,q3⟩=>?_)) hm
 subst e
 cases r3;refine wpAny_truthy_bool ?_
 cases k with
 | false =>
  obtain ⟨k',e',q'⟩:=q3
  cases e';exact ite_ff ⟨H3,I3,q'⟩
 | true =>
  refine ite_tt (test_last (A8 (hc pins s3 σ H3 _ I3 q3) λ w' s4 ⟨z',H4,I4,r4,q4⟩=>A8 (ho' pins s4 σ H4 y z' u w' _ I4 r2 r4 q4) λ d' s5 ⟨z2,H5,I5,r5,k2,e2,q5⟩=>?_));subst e2
  cases r5;exact wpAny_truthy_bool ⟨H5,I5,q5⟩
theorem a3U:(sizeLine:Nat)<2 ^ 63:=by rw [sizeLine_eq]; decide
theorem O4 {x:V} {us:List Value} (r:Vals [x] us):∃ u,us=[u]/\RelV x u:=by
 cases r with
 | cons r1 r2=>cases r2; exact ⟨_,rfl,r1⟩
theorem a2A {x y:V} {us:List Value} (r:Vals [x,y] us):∃ u w',us=[u,w']/\RelV x u/\RelV y w':=by
 cases r with
 | cons r1 r2 =>
  cases r2 with
  | cons r3 r4=>cases r4; exact ⟨_,_,rfl,r1,r3⟩
theorem a8C:G2 X (.builtin "abs") (λ xs H Q=>∃ i,xs=[.int i]/\Q (.int (if i<0 then -i else i)) H):=by
 intro pins s σ H xs us Q I r h;obtain ⟨i,rfl,q⟩:=h;obtain ⟨u,rfl,t,rfl⟩:=O4 r;exact call_abs_int λ u tk=>⟨.int (if i<0 then -i else i),H,I.tok _,⟨_,rfl⟩,q⟩
theorem a2L (hc:X.calm=true):G2 X (.builtin "min") (λ xs H Q=>∃ i j,xs=[.int i,.int j]/\Q (.int (if j<i then j else i)) H):=by
 intro pins s σ H xs us Q I r h;obtain ⟨i,j,rfl,q⟩:=h;obtain ⟨u,w',rfl,⟨t,rfl⟩,⟨t',rfl⟩⟩:=a2A r;refine min_two_ints (I.ok.hd hc) λ h' tk k=>⟨_,H,I.kept k,?_,q⟩
 by_cases hj:j<i
 ·rw [if_pos hj,if_pos hj]; exact ⟨_,rfl⟩
 ·rw [if_neg hj,if_neg hj]; exact ⟨_,rfl⟩
theorem R8:G2 X (.type "int") (λ xs H Q=>(∃ i,xs=[.int i]/\Q (.int i) H)\/∃ k,xs=[.bl k]/\Q (.int (if k then 1 else 0)) H):=by
 intro pins s σ H xs us Q I r h;rcases h with ⟨i,rfl,q⟩ | ⟨k,rfl,q⟩
 ·obtain ⟨u,rfl,t,rfl⟩:=O4 r
  exact call_int_int ⟨.int i,H,I,⟨_,rfl⟩,q⟩
 ·obtain ⟨u,rfl,r1⟩:=O4 r
  cases r1;exact call_int_bool ⟨.int (if k then 1 else 0),H,I.tok _,⟨_,rfl⟩,q⟩
end
structure ObjM (h:Heap) (x dx C:Addr) (mA:Str->Option Value):Prop where
 obj:h.get? x=some (W.instObj C dx)
 ns:h.Ns1 dx mA
 ne:dx≠x
theorem a7d {h:Heap} {dx:Addr} {mA:Str->Option Value} (n:h.Ns1 dx mA):∃ od,h.get? dx=some od/\∀ name,W.lookIn name od=some (mA name):=by
 obtain ⟨o,es,ep,ho,hd,hk,_,hm⟩:=n;refine ⟨o,ho,λ name=>?_⟩;have e:=hm name;unfold nsFind findBy at e;rw [<- Array.find?_toList] at e;unfold W.lookIn;rw [hd];dsimp only
 split
 ·rename_i y q
  rw [q] at e;exact congrArg some e
 ·rename_i q
  rw [q] at e;have a:es.toList.any (·.refKey)=false:=by
   rw [List.any_eq_false];intro y hy;obtain ⟨z,t,hkey⟩:=hk y (Array.mem_toList_iff.mp hy);simp [DictEntry.refKey,hkey]
  have a':¬ es.toList.any (·.refKey)=true:=by rw [a]; exact bW
  rw [if_neg a'];exact congrArg some e
theorem ObjM.look {h:Heap} {x dx C:Addr} {mA:Str->Option Value} (I:ObjM h x dx C mA):∃ od,W.InstAt h x (W.instObj C dx) C (some od)/\∀ name,W.lookIn name od=some (mA name) :=
 let ⟨od,ho,hl⟩:=a7d I.ns
 ⟨od,⟨I.obj,rfl,rfl,ho⟩,hl⟩
section
variable {prog:Program} {w:World} {A:Around} {E:Value->Shared->Prop} {s:Shared} {K:W.Frag} {x dx C f:Addr} {mA:Str->Option Value} {name:Str} {v:Value}
theorem b0G {expr:Bool} {Q:Value->Shared->Prop} (X:K.In s.heap) (I:ObjM s.heap x dx C mA) (hg:W.plainGet K C name=true) (hh:W.hasDictIn K C=true)
  (ha:W.findIn K (.ref C) name=some none) (hv:mA name=some v) (hv':W.handedIn v=true) (h:Q v { s with toks:=s.toks+1 }) :
  wpAny (model prog w) A (getAttr (.ref x) name expr) Q E s:=by
 obtain ⟨od,J,hl⟩:=I.look;exact W.get_value X J (W.plainGet_of hg).1 (W.findObj_own hh ha rfl (by rw [hl,hv])) hv' h
theorem a8Z {pl:Sem Bool} {Q:Value×List Value->Shared->Prop} (X:K.In s.heap) (I:ObjM s.heap x dx C mA) (hg:W.plainGet K C name=true)
  (hf:W.findIn K (.ref C) name=some (some (.ref f))) (ht:W.isFn K (.ref f)=true) (hv:mA name=none) (h:Q (.ref f,[.ref x]) s) :
  wpAny (model prog w) A (getMethod (.ref x) name pl) Q E s:=by
 obtain ⟨od,J,hl⟩:=I.look;exact W.method_fn X J (W.plainGet_of hg).1 (W.plainGet_of hg).2 hf (beq_iff_eq.mp ht) (by show (W.lookIn name od).map (·.isSome)=some false; rw [hl,hv]; rfl) h
theorem b0E {ns:List Str} {Q:Unit->Shared->Prop} (X:K.In s.heap) (I:ObjM s.heap x dx C mA)
  (hs:W.findIn K (.ref C) "__setattr__"=some (some (.builtin "object.__setattr__"))) (hp:W.plainOver K C=true) (ht:W.takerIn K C name=some none) (hh:W.hasDictIn K C=true)
  (hw:gZ mA ns) (hsz:ns.length<=sizeLine)
  (h:∀ h',ObjM h' x dx C (λ y=>if y=name then some v else mA y)->Heap.SameBut dx s.heap h'->Q () { s with heap:=h',toks:=s.toks+2 }) :
  wpAny (model prog w) A (setAttr (.ref x) name v) Q E s:=by
 obtain ⟨od,J,hl⟩:=I.look;refine W.set_plain X J hs (W.osa_open (s:={ s with toks:=s.toks+1 }) (r:=none) X J hp ht λ b=>?_);obtain ⟨cd,hc,hd'⟩:=W.any_some hh;have hx:s.heap.get? x=some ⟨.ref C,some dx,.plain,#[]⟩:=I.obj;refine wpAny_bind (wpAny_pure (wpAny_bind (wpAny_bind (wpAny_loadPart hx (wpAny_bind (W.Looks.here (s:={ s with toks:=s.toks+1 }) (W.looks_clsIn X hc) ?_))))));rw [hd'];refine wpAny_pure (a:=some dx) (wpAny_bind (wpAny_pure (wpAny_bind ?_)));refine wpAny_nsSet1 (s:={ s with toks:=s.toks+1 }) I.ns λ h' hn2 hs2=>?_;obtain ⟨oD,esD,epD,hoD,hdD,hcD⟩:=hn2.count (mD name v hw);refine wpAny_bind (wpAny_lookBehind hoD (by rw [hdD]; exact pastItsLine_dict (aW hcD (by rw [cY]; omega))) ?_);exact wpAny_pure (h _ ⟨(hs2.2 _ (aS I.ne)).trans I.obj,hn2,I.ne⟩ hs2)
theorem a9x {R:Result->Shared->Prop} {vs:List Value} {kw:List (Str×Value)} (X:K.In s.heap) (hm:W.makesIn K C=true)
  (hi:W.findIn K (.ref C) "__init__"=some (some (.ref f))) (hf:W.typeIn K (.ref f)=some (.type "function"))
  (h:codeAny (model prog w) (A.under (.builtin "type.__call__" ⟨.ref C::vs,kw⟩)) (.call (.ref f) ⟨.ref (s.heap.objs.size+1)::vs,kw⟩) (W.InitBack (s.heap.objs.size+1) R)
   { s with heap:=(s.heap.push W.emptyDict).push (W.instObj C s.heap.objs.size) }) :
  codeAny (model prog w) A (.call (.ref C) ⟨vs,kw⟩) R s:=by
 obtain ⟨hh,g,d,t,os⟩:=s;exact W.make_core (W.makes_of X hm) (W.looks_findIn X hi) (λ self=>W.bind_fn X self hf) (.inl rfl) h
end
def S2 (f:Str) (v:V):List (Str×V)->List (Str×V)
 | []=>[(f,v)]
 | (g,x)::r=>if g=f then (g,v)::r else (g,x)::S2 f v r
theorem a1s (f g:Str) (v:V):∀ fs:List (Str×V),(S2 f v fs).lookup g=if g=f then some v else fs.lookup g
 | []=>by
  show eK g [(f,v)]=_
  by_cases h:g=f
  ·have hb:(g==f)=true:=beq_iff_eq.mpr h
   simp only [eK,hb,if_pos h]
  ·have hb:(g==f)=false:=beq_eq_false_iff_ne.mpr h
   simp only [eK,hb,if_neg h]
 | (k,x)::r=>by
  have ih:=a1s f g v r;rw [show S2 f v ((k,x)::r)=(if k=f then (k,v)::r else (k,x)::S2 f v r) from rfl]
  by_cases hk:k=f
  ·rw [if_pos hk]
   by_cases h:g=k
   ·have hb:(g==k)=true:=beq_iff_eq.mpr h
    simp only [eK,hb,if_pos (h.trans hk)]
   ·have hb:(g==k)=false:=beq_eq_false_iff_ne.mpr h
    simp only [eK,hb,if_neg (λ e:g=f=>h (e.trans hk.symm))]
  ·rw [if_neg hk]
   by_cases h:g=k
   ·have hb:(g==k)=true:=beq_iff_eq.mpr h
    simp only [eK,hb,if_neg (λ e:g=f=>hk (h.symm.trans e))]
   ·have hb:(g==k)=false:=beq_eq_false_iff_ne.mpr h
    simp only [eK,hb];exact ih
theorem a0U (f:Str) (v:V):∀ fs:List (Str×V),f∈(S2 f v fs).map (·.1)/\∀ g,g∈fs.map (·.1)->g∈(S2 f v fs).map (·.1)
 | []=>⟨by simp [S2],λ g h=>by simp at h⟩
 | (k,x)::r=>by
  obtain ⟨i1,i2⟩:=a0U f v r;rw [show S2 f v ((k,x)::r)=(if k=f then (k,v)::r else (k,x)::S2 f v r) from rfl]
  by_cases hk:k=f
  ·rw [if_pos hk]
   subst hk;exact ⟨by simp,λ g h=>by simpa using h⟩
  ·rw [if_neg hk]
   refine ⟨?_,λ g h=>?_⟩
   ·rw [aV]
    exact bL _ i1
   ·rw [aV] at h ⊢
    rcases aJ.mp h with e | e
    ·exact aJ.mpr (.inl e)
    ·exact bL _ (i2 g e)
theorem a1n (f:Str) (v:V):∀ fs:List (Str×V),(S2 f v fs).length<=fs.length+1
 | []=>by simp [S2]
 | (k,x)::r=>by
  have ih:=a1n f v r;rw [show S2 f v ((k,x)::r)=(if k=f then (k,v)::r else (k,x)::S2 f v r) from rfl]
  by_cases hk:k=f
  ·rw [if_pos hk,cY,cY]; omega
  ·rw [if_neg hk,cY,cY]; omega
theorem RelO.some_of {v:V} {o:Option Value} (r:RelO (some v) o):∃ u,o=some u/\RelV v u:=by
 cases o with
 | none=>exact (show False from r).elim
 | some u=>exact ⟨u,rfl,r⟩
theorem RelO.none_of {o:Option Value} (r:RelO none o):o=none:=by
 cases o with
 | none=>rfl
 | some u=>exact (show False from r).elim
theorem a7z {v:V} {u:Value} (r:RelV v u):W.handedIn u=true:=by
 cases v with
 | non=>cases (show u=Value.none from r); rfl
 | bl b=>cases (show u=Value.bool b from r); rfl
 | int i=>obtain ⟨t,e⟩:=(show ∃ t,u=Value.int i t from r); cases e; rfl
 | str x=>obtain ⟨t,e⟩:=(show ∃ t,u=Value.str x t from r); cases e; rfl
 | byt b=>obtain ⟨t,e⟩:=(show ∃ t,u=Value.bytes b t from r); cases e; rfl
 | flt b=>obtain ⟨t,e⟩:=(show ∃ t,u=Value.float b t from r); cases e; rfl
 | ref a=>cases (show u=Value.ref a from r); rfl
 | ty n=>cases (show u=Value.type n from r); rfl
section
variable {P:Program} {w:World} {H H':Hp} {h h':Heap} {a C dx:Addr} {fs fs':List (Str×V)}
theorem a1L (hok:HOk P w H h) (e:H a=some (.ins C dx fs)):∃ mA,ObjM h a dx C mA/\(∀ f,RelO (fs.lookup f) (mA f))/\gZ mA (fs.map (·.1))/\fs.length<=1000/\H dx=some (.own a):=by
 obtain ⟨d,z,ne,ob,mA,n,r,q⟩:=(show ObjOk P w H h a (.ins C dx fs) from hok a _ e);exact ⟨mA,⟨ob,n,ne⟩,r,q,z,d⟩
end
structure Cls (K:W.Frag) (C:Addr):Prop where
 pg:W.plainGet K C Str.empty=true
 hd:W.hasDictIn K C=true
 po:W.plainOver K C=true
 sa:W.findIn K (.ref C) "__setattr__"=some (some (.builtin "object.__setattr__"))
theorem Cls.get {K:W.Frag} {C:Addr} (c:Cls K C) (f:Str):W.plainGet K C f=true:=c.pg
def NoAttr (K:W.Frag) (C:Addr) (f:Str):Prop:=W.findIn K (.ref C) f=some none
theorem NoAttr.taker {K:W.Frag} {C:Addr} {f:Str} (n:NoAttr K C f):W.takerIn K C f=some none:=by
 unfold W.takerIn;rw [show W.findIn K (.ref C) f=some none from n];rfl
structure Con (K:W.Frag) (C:Addr) (f:Str) (v:V) (u:Value):Prop where
 at_:W.findIn K (.ref C) f=some (some u)
 rel:RelV v u
 get:W.specialIn K u "__get__"=some none
 cp:W.copiedNames.contains f=false
structure a7j (K:W.Frag) (C:Addr) (m:Str) (f:Addr):Prop where
 at_:W.findIn K (.ref C) m=some (some (.ref f))
 fn:W.isFn K (.ref f)=true
 kp:W.keepIn K (.ref f)=true
section
variable {X:Cx} {pins:List (Addr×Obj)} {σ:St} {H:Hp} {s:Shared} {a C dx:Addr} {fs:List (Str×V)} {f:Str} {v:V} {A:Around} {E:Value->Shared->Prop}
theorem a5T {b:Bool} {Q:Value->Shared->Prop} (I:Inv X pins σ H s) (e:H a=some (.ins C dx fs)) (c:Cls X.K C) (n:NoAttr X.K C f) (l:fs.lookup f=some v)
  (h:∀ u s',Inv X pins σ H s'->RelV v u->Q u s'):wpAny (model X.prog X.w) A (getAttr (.ref a) f b) Q E s:=by
 obtain ⟨mA,O,r,_,_,_⟩:=a1L I.hok e;obtain ⟨u,hu,ru⟩:=RelO.some_of (v:=v) (o:=mA f) (by rw [<- l]; exact r f);exact b0G I.kIn O (c.get f) c.hd n hu (a7z ru) (h u _ (I.tok _) ru)
theorem a0l {m:Str} {g:Addr} {pl:Sem Bool} {Q:Value×List Value->Shared->Prop} (I:Inv X pins σ H s) (e:H a=some (.ins C dx fs)) (c:Cls X.K C) (k:a7j X.K C m g) (l:fs.lookup m=none)
  (h:Q (.ref g,[.ref a]) s):wpAny (model X.prog X.w) A (getMethod (.ref a) m pl) Q E s:=by
 obtain ⟨mA,O,r,_,_,_⟩:=a1L I.hok e;have hn:mA m=none:=RelO.none_of (by rw [<- l]; exact r m);exact a8Z I.kIn O (c.get m) k.at_ k.fn hn h
theorem a5s {y:V} {u:Value} {Q:Unit->Shared->Prop} (I:Inv X pins σ H s) (e:H a=some (.ins C dx fs)) (c:Cls X.K C) (n:NoAttr X.K C f) (hl:fs.length<1000) (ry:RelV y u)
  (h:∀ s',Inv X pins σ (r6 H a (.ins C dx (S2 f y fs))) s'->Q () s'):wpAny (model X.prog X.w) A (setAttr (.ref a) f u) Q E s:=by
 obtain ⟨mA,O,r,wi,_,ho⟩:=a1L I.hok e;have hz:(fs.map (·.1)).length<=sizeLine:=by rw [aA,sizeLine_eq]; omega
 refine b0E I.kIn O c.sa c.po n.taker c.hd wi hz λ h' O' sb=>h _ ?_;have hd:∃ o,h'.get? dx=some o:=let ⟨o,_,_,e',_⟩:=O'.ns; ⟨o,e'⟩
 refine I.write (x:=a) (e:=dx) (by rw [e]; exact eU) (.inr ho) (λ b q hb z=>(sb.2 b hb).trans z) hd ?_;refine ⟨by rw [c9 O.ne]; exact ho,?_,O.ne,O'.obj,_,O'.ns,λ g=>?_,λ g hg=>?_⟩
 ·have:=a1n f y fs; omega
 ·show RelO ((S2 f y fs).lookup g) (if g=f then some u else mA g)
  rw [a1s]
  by_cases q:g=f
  ·rw [if_pos q,if_pos q]; exact ry
  ·rw [if_neg q,if_neg q]; exact r g
 ·by_cases q:g=f
  ·rw [q]; exact (a0U f y fs).1
  ·refine (a0U f y fs).2 g (wi g λ z=>hg ?_)
   show (if g=f then some u else mA g)=none
   rw [if_neg q]; exact z
theorem Inv.made (I:Inv X pins σ H s):Inv X pins σ (r6 (r6 H s.heap.objs.size (.own (s.heap.objs.size+1))) (s.heap.objs.size+1) (.ins C s.heap.objs.size []))
  { s with heap:=(s.heap.push W.emptyDict).push (W.instObj C s.heap.objs.size) }:=by
 have e1:(s.heap.push W.emptyDict).get? s.heap.objs.size=some W.emptyDict:=Heap.get?_push_size s.heap rfl;have e2:((s.heap.push W.emptyDict).push (W.instObj C s.heap.objs.size)).get? (s.heap.objs.size+1)=some (W.instObj C s.heap.objs.size):=by
  have:=Heap.get?_push_size (s.heap.push W.emptyDict) (o:=W.instObj C s.heap.objs.size) rfl
  rwa [Heap.size_push] at this
 have e3:(s.heap.push W.emptyDict).Ns s.heap.objs.size (λ _=>none):=⟨W.emptyDict,#[],_,e1,rfl,(λ e he=>absurd he (by simp)),λ _=>rfl⟩;have I1:=I.laid (a:=s.heap.objs.size) (o:=.own (s.heap.objs.size+1)) (h':=s.heap.push W.emptyDict) (t':=s.toks) (λ b u q=>Heap.get?_push_of_some _ q) (aF _) ⟨_,e1⟩;refine I1.laid (a:=s.heap.objs.size+1) (o:=.ins C s.heap.objs.size []) (t':=s.toks) (λ b u q=>Heap.get?_push_of_some _ q) (hW (Heap.size_push _ _)) ?_;have ne:s.heap.objs.size≠s.heap.objs.size+1:=bI (eV _);refine ⟨by rw [c9 ne,upd_same],bR _,ne,e2,λ _=>none,(Heap.Ns1.of_empty e3).at λ o q=>Heap.get?_push_of_some _ q,λ _=>eU,λ y hy=>absurd rfl hy⟩
theorem b0D {prog:Program} {w:World} {env:Env} {e:Expr} {f:Str} {pos:Pos} {s:Shared} {Q:Value->Shared->Prop} (hb:attributeBase e f env (eval e env)=eval e env)
  (h:wpAny (model prog w) A (eval e env) (λ o s₁=>wpAny (model prog w) A (getAttr o f true) Q E s₁) E s):wpAny (model prog w) A (eval (.Attribute e f pos) env) Q E s :=
 Attribute_any_ h (by rw [arm_eval_Attribute,hb])
end
def b4g (K:W.Frag) (ta:TE) (f:Str):TE:=λ σ H Q=>ta σ H λ x H1=>∃ a C dx fs v,x=.ref a/\H1 a=some (.ins C dx fs)/\Cls K C/\NoAttr K C f/\fs.lookup f=some v/\Q v H1
def b5h (K:W.Frag) (ta tv:TE) (f:Str):TS:=λ D σ H=>tv σ H λ y H1=>ta σ H1 λ x H2=>∃ a C dx fs,x=.ref a/\H2 a=some (.ins C dx fs)/\Cls K C/\NoAttr K C f/\fs.length<1000 ∧
 D.nx σ (r6 H2 a (.ins C dx (S2 f y fs)))
section
variable {X:Cx} {o e value:Expr} {f:Str} {pos pos' tpos:Pos} {ta tv:TE}
theorem t7 (he:PE X e ta) (hb:attributeBase e f X.env (eval e X.env)=eval e X.env):PE X (.Attribute e f pos) (b4g X.K ta f):=by
 intro pins s σ H Q I h;refine b0D hb (A8 (he pins s σ H _ I h) λ u s1 ⟨x,H1,I1,rx,a,C,dx,fs,v,ex,ea,c,n,l,q⟩=>?_);subst ex;obtain rfl:u=Value.ref a:=rx;exact a5T I1 ea c n l λ u' s2 I2 ru=>⟨v,H1,I2,ru,q⟩
theorem G7 (ha:PE X o ta) (hv:PE X value tv) (hs:swapsWith value (some (.Attribute o f pos')) pos.line X.env=pure false):PS X (.Assign [.Attribute o f pos'] value pos) (b5h X.K ta tv f):=by
 intro pins s σ H D I h;refine plainObj_wpAny_Assign_Attribute (A8 (hv pins s σ H _ I h) λ u s1 ⟨y,H1,I1,ry,q⟩=>A8 (ha pins s1 σ H1 _ I1 q) λ ov s2 ⟨x,H2,I2,rx,a,C,dx,fs,ex,ea,c,n,l,q2⟩=>?_) hs;subst ex;obtain rfl:ov=Value.ref a:=rx;exact a5s I2 ea c n l ry λ s3 I3=>⟨σ,_,I3,q2⟩
end
section
variable {X:Cx} {pins:List (Addr×Obj)} {σ:St} {H:Hp} {s:Shared} {A:Around} {E:Value->Shared->Prop} {Q:Value->Shared->Prop} {c:Value} {b:Bool}
inductive a1h (K:W.Frag) (H:Hp):V->Value->Prop where
 | non:a1h K H .non (.type "NoneType")
 | bl (x:Bool):a1h K H (.bl x) (.type "bool")
 | int (i:Int):a1h K H (.int i) (.type "int")
 | str (x:Str):a1h K H (.str x) (.type "str")
 | flt (x:UInt64):a1h K H (.flt x) (.type "float")
 | lst {a:Addr} {xs:List V} (e:H a=some (.lst xs)):a1h K H (.ref a) (.type "list")
 | frz {a:Addr} {o:Obj} {xs:List V} (e:H a=some (.frz o (.lst xs))):a1h K H (.ref a) (.type "list")
 | tup {a:Addr} {xs:List V} (e:H a=some (.tup xs)):a1h K H (.ref a) (.type "tuple")
 | dK {a:Addr} {kvs:List (Key×V)} (e:H a=some (.dK kvs)):a1h K H (.ref a) (.type "dict")
 | dT {a:Addr} {kvs:List (List Key×V)} (e:H a=some (.dT kvs)):a1h K H (.ref a) (.type "dict")
 | ins {a C dx:Addr} {fs:List (Str×V)} (e:H a=some (.ins C dx fs)) (cl:Cls K C) (ha:W.findIn K (.ref C) "__class__"=some (some (.builtin "object.__class__")))
   (hn:W.specialIn K (.builtin "object.__class__") "__get__"=some (some (.builtin "getset_descriptor.__get__"))) (htk:W.takesIn K (.builtin "object.__class__")=some true)
   (hm:W.mroIn K C (.type "object")=some true):a1h K H (.ref a) (.ref C)
theorem a7o {x:V} {u t:Value} (I:Inv X pins σ H s) (rx:RelV x u) (ty:a1h X.K H x t) (e:W.kitOne X.K t c=some b) (h:∀ tk,Q (.bool b) { s with toks:=tk }) :
  wpAny (model X.prog X.w) A (call (.builtin "isinstance") [u,c]) Q E s:=by
 cases ty with
 | non=>cases (show u=Value.none from rx); exact W.kia_one W.kitx_none I.kIn eU e (λ z=>nomatch z) h
 | bl y=>cases (show u=Value.bool y from rx); exact W.kia_one W.kitx_bool I.kIn eU e (λ z=>nomatch z) h
 | int i=>obtain ⟨t,q⟩:=(show ∃ t,u=Value.int i t from rx); cases q; exact W.kia_one W.kitx_int I.kIn eU e (λ z=>nomatch z) h
 | str y=>obtain ⟨t,q⟩:=(show ∃ t,u=Value.str y t from rx); cases q; exact W.kia_one W.kitx_str I.kIn eU e (λ z=>nomatch z) h
 | flt y=>obtain ⟨t,q⟩:=(show ∃ t,u=Value.float y t from rx); cases q; exact W.kia_one W.kitx_float I.kIn eU e (λ z=>nomatch z) h
 | @lst a xs ea =>
  cases (show u=Value.ref a from rx);obtain ⟨_,_,n,_,h1⟩:=(show ObjOk X.prog X.w H s.heap a (.lst xs) from I.hok a _ ea);exact W.kia_one W.kitx_list I.kIn ⟨_,h1,rfl⟩ e (λ z=>nomatch z) h
 | @frz a ob xs ea =>
  cases (show u=Value.ref a from rx);obtain ⟨_,_,_,n,_,h1⟩:=(show ObjOk X.prog X.w H s.heap a (.frz ob (.lst xs)) from I.hok a _ ea);exact W.kia_one W.kitx_list I.kIn ⟨_,h1,rfl⟩ e (λ z=>nomatch z) h
 | @tup a xs ea =>
  cases (show u=Value.ref a from rx);obtain ⟨_,_,_,p⟩:=(show ObjOk X.prog X.w H s.heap a (.tup xs) from I.hok a _ ea);obtain ⟨o,h1,h2,_⟩:=p;exact W.kia_one W.kitx_tuple I.kIn ⟨o,h1,h2⟩ e (λ z=>nomatch z) h
 | @dK a kvs ea =>
  cases (show u=Value.ref a from rx);obtain ⟨_,_,vs,_,p⟩:=(show ObjOk X.prog X.w H s.heap a (.dK kvs) from I.hok a _ ea);obtain ⟨o,es,ep,h1,h2,_⟩:=p;exact W.kia_one W.kitx_dict I.kIn ⟨o,h1,h2.1⟩ e (λ z=>nomatch z) h
 | @dT a kvs ea =>
  cases (show u=Value.ref a from rx);obtain ⟨_,_,xs,_,o,es,ep,h1,h2,_⟩:=(show ObjOk X.prog X.w H s.heap a (.dT kvs) from I.hok a _ ea);exact W.kia_one W.kitx_dict I.kIn ⟨o,h1,h2.1⟩ e (λ z=>nomatch z) h
 | @ins a C dx fs ea cl ha hn htk hm =>
  cases (show u=Value.ref a from rx);obtain ⟨mA,O,_⟩:=a1L I.hok ea;obtain ⟨od,J,_⟩:=O.look;exact W.kia_one (W.kitx_own (cl.get _) cl.hd ha hn htk hm) I.kIn J e (λ z=>nomatch z) h
end
structure Room (k:Nat) (A:Around):Prop where
 hd:A.handled=none
 dp:A.depth+3*k+5<recursionLimit
 un:A.units+16*k+200<cLine
theorem Room.mono {j k:Nat} {A:Around} (r:Room k A) (h:j<=k):Room j A:=⟨r.hd,by have:=r.dp; omega,by have:=r.un; omega⟩
theorem Room.deeper {k:Nat} {A:Around} (r:Room (k+1) A) (env:Env):Room k (A.deeper env) :=
 ⟨r.hd,by have:=r.dp; show A.depth+1+3*k+5<_; omega,by have:=r.un; show A.units+3+16*k+200<_; omega⟩
theorem Room.in1 {k:Nat} {A:Around} (r:Room (k+1) A):Room k A.in1 :=
 ⟨r.hd,by have:=r.dp; show A.depth+3*k+5<_; omega,by have:=r.un; show A.units+1+16*k+200<_; omega⟩
theorem a5m {A:Around} {C:Addr} {us:List Value} {kw:List (Str×Value)}:(A.under (.builtin "type.__call__" ⟨.ref C::us,kw⟩)).depth=A.depth+1:=by
 first | rfl | simp [Around.under,Code.weight,Code.isCreation,Code.isGuard,Code.isCaller,Code.frames,Code.isFrame,guardIds]
theorem a5N {A:Around} {C:Addr} {us:List Value} {kw:List (Str×Value)}:(A.under (.builtin "type.__call__" ⟨.ref C::us,kw⟩)).units=A.units+1:=by
 first | rfl | simp [Around.under,Code.cUnits,Code.frames,Code.isFrame]
theorem Room.make {k:Nat} {A:Around} (r:Room (k+1) A) (C:Addr) (us:List Value) (kw:List (Str×Value)):Room k (A.under (.builtin "type.__call__" ⟨.ref C::us,kw⟩)) :=
 ⟨r.hd,by have:=r.dp; rw [a5m]; omega,by have:=r.un; rw [a5N]; omega⟩
theorem Room.depth {k:Nat} {A:Around} (r:Room k A):A.depth<recursionLimit:=by have:=r.dp; omega
theorem Room.units {k:Nat} {A:Around} (r:Room k A):A.units+64<cLine:=by have:=r.un; omega
def a3y:TA:=λ _ H Q=>Q [] H
def a0i (ta:TE) (tr:TA):TA:=λ σ H Q=>ta σ H λ x H1=>tr σ H1 λ xs H2=>Q (x::xs) H2
section
variable {X:Cx} {e:Expr} {es:List Expr} {te:TE} {t:TA} {pos:Pos}
theorem e9:PA X [] a3y:=λ _ _ _ _ H Q I h=>Calls.spliced_nil ⟨[],H,I,.nil,h⟩
theorem a0 (ha:PE X e te) (hr:PA X es t) (hs:starEach (e::es) X.env=(false,eval e X.env)::starEach es X.env:=by rfl):PA X (e::es) (a0i te t):=by
 intro pos pins s σ H Q I h;rw [hs]
 show wpAny _ _ (spliced ((false,eval e X.env)::backTo pos (starEach es X.env))) _ _ s
 refine Calls.spliced_cons (A8 (ha pins s σ H _ I h) λ u s1 ⟨x,H1,I1,r1,q1⟩=>?_);exact A8 (hr pos pins s1 σ H1 _ I1 q1) λ us s2 ⟨xs,H2,I2,r2,q2⟩=>⟨x::xs,H2,I2,.cons r1 r2,q2⟩
def a7H (t:TA):TE:=λ σ H Q=>t σ H λ xs H1=>xs.length<=sizeLine/\∀ p,H1 p=none->Q (.ref p) (r6 H1 p (.tup xs))
def b5e (t:TA):TE:=λ σ H Q=>t σ H λ xs H1=>xs.length<=sizeLine/\∀ p,H1 p=none->Q (.ref p) (r6 H1 p (.lst xs))
theorem D4 {x1} (h:PA X es t):PE X (.Tuple es x1 pos) (a7H t):=by
 intro pins s σ H Q I hq;refine wpAny_Tuple_spliced (A8 (h pos pins s σ H _ I hq) λ us s1 ⟨xs,H1,I1,r,z,q⟩=>⟨by rw [<- r.length]; exact z,?_⟩);have hf:H1 s1.heap.objs.size=none:=I1.hok.fresh (aF _);refine ⟨.ref s1.heap.objs.size,r6 H1 s1.heap.objs.size (.tup xs),I1.laid (t':=s1.toks) (λ b u e=>Heap.get?_push_of_some _ e) (aF _) ?_,rfl,q _ hf⟩;exact ⟨z,us,r,⟨_,Heap.get?_push_size _ rfl,rfl,_,rfl⟩⟩
theorem u9 (h:PA X es t):PE X (.List es pos) (b5e t):=by
 intro pins s σ H Q I hq;refine wpAny_List_spliced (A8 (h pos pins s σ H _ I hq) λ us s1 ⟨xs,H1,I1,r,z,q⟩=>⟨by rw [<- r.length]; exact z,?_⟩);have hf:H1 s1.heap.objs.size=none:=I1.hok.fresh (aF _);refine ⟨.ref s1.heap.objs.size,r6 H1 s1.heap.objs.size (.lst xs),I1.laid (t':=s1.toks) (λ b u e=>Heap.get?_push_of_some _ e) (aF _) ?_,rfl,q _ hf⟩;exact ⟨z,us,0,r,Heap.get?_push_size _ rfl⟩
end
abbrev Sp:=List V->Hp->VK->XK->Prop
abbrev CXT:=List Env->Hp->Shared->XK->Value->Shared->Prop
structure Env0 (P:Program) (w:World) (K:W.Frag) (mg:Str->Option Value) (base:Heap) (A:Around) (outer:List Env) (s:Shared) (H:Hp):Prop where
 frames:A.frames=some outer
 mod:Mod K mg base
 bs:∀ b o,base.get? b=some o->s.heap.get? b=some o/\H b=none
 bsz:base.objs.size<=s.heap.objs.size
 funs:s.heap.FunFrames base outer
 frf:∀ b∈frs outer,H b=none
 hok:HOk P w H s.heap
 bare:AllBare s.gens
def CE (outer:List Env) (P:Program) (w:World) (H:Hp) (s:Shared) (Q:VK) (u:Value) (s':Shared):Prop :=
 ∃ v H',s'.os=s.os/\AllBare s'.gens/\Un (frs outer) [] H H' s.heap s'.heap/\HOk P w H' s'.heap/\RelV v u/\Q v H'
def CR (CX:CXT) (outer:List Env) (P:Program) (w:World) (H:Hp) (s:Shared) (Q:VK) (E:XK) (r:Result) (s':Shared):Prop :=
 match r with
 | .ok (.ret u)=>CE outer P w H s Q u s'
 | .ok _=>False
 | .error e=>CX outer H s E e s'
structure FnOk (P:Program) (w:World) (K:W.Frag) (mg:Str->Option Value) (base:Heap) (CX:CXT) (k:Nat) (f:Addr) (fd:FuncData) (ps:List Str) (sp:Sp):Prop where
 len:∀ vs H Q E,sp vs H Q E->vs.length=ps.length
 run:∀ (A:Around) (outer:List Env) (s:Shared) (H:Hp) (args:Args) (us:List Value) (vs:List V) (Q:VK) (E:XK),Room k A->Env0 P w K mg base A outer s H->BindsTo s fd args (ps.zip us)->Vals vs us->sp vs H Q E →
  codeAny (model P w) A (.call (.ref f) args) (CR CX outer P w H s Q E) s
theorem FnOk.imp {P:Program} {w:World} {K:W.Frag} {mg:Str->Option Value} {base:Heap} {CX:CXT} {k:Nat} {f:Addr} {fd:FuncData} {ps:List Str} {sp sp':Sp} (F:FnOk P w K mg base CX k f fd ps sp)
  (h:∀ vs H Q E,sp' vs H Q E->sp vs H Q E):FnOk P w K mg base CX k f fd ps sp' :=
 ⟨λ vs H Q E q=>F.len vs H Q E (h _ _ _ _ q),λ A outer s H args us vs Q E hr he hb hv hs=>F.run A outer s H args us vs Q E hr he hb hv (h _ _ _ _ hs)⟩
theorem Env0.make {P:Program} {w:World} {K:W.Frag} {mg:Str->Option Value} {base:Heap} {A:Around} {outer:List Env} {s:Shared} {H:Hp} (e:Env0 P w K mg base A outer s H) (C:Addr) (us:List Value) (kw:List (Str×Value)) :
  Env0 P w K mg base (A.under (.builtin "type.__call__" ⟨.ref C::us,kw⟩)) outer s H:=⟨by first | exact e.frames | (simpa [Around.under,Code.envs,Code.isFrame,pushEnvs] using e.frames),e.mod,e.bs,e.bsz,e.funs,e.frf,e.hok,e.bare⟩
section
variable {X:Cx} {pins:List (Addr×Obj)} {σ:St} {H:Hp} {s s':Shared}
theorem Inv.env0 (I:Inv X pins σ H s):Env0 X.prog X.w X.K X.mg X.base X.A X.stack s H :=
 ⟨I.ok.frames,I.ok.mod,I.bs,aW I.ok.bsz I.sz,I.stack,I.stkFree,I.hok,I.bare⟩
theorem Inv.after {Q:VK} {u:Value} (I:Inv X pins σ H s) (h:CE X.stack X.prog X.w H s Q u s'):EP X pins σ Q u s':=by
 obtain ⟨v,H',os,bare,un,hok,r,q⟩:=h;obtain ⟨hh,g,d,t,os'⟩:=s';obtain rfl:os'=s.os:=os;exact ⟨v,H',I.call (h':=hh) (g':=g) (d':=d) (t':=t) (ch:=[]) un hok bare (λ b z=>absurd z (by simp)),r,q⟩
end
def b1F (sp:Sp) (dvs:List V) (E:XK) (t:TA):TE:=λ σ H Q=>t σ H λ vs H1=>sp (vs++dvs) H1 Q E
def b1t (C:Addr) (m:Str) (sp:Sp) (dvs:List V) (E:XK) (ta:TE) (t:TA):TE:=λ σ H Q=>ta σ H λ x H1=>∃ a dx fs,x=.ref a/\H1 a=some (.ins C dx fs)/\fs.lookup m=none ∧
 t σ H1 λ vs H2=>sp (x::(vs++dvs)) H2 Q E
def b3r (C:Addr) (sp:Sp) (dvs:List V) (E:XK) (t:TA):TE:=λ σ H Q=>t σ H λ vs H1=>∀ x dx,H1 x=none->H1 dx=none->dx≠x →
 sp (.ref x::(vs++dvs)) (r6 (r6 H1 dx (.own x)) x (.ins C dx [])) (λ v H2=>v=.non/\Q (.ref x) H2) E
def Binds (K:W.Frag) (fd:FuncData) (ps:List Str) (ds:List Value):Prop :=
 ∀ (s:Shared) (us:List Value),K.In s.heap->(us++ds).length=ps.length->BindsTo s fd ⟨us,[]⟩ (ps.zip (us++ds))
theorem Binds.all {K:W.Frag} {fd:FuncData} {ps:List Str} (h:∀ us:List Value,us.length=ps.length->bindArgs fd ⟨us,[]⟩=pure (ps.zip us)):Binds K fd ps []:=λ s us _ hl=>by
 rw [eW] at hl ⊢;exact .of_eq (h us hl)
def T3 (CX:CXT) (X:Cx) (E:XK):Prop:=∀ (pins:List (Addr×Obj)) (σ:St) (H:Hp) (s:Shared) (e:Value) (s':Shared),Inv X pins σ H s->CX X.stack H s E e s'->X.xe e s'
section
variable {X:Cx} {CX:CXT} {k:Nat} {f C:Addr} {fd:FuncData} {ps:List Str} {sp:Sp} {dvs:List V} {ds:List Value} {E:XK} {x m:Str} {p pos apos:Pos} {e o:Expr} {es:List Expr} {ta:TE} {t:TA}
theorem a5h {pins:List (Addr×Obj)} {σ:St} {H:Hp} {s:Shared} {Q:VK} {us:List Value} {vs:List V} (F:FnOk X.prog X.w X.K X.mg X.base CX k f fd ps sp) (hr:Room k X.A) (hb:Binds X.K fd ps ds) (hd:Vals dvs ds) (hx:T3 CX X E)
  (I:Inv X pins σ H s) (r:Vals vs us) (h:sp (vs++dvs) H Q E):wpAny (model X.prog X.w) X.A (call (.ref f) us) (EP X pins σ Q) X.xe s:=by
 have r2:Vals (vs++dvs) (us++ds):=r.append hd;have hl:(us++ds).length=ps.length:=by rw [<- r2.length]; exact F.len _ _ _ _ h
 refine wpAny_call (codeAny_mono (F.run X.A X.stack s H ⟨us,[]⟩ (us++ds) (vs++dvs) Q E hr I.env0 (hb s us I.kIn hl) r2 h) λ r s' hq=>?_)
 cases r with
 | error e=>exact hx pins σ H s e s' I hq
 | ok fl =>
  cases fl with
  | ret u=>exact I.after hq
  | next=>exact bM hq
  | brk=>exact bM hq
  | cont=>exact bM hq
theorem o6 (F:FnOk X.prog X.w X.K X.mg X.base CX k f fd ps sp) (hr:Room k X.A) (hg:Gl X x) (hm:X.mg x=some (.ref f)) (hk:W.keepIn X.K (.ref f)=true) (hb:Binds X.K fd ps ds) (hd:Vals dvs ds) (hx:T3 CX X E)
  (ha:PA X (e::es) t) (hdb:(x==("__debug__":Str))=false:=by decide) (he:starEach (e::es) X.env=(false,eval e X.env)::starEach es X.env:=by rfl) (hpl:(backTo pos (starEach es X.env)).any (·.1)=false:=by rfl) :
  PE X (.Call (.Name x p) (e::es) [] pos) (b1F sp dvs E t):=by
 intro pins s σ H Q I h;refine wpAny_Call_Name_kw (Z0 I hg hm ?_ hdb);refine W.callWith_K (h₀:=X.base) I.ok.mod.kin hk (A8 (ha pos pins s σ H _ I h) λ us s1 ⟨vs,H1,I1,r,q⟩=>⟨I1.kIn,?_⟩) he hpl;exact a5h F hr hb hd hx I1 r q
theorem Y5 {pl:Sem Bool} (he:PE X o ta) (c:Cls X.K C) (hm:a7j X.K C m f) (F:FnOk X.prog X.w X.K X.mg X.base CX k f fd ps sp) (hr:Room k X.A) (hb:Binds X.K fd ps ds) (hd:Vals dvs ds) (hx:T3 CX X E) (ha:PA X (e::es) t)
  (hst:starEach (e::es) X.env=(false,eval e X.env)::starEach es X.env:=by rfl) (hpl:(backTo pos (starEach es X.env)).any (·.1)=false:=by rfl)
  (ht:eval (.Call (.Attribute o m apos) (e::es) [] pos) X.env=(do
   let ov <- eval o X.env
   standAt apos.atName
   let (f,first) <- holding [ov] (getMethod ov m pl)
   callWith pos f first (backTo pos (starEach (e::es) X.env)) (backToKw pos (keywordEach [] X.env))):=by rfl) :
  PE X (.Call (.Attribute o m apos) (e::es) [] pos) (b1t C m sp dvs E ta t):=by
 intro pins s σ H Q I h;refine W.methodCall_KW (pl:=pl) (A8 (he pins s σ H _ I h) λ u s1 ⟨x,H1,I1,rx,a,dx,fs,ex,ea,l,q⟩=>?_) ht;subst ex;obtain rfl:u=Value.ref a:=rx;refine a0l I1 ea c hm l ?_;refine W.callWith_K (first:=[.ref a]) (h₀:=X.base) I.ok.mod.kin hm.kp (A8 (ha pos pins s1 σ H1 _ I1 q) λ us s2 ⟨vs,H2,I2,r,q2⟩=>⟨I2.kIn,?_⟩) hst hpl;exact a5h (us:=.ref a::us) (vs:=.ref a::vs) F hr hb hd hx I2 (.cons rfl r) q2
theorem K6 {pl:Sem Bool} (he:PE X o ta) (c:Cls X.K C) (hm:a7j X.K C m f) (F:FnOk X.prog X.w X.K X.mg X.base CX k f fd ps sp) (hr:Room k X.A) (hb:Binds X.K fd ps ds) (hd:Vals dvs ds) (hx:T3 CX X E)
  (ht:eval (.Call (.Attribute o m apos) [] [] pos) X.env=(do
   let ov <- eval o X.env
   standAt apos.atName
   let (f,first) <- holding [ov] (getMethod ov m pl)
   callWith pos f first (backTo pos (starEach [] X.env)) (backToKw pos (keywordEach [] X.env))):=by rfl) :
  PE X (.Call (.Attribute o m apos) [] [] pos) (b1t C m sp dvs E ta a3y):=by
 intro pins s σ H Q I h;refine W.methodCall_KW (pl:=pl) (A8 (he pins s σ H _ I h) λ u s1 ⟨x,H1,I1,rx,a,dx,fs,ex,ea,l,q⟩=>?_) ht;subst ex;obtain rfl:u=Value.ref a:=rx;refine a0l I1 ea c hm l ?_;exact W.callWith_K0 (first:=[.ref a]) I1.kIn hm.kp (a5h (us:=[.ref a]) (vs:=[.ref a]) F hr hb hd hx I1 (.cons rfl .nil) q)
structure Mk (K:W.Frag) (C f:Addr):Prop where
 makes:W.makesIn K C=true
 init:W.findIn K (.ref C) "__init__"=some (some (.ref f))
 fn:W.isFn K (.ref f)=true
 kp:W.keepIn K (.ref C)=true
theorem a9d {pins:List (Addr×Obj)} {σ:St} {H:Hp} {s:Shared} {Q:VK} {us:List Value} {vs:List V} (M:Mk X.K C f) (F:FnOk X.prog X.w X.K X.mg X.base CX k f fd ps sp) (hr:Room (k+1) X.A) (hb:Binds X.K fd ps ds) (hd:Vals dvs ds)
  (hx:T3 CX X E) (I:Inv X pins σ H s) (r:Vals vs us)
  (h:∀ x dx,H x=none->H dx=none->dx≠x->sp (.ref x::(vs++dvs)) (r6 (r6 H dx (.own x)) x (.ins C dx [])) (λ v H2=>v=.non/\Q (.ref x) H2) E) :
  wpAny (model X.prog X.w) X.A (call (.ref C) us) (EP X pins σ Q) X.xe s:=by
 have hq:=h (s.heap.objs.size+1) s.heap.objs.size (I.hok.fresh (gG _)) (I.hok.fresh (aF _)) (bI (eV _));have I2:=Inv.made (C:=C) I;have r2:Vals (V.ref (s.heap.objs.size+1)::(vs++dvs)) (Value.ref (s.heap.objs.size+1)::(us++ds)):=.cons rfl (r.append hd);have hl:(Value.ref (s.heap.objs.size+1)::us++ds).length=ps.length:=by
  have e:=r2.length;rw [F.len _ _ _ _ hq] at e;exact e.symm
 refine wpAny_call (a9x (f:=f) I.kIn M.makes M.init (beq_iff_eq.mp M.fn) (codeAny_mono (F.run _ X.stack _ _ ⟨Value.ref (s.heap.objs.size+1)::us,[]⟩ (Value.ref (s.heap.objs.size+1)::(us++ds)) _ _ E (hr.make C us [])
  (I2.env0.make C us []) (hb _ (Value.ref (s.heap.objs.size+1)::us) I2.kIn hl) r2 hq) λ r s' hq'=>?_))
 cases r with
 | error e=>exact hx pins σ _ _ e s' I2 hq'
 | ok fl =>
  cases fl with
  | ret u =>
   obtain ⟨v,H',I3,rv,ev,q3⟩:=I2.after hq';subst ev;exact ⟨rv,⟨V.ref (s.heap.objs.size+1),H',I3,rfl,q3⟩⟩
  | next=>exact bM hq'
  | brk=>exact bM hq'
  | cont=>exact bM hq'
theorem a6a (M:Mk X.K C f) (F:FnOk X.prog X.w X.K X.mg X.base CX k f fd ps sp) (hr:Room (k+1) X.A) (hg:Gl X x) (hm:X.mg x=some (.ref C)) (hb:Binds X.K fd ps ds) (hd:Vals dvs ds) (hx:T3 CX X E)
  (ha:PA X (e::es) t) (hdb:(x==("__debug__":Str))=false:=by decide) (he:starEach (e::es) X.env=(false,eval e X.env)::starEach es X.env:=by rfl) (hpl:(backTo pos (starEach es X.env)).any (·.1)=false:=by rfl) :
  PE X (.Call (.Name x p) (e::es) [] pos) (b3r C sp dvs E t):=by
 intro pins s σ H Q I h;refine wpAny_Call_Name_kw (Z0 I hg hm ?_ hdb);refine W.callWith_K (h₀:=X.base) I.ok.mod.kin M.kp (A8 (ha pos pins s σ H _ I h) λ us s1 ⟨vs,H1,I1,r,q⟩=>⟨I1.kIn,?_⟩) he hpl;exact a9d M F hr hb hd hx I1 r q
end
section
variable {X:Cx} {CX:CXT} {k:Nat} {f C:Addr} {fd:FuncData} {ps ks:List Str} {sp:Sp} {E:XK} {x m:Str} {p pos apos kpos:Pos} {e o:Expr} {es:List Expr} {kws:List Keyword} {te ta:TE} {t tk:TA} {nm:Option Str}
structure b4I (K:W.Frag) (fd:FuncData) (ps ks:List Str) (g:List Value->List Value->List Value) (gV:List V->List V->List V):Prop where
 to:∀ (s:Shared) (us ws:List Value),K.In s.heap->(g us ws).length=ps.length->BindsTo s fd ⟨us,ks.zip ws⟩ (ps.zip (g us ws))
 rel:∀ {vs:List V} {us:List Value} {zs:List V} {ws:List Value},Vals vs us->Vals zs ws->Vals (gV vs zs) (g us ws)
variable {g:List Value->List Value->List Value} {gV:List V->List V->List V}
end
structure m9 (N P:List Str) (sc:Scope):Prop where
 kind:sc.kind=.function
 co:sc.isCoroutine=false
 gen:sc.isGenerator=false
 nd:N.Nodup
 pre:N.take P.length=P
 par:∀ x∈P,sc.names.lookup x=some .local\/sc.names.lookup x=some .cell
 nofree:∀ y∈sc.names,y.2≠.free
theorem a3b {kindOf:Str->Option NameKind} {x:Str}:∀ {binds:List (Str×Value)} {m:Str->Option Value},(∀ v,(x,v) ∉ binds)->bindL kindOf binds m x=m x
 | [],_,_=>rfl
 | (n,v)::r,m,h=>by
  unfold bindL;rw [a3b λ w hw=>h w (bL _ hw)]
  split
  ·have:x≠n:=by rintro rfl; exact h v cG
   simp [this]
  ·rfl
theorem a2Q {kindOf:Str->Option NameKind} {x:Str}:∀ {binds:List (Str×Value)} {m:Str->Option Value},(∀ v,(x,v) ∉ binds)->bindC kindOf binds m x=m x
 | [],_,_=>rfl
 | (n,v)::r,m,h=>by
  unfold bindC;rw [a2Q λ w hw=>h w (bL _ hw)]
  split
  ·rfl
  ·have:x≠n:=by rintro rfl; exact h v cG
   simp [this]
theorem a2S {kindOf:Str->Option NameKind} {x:Str} {v:Value}:∀ {P:List Str} {vs:List Value} {i:Nat} {m:Str->Option Value},P.Nodup->P[i]?=some x->vs[i]?=some v->kindOf x=some .local →
  bindL kindOf (P.zip vs) m x=some v
 | [],_,_,_,_,h,_,_=>by simp at h
 | _::_,[],_,_,_,_,h,_=>by simp at h
 | p::P,w::vs,0,m,nd,h1,h2,hk=>by
  simp at h1 h2; subst h1; subst h2
  show bindL kindOf ((p,w)::P.zip vs) m p=_
  unfold bindL;rw [a3b λ v hv=>(gH.mp nd).1 (gJ hv).1,if_pos hk];simp
 | p::P,w::vs,i+1,m,nd,h1,h2,hk=>by
  show bindL kindOf ((p,w)::P.zip vs) m x=_
  unfold bindL;exact a2S (i:=i) (gH.mp nd).2 (by simpa using h1) (by simpa using h2) hk
theorem a2I {kindOf:Str->Option NameKind} {x:Str} {v:Value}:∀ {P:List Str} {vs:List Value} {i:Nat} {m:Str->Option Value},P.Nodup->P[i]?=some x->vs[i]?=some v->kindOf x≠some .local →
  bindC kindOf (P.zip vs) m x=some v
 | [],_,_,_,_,h,_,_=>by simp at h
 | _::_,[],_,_,_,_,h,_=>by simp at h
 | p::P,w::vs,0,m,nd,h1,h2,hk=>by
  simp at h1 h2; subst h1; subst h2
  show bindC kindOf ((p,w)::P.zip vs) m p=_
  unfold bindC;rw [a2Q λ v hv=>(gH.mp nd).1 (gJ hv).1,if_neg hk];simp
 | p::P,w::vs,i+1,m,nd,h1,h2,hk=>by
  show bindC kindOf ((p,w)::P.zip vs) m x=_
  unfold bindC;exact a2I (i:=i) (gH.mp nd).2 (by simpa using h1) (by simpa using h2) hk
def N8 (N:List Str) (vs:List V):St:=vs.map some++aG (N.length - vs.length) none
def K1 (CX:CXT) (P:Program) (w:World) (K:W.Frag) (mg:Str->Option Value) (base:Heap) (N:List Str) (qual:Str) (scope:Scope) (f:Addr) (cd:Value) (A:Around) (outer:List Env) (s:Shared) (H:Hp) (E:XK):Cx where
 prog:=P
 w:=w
 K:=K
 mg:=mg
 base:=base
 A:=A.deeper (envOfC qual scope s.heap.objs.size f cd)
 N:=N
 s₀:=s
 H₀:=H
 env:=envOfC qual scope s.heap.objs.size f cd
 outer:=outer
 stack:=envOfC qual scope s.heap.objs.size f cd::outer
 ex:=[]
 calm:=true
 fn:=λ _=>true
 pn:=[]
 xe:=λ e s'=>wpAny (model P w) (A.deeper (envOfC qual scope s.heap.objs.size f cd)) (leaving (envOfC qual scope s.heap.objs.size f cd) e) (λ _ s''=>CX outer H s E e s'') (λ e' s''=>CX outer H s E e' s'') s'
theorem a4Q {sc:Scope} {n:Nat} {x:Str} (h:sc.names.lookup x=some .cell):∃ c,(cellsFrom n sc.names []).lookup x=some c:=by
 have q:=W.cellsFrom_some sc.names n [] (.inl h);exact Option.isSome_iff_exists.mp q
theorem a2K {CX:CXT} {P:Program} {w:World} {K:W.Frag} {mg:Str->Option Value} {base:Heap} {N ps:List Str} {qual:Str} {scope:Scope} {f:Addr} {cd:Value} {A:Around} {outer:List Env} {s s1:Shared} {H:Hp} {E:XK} {us:List Value} {vs:List V}
  (S:m9 N ps scope) (hd:A.handled=none) (e0:Env0 P w K mg base A outer s H) (hl:vs.length=ps.length) (r:Vals vs us)
  (x:InCallC s s.heap.objs.size (bindL (envOfC qual scope s.heap.objs.size f cd).kindOf (ps.zip us) λ _=>none) (cellsFrom (s.heap.objs.size+1) scope.names []) (bindC (envOfC qual scope s.heap.objs.size f cd).kindOf (ps.zip us) λ _=>none) s1) :
  Inv (K1 CX P w K mg base N qual scope f cd A outer s H E) [] (N8 N vs) H s1:=by
 have hpl:ps.length<=N.length:=by have:=congrArg hZ S.pre; rw [cI] at this; omega
 obtain ⟨h1,tk,rfl,hk⟩:=x.done;have noA:∀ b:Addr,b ∉ (K1 CX P w K mg base N qual scope f cd A outer s H E).ex:=λ b z=>absurd (show b∈([]:List Addr) from z) (by simp);refine ⟨⟨e0.mod,S.kind,rfl,rfl,aF _,λ y z c h1 h2=>?_,λ y hy=>?_,λ y c _ h=>?_,λ _=>hd,Around.frames_deeper e0.frames,.inr ⟨rfl,rfl⟩,λ b z=>absurd z (noA b),e0.bs,e0.bsz,λ b _ _=>noA b,λ b z=>absurd z (noA b),e0.funs,e0.frf⟩,
  rfl,e0.bare,Un.kept hk,⟨_,x.toInCall.ns,λ i y v h1 h2 h3=>?_⟩,λ y c h=>⟨_,x.cell y c h⟩,e0.hok.fresh (aF _),λ y c h=>?_,λ p hp=>absurd (show p∈([]:List (Addr×Obj)) from hp) (by simp),e0.hok.kept hk,?_⟩
 ·exact name_of_addr x.apart (fX h1) (fX h2)
 ·have hy:scope.names.lookup y=some .cell\/scope.names.lookup y=some .free:=hy
  rcases hy with hy | hy
  ·exact a4Q hy
  ·exact absurd rfl (S.nofree _ (fX hy))
 ·exact cO (x.above y c (fX h))
 ·have hi:i<vs.length:=by
   unfold N8 at h2
   by_cases hi:i<vs.length
   ·exact hi
   ·rw [bZ (by simpa using hi)] at h2
    rw [dL] at h2
    split at h2 <;> cases h2
  have ha:vs[i]?=some v:=by
   unfold N8 at h2;rw [bO (by simpa using hi),aD] at h2
   cases e:vs[i]? with
   | none=>rw [e] at h2; cases h2
   | some a=>rw [e] at h2; cases h2; rfl
  obtain ⟨u,hu,rv⟩:=r.get ha;have hp:ps[i]?=some y:=by
   rw [<- S.pre,jD (by omega)]; exact h1
  have ndP:ps.Nodup:=by rw [<- S.pre]; exact S.nd.sublist (List.take_sublist _ _)
  refine ⟨u,rv,?_⟩;rcases S.par y (bS hp) with k | k
  ·exact .inl ⟨k,a2S ndP hp hu k⟩
  ·obtain ⟨c,e⟩:=a4Q (n:=s.heap.objs.size+1) k
   refine .inr ⟨.inl k,c,e,?_⟩;have q:=x.cell y c e;rw [a2I ndP hp hu (by show scope.names.lookup y≠_; rw [k]; decide)] at q;exact q
 ·exact e0.hok.fresh (cO (x.above y c (fX h)))
 ·unfold N8
  show _=N.length
  rw [aM,aA,bP];omega
theorem a8M {CX:CXT} {P:Program} {w:World} {K:W.Frag} {mg:Str->Option Value} {base:Heap} {k:Nat} {f:Addr} {name qual:Str} {params:Arguments} {body:List Stmt} {scope:Scope} {dV kV doc pm cdv ct oc:Value} {an od:Option Addr}
  {osl:Array (Option Value)} {N ps:List Str} {sp:Sp} (lk:K.lookup f=some ⟨oc,od,.func (W.fnOf name qual params body scope dV kV doc pm an cdv ct),osl⟩) (hcd:W.codeIn K cdv qual=true) (S:m9 N ps scope)
  (len:∀ vs H Q E,sp vs H Q E->vs.length=ps.length)
  (hbody:∀ (A:Around) (outer:List Env) (s:Shared) (H:Hp) (vs:List V) (Q:VK) (E:XK),Room k (A.deeper (envOfC qual scope s.heap.objs.size f cdv))->sp vs H Q E →
   ∃ t,PSs (K1 CX P w K mg base N qual scope f cdv A outer s H E) body t/\t { nx:=λ _ H'=>Q .non H',rt:=Q } (N8 N vs) H) :
  FnOk P w K mg base CX (k+1) f (W.fnOf name qual params body scope dV kV doc pm an cdv ct) ps sp:=by
 refine ⟨len,λ A outer s H args us vs Q E hr e0 hb r hsp=>?_⟩;have hl:=len _ _ _ _ hsp;have KX:K.In s.heap:=e0.mod.kin.keeps λ b o e=>(e0.bs b o e).1;have lim:s.heap.NoLimit:=e0.mod.nolimit.keeps λ b o e=>(e0.bs b o e).1;have hkind:∀ y∈ps.zip us,scope.names.lookup y.1=some .local\/(scope.names.lookup y.1=some .cell/\((cellsFrom (s.heap.objs.size+1) scope.names []).lookup y.1).isSome=true):=λ ⟨n,v⟩ hy=>by
  rcases S.par n (gJ hy).1 with q | q
  ·exact .inl q
  ·exact .inr ⟨q,W.cellsFrom_some _ _ _ (.inl q)⟩
 refine codeAny_call_function hr.depth (KX _ _ lk) rfl S.co S.gen rfl (W.codeRec_of KX hcd) (hb _ _ _ _ ?_);refine wpAny_newFunctionEnv_cells S.kind hkind λ env he s1 x=>?_;subst he;refine ⟨lim.keeps x.toInCall.keep,codeAny_func ?_⟩;obtain ⟨t,ht,hq⟩:=hbody A outer s H vs Q E (hr.deeper _) hsp;have I:Inv (K1 CX P w K mg base N qual scope f cdv A outer s H E) [] (N8 N vs) H s1:=a2K S hr.hd e0 hl r x;refine wpAny_mono (ht [] s1 (N8 N vs) H _ I hq) (λ fl s' hs=>?_) λ e s' hs=>hs;have fin:∀ {σ':St} {H':Hp} {v:V} {u:Value},Inv (K1 CX P w K mg base N qual scope f cdv A outer s H E) [] σ' H' s'->RelV v u->Q v H'->CE outer P w H s Q u s' :=
  λ {σ' H' v u} J rv q=>⟨v,H',J.os,J.bare,J.base,J.hok,rv,q⟩
 cases fl with
 | ret u =>
  obtain ⟨v,σ',H',J,rv,q⟩:=hs;exact fin J rv q
 | next =>
  obtain ⟨σ',H',J,q⟩:=hs;exact fin (v:=V.non) (u:=Value.none) J rfl q
 | brk =>
  obtain ⟨_,_,_,q⟩:=hs;exact bM q
 | cont =>
  obtain ⟨_,_,_,q⟩:=hs;exact bM q
section
variable {X:Cx} {x:Str} {p pos:Pos} {e:Expr} {es:List Expr} {t:TA} {id T:String} {r:List V->Hp->VK->Prop}
def tCB (r:List V->Hp->VK->Prop) (t:TA):TE:=λ σ H Q=>t σ H λ vs H1=>r vs H1 Q
theorem j6 (hc:G2 X (.builtin id) r) (hg:Gl X x) (hm:X.mg x=none) (hv:bootBuiltins x=some (.builtin id)) (ha:PA X (e::es) t) (hn:x≠"__name__":=by decide) (hdb:(x==("__debug__":Str))=false:=by decide)
  (he:starEach (e::es) X.env=(false,eval e X.env)::starEach es X.env:=by rfl) (hpl:(backTo pos (starEach es X.env)).any (·.1)=false:=by rfl):PE X (.Call (.Name x p) (e::es) [] pos) (tCB r t):=by
 intro pins s σ H Q I h;refine wpAny_Call_Name_kw (U5 I hg hm hv ?_ hn hdb);exact mG (A8 (ha pos pins s σ H _ I h) λ us s1 ⟨vs,H1,I1,r1,q1⟩=>hc pins s1 σ H1 vs us Q I1 r1 q1) he hpl
theorem v9 (hc:G2 X (.type T) r) (hg:Gl X x) (hm:X.mg x=none) (hv:bootBuiltins x=some (.type T)) (ha:PA X (e::es) t) (hn:x≠"__name__":=by decide) (hdb:(x==("__debug__":Str))=false:=by decide)
  (he:starEach (e::es) X.env=(false,eval e X.env)::starEach es X.env:=by rfl) (hpl:(backTo pos (starEach es X.env)).any (·.1)=false:=by rfl):PE X (.Call (.Name x p) (e::es) [] pos) (tCB r t):=by
 intro pins s σ H Q I h;refine wpAny_Call_Name_kw (U5 I hg hm hv ?_ hn hdb);exact fJ (A8 (ha pos pins s σ H _ I h) λ us s1 ⟨vs,H1,I1,r1,q1⟩=>hc pins s1 σ H1 vs us Q I1 r1 q1) he hpl
end
end L2
namespace HT
open PySem PyProof.Rows
section
open PySem.SeqAt
open PySem.AutoSeq1 (wpAny_loadPart')
open PySem.MeetsSeq PySem.MeetsSeq2 PySem.MeetsSeq3
end
section
variable {prog:Program} {w:World} {A:Around} {E:Value->Shared->Prop} {s:Shared}
theorem cat_tup {t b:Addr} {vs ws:List Value} {Q:Value->Shared->Prop} (ht:IsTup s.heap t vs.toArray) (hb:IsTup s.heap b ws.toArray) (hv:vs≠[])
  (h1:ws=[]->Q (.ref t) s) (h2:ws≠[]->Q (.ref s.heap.objs.size) { s with heap:=s.heap.push { cls:=.type "tuple",data:=.seq (vs++ws).toArray } })
  (hsz:vs.length+ws.length<=sizeLine):wpAny (model prog w) A (binaryOp .Add (.ref t) (.ref b)) Q E s:=by
 obtain ⟨⟨cls,dd,data,sl⟩,ho,hc,n,hd⟩:=id ht;obtain ⟨⟨cls2,dd2,data2,sl2⟩,ho2,hc2,n2,hd2⟩:=id hb;simp only at hc hd hc2 hd2;subst hc hd hc2 hd2;have e:vs.toArray++ws.toArray=(vs++ws).toArray:=by simp
 by_cases hw:ws=[]
 ·exact concat_meets ⟨_,ho,rfl⟩ ⟨_,ho2,rfl⟩ noFill_tuple_add seq_tuple_add jE jF (jG _ _)
   (tuple_addW1 t b vs.toArray ws.toArray n n2 dd dd2 sl sl2 (by simpa using hv) (by simp [hw])) ⟨ho,ho2,h1 hw⟩
 ·refine concat_meets ⟨_,ho,rfl⟩ ⟨_,ho2,rfl⟩ noFill_tuple_add seq_tuple_add jE jF (jG _ _)
   (tuple_addW2 t b vs.toArray ws.toArray n n2 dd dd2 sl sl2 (by simpa using hv) (by simpa using hw) (by rw [aT,aT]; exact hsz)) ⟨ho,ho2,?_⟩
  rw [e];exact h2 hw
def sIx (n d:Nat):Option Int->Nat
 | none=>d
 | some v=>if v<0 then (v+(n:Int)).toNat else min v.toNat n
theorem sIx_none (n d:Nat):sIx n d none=d:=rfl
theorem sIx_nat (n d k:Nat):sIx n d (some (k:Int))=min k n:=by
 show (if (k:Int)<0 then ((k:Int)+(n:Int)).toNat else min (k:Int).toNat n)=min k n
 rw [if_neg (by omega),aY]
theorem b1Z (n d:Nat) (hd:d<=n) (o:Option Int):sIx n d o<=n:=by
 cases o with
 | none=>exact hd
 | some v =>
  show (if v<0 then (v+(n:Int)).toNat else min v.toNat n)<=n
  by_cases hv:v<0
  ·rw [if_pos hv]; omega
  ·rw [if_neg hv]; exact Nat.min_le_right _ _
theorem a6e (v:Int) (n d:Nat):(if v<0 then max (v+(n:Int)) 0 else min v (n:Int))=((sIx n d (some v):Nat):Int):=by
 show (if v<0 then max (v+(n:Int)) 0 else min v (n:Int))=(((if v<0 then (v+(n:Int)).toNat else min v.toNat n):Nat):Int)
 by_cases hv:v<0
 ·simp only [if_pos hv]; omega
 ·simp only [if_neg hv]; omega
theorem a5W (lo hi:Option Int) (n:Nat):Builtin.Slice.sliceAdjust lo hi 1 (n:Int)=(((sIx n 0 lo:Nat):Int),((sIx n n hi:Nat):Int)):=by
 have h1:¬ ((1:Int)<0):=by omega
 unfold Builtin.Slice.sliceAdjust;simp only [h1,if_false];refine jH ?_ ?_
 ·cases lo with
  | none=>rfl
  | some v=>exact a6e v n 0
 ·cases hi with
  | none=>rfl
  | some v=>exact a6e v n n
theorem a5Q (i j:Nat):Builtin.Slice.slicePlaces (i:Int) (j:Int) 1=j - i:=by
 unfold Builtin.Slice.slicePlaces;have h1:(1:Int)>0:=by omega
 simp only [h1,if_true,Int.ediv_one]
 split <;> omega
theorem a2a {v:Value} {o:Option Int} {Q:Option Int->Shared->Prop} (p:IsPart v o) (h:Q o s):wpAny (model prog w) A (Builtin.Slice.slicePartIndex v) Q E s:=by
 cases p with
 | none=>exact slicePart_none h
 | int i t=>exact slicePart_int h
theorem S4 {sl:Addr} {vl vu:Value} {lo hi:Option Int} {n:Nat} {Q:Int×Int×Nat->Shared->Prop} (hs:s.heap.IsSliceOf sl vl vu .none) (pl:IsPart vl lo) (pu:IsPart vu hi)
  (h:Q (((sIx n 0 lo:Nat):Int),1,sIx n n hi - sIx n 0 lo) s):wpAny (model prog w) A (Builtin.Slice.sliceApplied (.ref sl) (pure (n:Int))) Q E s:=by
 obtain ⟨os,hos,hcs,hds⟩:=id hs;unfold Builtin.Slice.sliceApplied Builtin.Slice.sliceFields;refine wpAny_bind (wpAny_bind (wpAny_field hos hds (x:=vl) rfl (wpAny_bind (wpAny_field hos hds (x:=vu) rfl (wpAny_bind (wpAny_field hos hds (x:=.none) rfl (wpAny_pure ?_)))))));refine wpAny_bind (slicePart_none ?_)
 show wpAny _ _ (if ((1:Int)==0)=true then _ else _) _ _ s
 rw [if_neg (by decide)];refine wpAny_bind (a2a pl (wpAny_bind (a2a pu (wpAny_bind (wpAny_pure ?_)))))
 show wpAny _ _ (match Builtin.Slice.sliceAdjust lo hi 1 (n:Int) with | (lo,hi)=>pure (lo,(1:Int),Builtin.Slice.slicePlaces lo hi 1)) _ _ s
 rw [a5W lo hi n]
 show wpAny _ _ (pure (((sIx n 0 lo:Nat):Int),(1:Int),Builtin.Slice.slicePlaces ((sIx n 0 lo:Nat):Int) ((sIx n n hi:Nat):Int) 1)) _ _ s
 rw [a5Q];exact wpAny_pure h
theorem a7V (xs:Array Value) (i k:Nat):((aE k).filterMap λ (m:Nat)=>xs[((i:Int)+(m:Int)*1).toNat]?).toArray=((xs.toList.drop i).take k).toArray:=by
 have e:(λ (m:Nat)=>xs[((i:Int)+(m:Int)*1).toNat]?)=λ m=>xs[i+m]?:=by
  funext m
  have:((i:Int)+(m:Int)*1).toNat=i+m:=by omega
  rw [this]
 rw [e];have:=pick_run xs i k;rw [List.filterMap_map] at this;have e2:((λ x=>xs[x]?) ∘ λ x=>i+x)=λ m=>xs[i+m]?:=rfl;rw [e2] at this;rw [this]
theorem getItem_tuple_cut {t sl:Addr} {items:Array Value} {vl vu:Value} {lo hi:Option Int} {Q:Value->Shared->Prop} (ht:IsTup s.heap t items) (hs:s.heap.IsSliceOf sl vl vu .none) (pl:IsPart vl lo) (pu:IsPart vu hi)
  (hw:¬ (sIx items.size 0 lo=0/\sIx items.size items.size hi=items.size))
  (h:Q (.ref s.heap.objs.size) { s with heap:=s.heap.push { cls:=.type "tuple",data:=.seq ((items.toList.drop (sIx items.size 0 lo)).take (sIx items.size items.size hi - sIx items.size 0 lo)).toArray } })
  (hsz:items.size<=sizeLine):wpAny (model prog w) A (getItem (.ref t) (.ref sl)) Q E s:=by
 have htake:sizeOk (.seq ((items.toList.drop (sIx items.size 0 lo)).take (sIx items.size items.size hi - sIx items.size 0 lo)).toArray):=by
  show ((items.toList.drop (sIx items.size 0 lo)).take (sIx items.size items.size hi - sIx items.size 0 lo)).toArray.size<=sizeLine
  rw [aT,cI,dE,gF];omega
 have hj:sIx items.size items.size hi<=items.size:=b1Z _ _ (aF _) hi;obtain ⟨os,hos,hcs,hds⟩:=id hs;have hTs:s.TypeIs (.ref sl) "slice":=⟨os,hos,hcs⟩;unfold getItem
 try with_reducible refine wpAny_holding ?_
 first | refine wpAny_bind (wpAny_pure ?_) | skip
 refine wpAny_bind (wpAny_sequenceKey ht.typeIs (by decide) ?_);refine wpAny_bind (wpAny_callSpecial?_slot (name:=Str.ofString "__getitem__") ht.typeIs fL
  (wpAny_call_entry fL ht.typeIs entry_tuple_getitem ?_ (args_tuple_getitem _ _)))
 show wpAny _ _ (Builtin.Tuple.tupleItemsOf (.ref t) >>= _) _ _ s
 refine wpAny_bind (tupleItemsOf_ ht ?_);refine wpAny_bind (wpAny_typeOf hTs ?_);rw [if_pos (by decide)];refine wpAny_bind (S4 hs pl pu ?_);have hno:¬ ((((sIx items.size 0 lo:Nat):Int)==0&&(1:Int)==1&&(sIx items.size items.size hi - sIx items.size 0 lo)==items.size)=true):=by
  intro q;rw [dO,dO] at q;have q1:((sIx items.size 0 lo:Nat):Int)=0:=eq_of_beq q.1.1;have q2:sIx items.size items.size hi - sIx items.size 0 lo=items.size:=eq_of_beq q.2;exact hw ⟨by omega,by omega⟩
 show wpAny _ _ (if (((sIx items.size 0 lo:Nat):Int)==0&&(1:Int)==1&&(sIx items.size items.size hi - sIx items.size 0 lo)==items.size)=true then _ else _) _ _ s
 rw [if_neg hno,a7V]
 first
  | exact wpAny_bind (m:=Builtin.Tuple.tupleExact _) (wpAny_newObj_type (wpAny_pure ⟨_,rfl,wpAny_pure h⟩) htake)
  | exact wpAny_bind (m:=Builtin.Tuple.tupleExact _) (wpAny_newObj_type (wpAny_bind (wpAny_pure (wpAny_pure ⟨_,rfl,wpAny_pure h⟩))) htake)
  | exact wpAny_bind (wpAny_bind (m:=Builtin.Tuple.tupleExact _) (wpAny_newObj_type (wpAny_pure (wpAny_pure ⟨_,rfl,wpAny_pure h⟩)) htake))
  | exact wpAny_bind (wpAny_bind (m:=Builtin.Tuple.tupleExact _) (wpAny_newObj_type (wpAny_pure ⟨_,rfl,wpAny_pure h⟩) htake))
end
end HT
namespace L2
open PySem PySem.Spec PyProof.Rows
abbrev TO:=St->Hp->(Option Int->Hp->Prop)->Prop
def PO (X:Cx) (e:Option Expr) (t:TO):Prop :=
 ∀ (pins:List (Addr×Obj)) (s:Shared) (σ:St) (H:Hp) (Q:Option Int->Hp->Prop),Inv X pins σ H s->t σ H Q →
  wpAny (model X.prog X.w) X.A (evalPart e X.env) (λ u s'=>∃ o H',Inv X pins σ H' s'/\IsPart u o/\Q o H') X.xe s
def b0M:TO:=λ _ H Q=>Q none H
def b3W (t:TE):TO:=λ σ H Q=>t σ H λ x H1=>∃ i,x=.int i/\Q (some i) H1
section
variable {X:Cx} {e:Expr} {te:TE} {lo hi:Option Expr} {tl th:TO} {pos p2:Pos}
theorem P8:PO X none b0M:=by
 intro pins s σ H Q I h;rw [evalPart_none];exact wpAny_pure ⟨none,H,I,.none,h⟩
theorem G4 (h:PE X e te):PO X (some e) (b3W te):=by
 intro pins s σ H Q I hw;rw [evalPart_some];refine A8 (h pins s σ H _ I hw) λ u s1 ⟨x,H1,I1,r1,q1⟩=>?_;obtain ⟨i,rfl,q⟩:=q1;obtain ⟨t,rfl⟩:=r1;exact ⟨some i,H1,I1,.int i t,q⟩
def SlR (X:Cx) (r:V->Option Int->Option Int->Hp->VK->Prop):Prop :=
 ∀ (pins:List (Addr×Obj)) (s:Shared) (σ:St) (H:Hp) (x:V) (v vl vu:Value) (lo hi:Option Int) (sl:Addr) (Q:VK),Inv X pins σ H s->RelV x v->s.heap.IsSliceOf sl vl vu .none->IsPart vl lo->IsPart vu hi->r x lo hi H Q →
  ∃ T id,typeLookup (.type T) "__getitem__"=pure (some (.builtin id))/\s.TypeIs v T/\wpAny (model X.prog X.w) X.A (getItem v (.ref sl)) (EP X pins σ Q) X.xe s
def tSl (r:V->Option Int->Option Int->Hp->VK->Prop) (te:TE) (tl th:TO):TE:=λ σ H Q=>te σ H λ x H1=>tl σ H1 λ l H2=>th σ H2 λ u H3=>r x l u H3 Q
theorem G3 {r:V->Option Int->Option Int->Hp->VK->Prop} (hr:SlR X r) (he:PE X e te) (hl:PO X lo tl) (hu:PO X hi th):PE X (.Subscript e (.Slice lo hi none p2) pos) (tSl r te tl th):=by
 intro pins s σ H Q I h;refine Subscript_ (A8 (he pins s σ H _ I h) λ v s1 ⟨x,H1,I1,r1,q1⟩=>?_);refine wpAny_Slice (A8 (hl pins s1 σ H1 _ I1 q1) λ vl s2 ⟨l,H2,I2,pl,q2⟩=>A8 (hu pins s2 σ H2 _ I2 q2) λ vu s3 ⟨u,H3,I3,pu,q3⟩=>?_);rw [evalPart_none];refine wpAny_pure ?_;have I4:Inv X pins σ H3 { s3 with heap:=s3.heap.push { cls:=.type "slice",data:=.fields #[vl,vu,.none] } }:=I3.kept (t':=s3.toks) λ b ob q=>Heap.get?_push_of_some _ q;obtain ⟨T,id,hT,ht,hg⟩:=hr pins { s3 with heap:=s3.heap.push { cls:=.type "slice",data:=.fields #[vl,vu,.none] } } σ H3 x v vl vu l u s3.heap.objs.size Q I4 r1 (Heap.IsSliceOf.new ..) pl pu q3
 show wpAny (model X.prog X.w) X.A (subscriptTail e (.Slice lo hi none p2) v (.ref s3.heap.objs.size)) (EP X pins σ Q) X.xe { s3 with heap:=s3.heap.push { cls:=.type "slice",data:=.fields #[vl,vu,.none] } }
 exact tail_any (ops:=[.ref s3.heap.objs.size,v]) ht hT hg (by with_unfolding_all rfl)
def E8 (xs:List V) (lo hi:Option Int):List V:=(xs.drop (HT.sIx xs.length 0 lo)).take (HT.sIx xs.length xs.length hi - HT.sIx xs.length 0 lo)
theorem W6 (xs:List V) (lo hi:Option Int):(E8 xs lo hi).length<=xs.length:=by
 unfold E8;rw [cI,dE];omega
def b4B (K:W.Frag):V->Option Int->Option Int->Hp->VK->Prop:=λ x lo hi H Q=>∃ a xs,x=.ref a/\SqT K H a xs ∧
 ¬ (HT.sIx xs.length 0 lo=0/\HT.sIx xs.length xs.length hi=xs.length)/\∀ p,H p=none->Q (.ref p) (r6 H p (.tup (E8 xs lo hi)))
theorem b1J:SlR X (b4B X.K):=by
 intro pins s σ H x v vl vu lo hi sl Q I rx hs pl pu h;obtain ⟨a,xs,rfl,hx,hw,q⟩:=h
 cases rx;obtain ⟨its,r,ht,hz⟩:=I.tuple hx;have hlen:its.toArray.size=xs.length:=by rw [aT]; exact r.length.symm
 refine ⟨"tuple",_,fL.lookup,ht.typeIs,?_⟩;refine HT.getItem_tuple_cut ht hs pl pu (by rw [hlen]; exact hw) ?_ (by rw [hlen]; exact hz);rw [hlen];refine ⟨.ref s.heap.objs.size,_,I.laid (t':=s.toks) (o:=.tup (E8 xs lo hi)) (λ b ob q=>Heap.get?_push_of_some _ q) (aF _) ?_,rfl,q _ (I.hok.fresh (aF _))⟩;exact ⟨Nat.le_trans (W6 xs lo hi) hz,_,(r.drop (HT.sIx xs.length 0 lo)).take (HT.sIx xs.length xs.length hi - HT.sIx xs.length 0 lo),IsTup.new _ _⟩
def b3V (K:W.Frag):R2:=λ x y H Q=>∃ a b xs ys,x=.ref a/\y=.ref b/\SqT K H a xs/\SqT K H b ys/\xs≠[]/\xs.length+ys.length<=sizeLine ∧
 (ys=[]->Q (.ref a) H)/\(ys≠[]->∀ p,H p=none->Q (.ref p) (r6 H p (.tup (xs++ys))))
theorem Vals.nil_iff {xs:List V} {us:List Value} (r:Vals xs us):us=[] ↔ xs=[]:=by
 cases r with
 | nil=>simp
 | cons _ _=>simp
theorem a1I:OpR X (binaryOp .Add) (b3V X.K):=by
 intro pins s σ H x y v u Q I rx ry h;obtain ⟨a,b,xs,ys,rfl,rfl,ha,hb,hx,hz,q1,q2⟩:=h
 cases rx
 cases ry;obtain ⟨its,r1,p1,_⟩:=I.tuple ha;obtain ⟨its2,r2,p2,_⟩:=I.tuple hb;refine HT.cat_tup p1 p2 (λ z=>hx (r1.nil_iff.mp z)) (λ z=>⟨.ref a,H,I,rfl,q1 (r2.nil_iff.mp z)⟩) (λ z=>?_) (by rw [<- r1.length,<- r2.length]; exact hz);refine ⟨.ref s.heap.objs.size,_,I.laid (t':=s.toks) (o:=.tup (xs++ys)) (λ b ob q=>Heap.get?_push_of_some _ q) (aF _) ?_,rfl,q2 (λ w=>z (r2.nil_iff.mpr w)) _ (I.hok.fresh (aF _))⟩;exact ⟨by rw [aM]; exact hz,_,r1.append r2,IsTup.new _ _⟩
end
def ixN (n:Nat) (i:Int):Option Nat:=if 0<=i then (if i<n then some i.toNat else none) else if -(n:Int)<=i then some (i+n).toNat else none
def Y8 {α:Type} (xs:List α) (i:Int):Option α:=(ixN xs.length i).bind λ j=>xs[j]?
theorem a6j {n:Nat} {i:Int} {j:Nat} (h:ixN n i=some j):seqIndex? i n=some j/\j<n/\-(n:Int)<=i/\i<n:=by
 unfold ixN at h
 by_cases h0:0<=i
 ·rw [if_pos h0] at h
  by_cases h1:i<n
  ·rw [if_pos h1] at h
   have e:i.toNat=j:=aL h;exact ⟨by rw [seqIndex_of h0 h1,e],by omega,by omega,h1⟩
  ·rw [if_neg h1] at h; cases h
 ·rw [if_neg h0] at h
  by_cases h1:-(n:Int)<=i
  ·rw [if_pos h1] at h
   have e:(i+n).toNat=j:=aL h;exact ⟨by rw [seqIndex_neg (by omega) h1,e],by omega,h1,by omega⟩
  ·rw [if_neg h1] at h; cases h
theorem a6F {α:Type} {xs:List α} {i:Int} {v:α} (h:Y8 xs i=some v):∃ j,seqIndex? i xs.length=some j/\xs[j]?=some v/\j<xs.length/\-(xs.length:Int)<=i/\i<xs.length:=by
 unfold Y8 at h
 cases e:ixN xs.length i with
 | none=>rw [e] at h; cases h
 | some j =>
  rw [e] at h;obtain ⟨h1,h2,h3,h4⟩:=a6j e;exact ⟨j,h1,h,h2,h3,h4⟩
theorem D9 {α:Type} {xs:List α} {j:Nat} {v:α} (h:xs[j]?=some v):Y8 xs (j:Int)=some v:=by
 have hj:j<xs.length:=(bQ.mp h).1;have e:ixN xs.length (j:Int)=some j:=by
  unfold ixN;rw [if_pos (by omega),if_pos (by omega)]; simp
 unfold Y8; rw [e]; exact h
theorem a4w {α:Type} (xs:List α) (v:α):Y8 (xs++[v]) (-1)=some v:=by
 have hl:(xs++[v]).length=xs.length+1:=by simp
 have e:ixN (xs++[v]).length (-1)=some xs.length:=by
  unfold ixN;rw [hl,if_neg (by decide),if_pos (by omega)]
  congr 1
  omega
 unfold Y8;rw [e]
 show (xs++[v])[xs.length]?=some v
 simp
def b0w (b:Expr):Prop:=∀ o i,subscripted b false o i=operate [o,i] (getItem o i)
def IxR (X:Cx) (r:R2):Prop :=
 ∀ (value slice:Expr) (pins:List (Addr×Obj)) (s:Shared) (σ:St) (H:Hp) (x y:V) (v u:Value) (Q:VK),Inv X pins σ H s->RelV x v->RelV y u->r x y H Q →
  subscripted slice false v u=operate [v,u] (getItem v u)->wpAny (model X.prog X.w) X.A (subscriptTail value slice v u) (EP X pins σ Q) X.xe s
def MtR (X:Cx) (id:String) (r:V->List V->Hp->VK->Prop):Prop :=
 ∀ (pins:List (Addr×Obj)) (s:Shared) (σ:St) (H:Hp) (x:V) (xs:List V) (v:Value) (us:List Value) (Q:VK),Inv X pins σ H s->RelV x v->Vals xs us->r x xs H Q →
  wpAny (model X.prog X.w) X.A (call (.builtin id) (v::us)) (EP X pins σ Q) X.xe s
section
variable {X:Cx} {a b:Expr} {ta tb:TE} {pos:Pos}
theorem j9 {r:R2} (hr:IxR X r) (ha:PE X a ta) (hb:PE X b tb) (hs:b0w b):PE X (.Subscript a b pos) (tOp r ta tb):=by
 intro pins s σ H Q I h;exact Subscript_ (b2u ha hb I h λ v u s2 x y H2 I2 rx ry q=>hr a b pins s2 σ H2 x y v u Q I2 rx ry q (hs _ _))
def b3s (K:W.Frag):R2:=λ x y H Q=>∃ p xs i v,x=.ref p/\y=.int i/\SqL K H p xs/\Y8 xs i=some v/\Q v H
def b3A (K:W.Frag):R2:=λ x y H Q=>∃ p xs i v,x=.ref p/\y=.int i/\SqT K H p xs/\Y8 xs i=some v/\Q v H
theorem j5:IxR X (b3s X.K):=by
 intro value slice pins s σ H x y v u Q I rx ry h hs;obtain ⟨p,xs,i,z,rfl,rfl,hq,he,q⟩:=h
 cases rx;obtain ⟨t,rfl⟩:=ry;obtain ⟨its,r,pl,hz⟩:=I.list hq;obtain ⟨j,h1,h2,h3,h4,h5⟩:=a6F he;obtain ⟨w,ew,rw'⟩:=r.get h2;have hl:=r.length;have hn:=a3U;have fin:EP X pins σ Q w s:=⟨z,H,I,rw',q⟩
 by_cases h0:0<=i
 ·have hj:i.toNat=j:=by
   rw [seqIndex_of h0 h5] at h1;exact aL h1
  exact item_listR pl.isList h0 (by omega) (by rw [hj]; simpa using ew) fin hs
 ·have hj:(i+(its.toArray.size:Int)).toNat=j:=by
   rw [seqIndex_neg (by omega) h4] at h1;rw [aT,<- hl];exact aL h1
  exact subscriptTail_builtinR (x:=w) pl.isList.typeIs slot_list_getitem.lookup
   (wpAny_getItem_list_neg (Q:=λ r s'=>r=w/\EP X pins σ Q r s') pl.isList (by omega) (by rw [aT] <;> omega) (by omega) (by rw [hj]; simpa using ew) ⟨rfl,fin⟩) hs
theorem a1W:IxR X (b3A X.K):=by
 intro value slice pins s σ H x y v u Q I rx ry h hs;obtain ⟨p,xs,i,z,rfl,rfl,hq,he,q⟩:=h
 cases rx;obtain ⟨t,rfl⟩:=ry;obtain ⟨its,r,pl,hz⟩:=I.tuple hq;obtain ⟨j,h1,h2,h3,h4,h5⟩:=a6F he;obtain ⟨w,ew,rw'⟩:=r.get h2;have hl:=r.length;have hn:=a3U;have fin:EP X pins σ Q w s:=⟨z,H,I,rw',q⟩;exact subscriptTail_builtinR (x:=w) pl.typeIs slot_tuple_getitem.lookup
  (getItem_tuple (j:=j) (Q:=λ r s'=>r=w/\EP X pins σ Q r s') pl (by omega) (by omega) (by rw [aT,<- hl]; exact h1) (by simpa using ew) ⟨rfl,fin⟩) hs
theorem a5V (its:List Value) (n j:Nat) (u:Value):Obj.mapSeq (·.setIfInBounds j u) { cls:=.type "list",data:=.seq its.toArray n }={ cls:=.type "list",data:=.seq (its.set j u).toArray n }:=by
 simp [Obj.mapSeq]
theorem Inv.lst {pins:List (Addr×Obj)} {σ:St} {H:Hp} {s:Shared} {p:Addr} {xs:List V} (I:Inv X pins σ H s) (h:H p=some (.lst xs)) :
  ∃ (its:List Value) (n:Nat),Vals xs its/\s.heap.get? p=some { cls:=.type "list",data:=.seq its.toArray n }/\xs.length<=sizeLine:=by
 obtain ⟨z,its,n,r,e⟩:=I.hok p _ h;exact ⟨its,n,r,e,z⟩
theorem Inv.lstUpd {pins:List (Addr×Obj)} {σ:St} {H:Hp} {s:Shared} {p:Addr} {xs ys:List V} {its its':List Value} {n n':Nat} {f:Obj->Obj} (I:Inv X pins σ H s) (h:H p=some (.lst xs))
  (ho:s.heap.get? p=some { cls:=.type "list",data:=.seq its.toArray n }) (hf:f { cls:=.type "list",data:=.seq its.toArray n }={ cls:=.type "list",data:=.seq its'.toArray n' }) (r:Vals ys its') (hz:ys.length<=sizeLine) (t:Nat) :
  Inv X pins σ (r6 H p (.lst ys)) { s with heap:=s.heap.update p f,toks:=t }:=by
 have e:(s.heap.update p f).get? p=some { cls:=.type "list",data:=.seq its'.toArray n' }:=by
  rw [Heap.get?_update_self f ho (by rw [hf] <;> rfl),hf]
 refine I.write (x:=p) (e:=p) (by rw [h]; trivial) (.inl rfl) (λ b u hb q=>(Heap.get?_update_other _ _ (aS hb)).trans q) ⟨_,e⟩ ?_;exact ⟨hz,its',n',r,e⟩
def b3Q:V->V->V->Hp->(Hp->Prop)->Prop:=λ o i v H Q=>∃ p xs k j,o=.ref p/\i=.int k/\H p=some (.lst xs)/\ixN xs.length k=some j/\Q (r6 H p (.lst (xs.set j v)))
theorem K5:b3x X b3Q:=by
 intro pins s σ H o i v ov iv u Q I ro ri rv h;obtain ⟨p,xs,k,j,rfl,rfl,hp,hj,q⟩:=h
 cases ro;obtain ⟨t,rfl⟩:=ri;obtain ⟨its,n,r,ho,hz⟩:=I.lst hp;obtain ⟨h1,h2,h3,h4⟩:=a6j hj;have hl:=r.length;have hn:=a3U;have I':Inv X pins σ (r6 H p (.lst (xs.set j v))) { s with heap:=s.heap.update p (Obj.mapSeq (·.setIfInBounds j u)) } :=
  I.lstUpd hp ho (a5V its n j u) (r.set rv j) (by rw [cA]; exact hz) s.toks
 by_cases h0:0<=k
 ·have hk:k.toNat=j:=by
   rw [seqIndex_of h0 h4] at h1;exact aL h1
  exact W.ki_setAt ho h0 (by omega) (by rw [aT,<- hl]; exact h4) (by rw [hk]; exact ⟨_,I',q⟩)
 ·have hk:(k+(its.toArray.size:Int)).toNat=j:=by
   rw [seqIndex_neg (by omega) h3] at h1;rw [aT,<- hl];exact aL h1
  exact W.ki_setBack ho (by omega) (by rw [aT,<- hl]; exact h3) (by omega) (by rw [hk]; exact ⟨_,I',q⟩)
theorem a3n (lo hi:Option Int) (n:Nat):(sliceBounds lo hi none n).1=((HT.sIx n 0 lo:Nat):Int)/\(sliceBounds lo hi none n).2.1=((HT.sIx n n hi:Nat):Int)/\(sliceBounds lo hi none n).2.2=1:=by
 refine ⟨?_,?_,rfl⟩
 ·cases lo with
  | none=>simp [sliceBounds,HT.sIx]
  | some i =>
   simp only [sliceBounds,HT.sIx,jI,show (1:Int)>0 by decide,if_true]
   by_cases h:i<0
   ·simp only [h,if_true] <;> omega
   ·simp only [h,if_false] <;> omega
 ·cases hi with
  | none=>simp [sliceBounds,HT.sIx]
  | some i =>
   simp only [sliceBounds,HT.sIx,jI,show (1:Int)>0 by decide,if_true]
   by_cases h:i<0
   ·simp only [h,if_true] <;> omega
   ·simp only [h,if_false] <;> omega
theorem a2G (its:List Value) (lo hi:Option Int):slicePick its.toArray lo hi none=((its.drop (HT.sIx its.length 0 lo)).take (HT.sIx its.length its.length hi - HT.sIx its.length 0 lo)).toArray:=by
 obtain ⟨h1,h2,h3⟩:=a3n lo hi its.toArray.size;unfold slicePick;rw [h1,h2,h3];simp only [sliceRange_one,pick_run,aT] <;> rfl
def b4J (K:W.Frag):V->Option Int->Option Int->Hp->VK->Prop:=λ x lo hi H Q=>∃ a xs,x=.ref a/\SqL K H a xs/\∀ p,H p=none->Q (.ref p) (r6 H p (.lst (E8 xs lo hi)))
theorem P9:SlR X (b4J X.K):=by
 intro pins s σ H x v vl vu lo hi sl Q I rx hs pl pu h;obtain ⟨a,xs,rfl,hx,q⟩:=h
 cases rx;obtain ⟨its,r,ht,hz⟩:=I.list hx;have hlen:=r.length;refine ⟨"list",_,slot_list_getitem.lookup,ht.isList.typeIs,?_⟩;refine wpAny_getItem_list_slice ht.isList hs pl pu .none (by simp) ?_ (by rw [aT] <;> omega);rw [a2G,<- hlen];refine ⟨.ref s.heap.objs.size,_,I.laid (t':=s.toks) (o:=.lst (E8 xs lo hi)) (λ b ob q=>Heap.get?_push_of_some _ q) (aF _) ?_,rfl,q _ (I.hok.fresh (aF _))⟩;exact ⟨Nat.le_trans (W6 xs lo hi) hz,_,0,(r.drop (HT.sIx xs.length 0 lo)).take (HT.sIx xs.length xs.length hi - HT.sIx xs.length 0 lo),Heap.get?_push_size _ rfl⟩
theorem j7:G2 X (.builtin "len") (λ xs H Q=>∃ p ys,xs=[.ref p]/\(SqL X.K H p ys\/SqT X.K H p ys)/\Q (.int ys.length) H):=by
 intro pins s σ H xs us Q I r h;obtain ⟨p,ys,rfl,hq,q⟩:=h;obtain ⟨u,rfl,rx⟩:=O4 r
 cases rx;have hn:=a3U;rcases hq with hq | hq
 ·obtain ⟨its,r',pl,hz⟩:=I.list hq
  have hlen:=r'.length;exact Calls.call_len_list pl.isList (by simp only [aT] <;> omega) ⟨.int ys.length,H,I.tok _,⟨s.toks+1,by rw [aT,hlen]⟩,q⟩
 ·obtain ⟨its,r',pl,hz⟩:=I.tuple hq
  have hlen:=r'.length;exact len_tuple pl (by simp only [aT] <;> omega) ⟨.int ys.length,H,I.tok _,⟨s.toks+1,by rw [aT,hlen]⟩,q⟩
theorem B7:G2 X (.type "list") (λ xs H Q=>∃ p ys,xs=[.ref p]/\(SqL X.K H p ys\/SqT X.K H p ys)/\∀ l,H l=none->Q (.ref l) (r6 H l (.lst ys))):=by
 intro pins s σ H xs us Q I r h;obtain ⟨p,ys,rfl,hq,q⟩:=h;obtain ⟨u,rfl,rx⟩:=O4 r
 cases rx;have fin:∀ (its:List Value),Vals ys its->ys.length<=sizeLine->∀ (h':Heap) (c':Nat),(∀ b o',s.heap.get? b=some o'->h'.get? b=some o') →
   h'.get? s.heap.objs.size=some { cls:=.type "list",dict:=none,data:=.seq its.toArray c',slots:=#[] }->EP X pins σ Q (.ref s.heap.objs.size) { s with heap:=h' }:=λ its r' hz h' c' kp e =>
  ⟨.ref s.heap.objs.size,_,I.laid (t':=s.toks) kp (aF _) (show ObjOk X.prog X.w _ h' _ (.lst ys) from ⟨hz,its,c',r',e⟩),rfl,q _ (I.hok.fresh (aF _))⟩
 rcases hq with hq | hq
 ·obtain ⟨its,r',pl,hz⟩:=I.list hq
  have hlen:=r'.length;obtain ⟨o,ho,hc,n,hd⟩:=pl.isList;exact call_list_seq p (.inl rfl) ho hc hd (λ h' c' kp e=>fin its r' hz h' c' kp e) (by simp only [aT] <;> omega)
 ·obtain ⟨its,r',pl,hz⟩:=I.tuple hq
  have hlen:=r'.length;obtain ⟨o,ho,hc,n,hd⟩:=pl;exact call_list_seq p (.inr rfl) ho hc hd (λ h' c' kp e=>fin its r' hz h' c' kp e) (by simp only [aT] <;> omega)
theorem M1:G2 X (.type "tuple") (λ xs H Q=>∃ p ys,xs=[.ref p]/\((SqL X.K H p ys/\∀ l,H l=none->Q (.ref l) (r6 H l (.tup ys)))\/(SqT X.K H p ys/\Q (.ref p) H))):=by
 intro pins s σ H xs us Q I r h;obtain ⟨p,ys,rfl,h⟩:=h;obtain ⟨u,rfl,rx⟩:=O4 r
 cases rx;rcases h with ⟨hq,q⟩ | ⟨hq,q⟩
 ·obtain ⟨its,r',pl,hz⟩:=I.list hq
  have hlen:=r'.length;refine call_tuple_list pl.isList (λ h' kp=>?_) (by simp only [aT] <;> omega);have I1:Inv X pins σ H { s with heap:=h' }:=I.kept (t':=s.toks) kp;have I2:Inv X pins σ (r6 H h'.objs.size (.tup ys)) { s with heap:=h'.push { cls:=.type "tuple",data:=.seq its.toArray } } :=
   I1.laid (t':=s.toks) (λ b o e=>Heap.get?_push_of_some _ e) (aF _) (show ObjOk X.prog X.w _ _ _ (.tup ys) from ⟨hz,its,r',IsTup.new _ _⟩)
  exact ⟨.ref h'.objs.size,_,I2,rfl,q _ (I1.hok.fresh (aF _))⟩
 ·obtain ⟨its,r',pl,hz⟩:=I.tuple hq
  exact call_tuple_same pl ⟨.ref p,H,I,rfl,q⟩
def tyV (K:W.Frag) (T:String) (x:V) (H:Hp):Prop:=match x with
 | .str _=>T="str"
 | .int _=>T="int"
 | .ref p=>(T="list"/\∃ xs,SqL K H p xs)\/(T="tuple"/\∃ o,K.lookup p=some o/\o.cls=.type "tuple"/\o.dict=none) ∨
   (T="dict"/\((∃ kvs,H p=some (.dK kvs))\/∃ kvs,H p=some (.dT kvs)))\/(T="set"/\∃ S n,H p=some (.set S n))
 | _=>False
theorem b2a {pins:List (Addr×Obj)} {σ:St} {H:Hp} {s:Shared} {T:String} {x:V} {v:Value} (I:Inv X pins σ H s) (r:RelV x v) (ty:tyV X.K T x H) :
  s.TypeIs v T/\∀ a,v=.ref a->∃ ob,s.heap.get? a=some ob/\ob.dict=none:=by
 cases x with
 | str z =>
  obtain ⟨t,rfl⟩:=r
  cases (show T="str" from ty);exact ⟨typeIs_str s z t,λ _ e=>nomatch e⟩
 | int i =>
  obtain ⟨t,rfl⟩:=r
  cases (show T="int" from ty);exact ⟨typeIs_int s i t,λ _ e=>nomatch e⟩
 | ref p =>
  cases r;rcases ty with ⟨rfl,xs,hq⟩ | ⟨rfl,o,hk,hc,hd⟩ | ⟨rfl,hk⟩ | ⟨rfl,S,n,hk⟩
  ·obtain ⟨its,_,pl,_⟩:=I.list hq
   refine ⟨pl.isList.typeIs,λ a e=>?_⟩
   cases e;obtain ⟨o,n,e,c,hd,_⟩:=pl;exact ⟨o,e,hd⟩
  ·refine ⟨⟨o,I.kIn p o hk,hc⟩,λ a e=>?_⟩
   cases e;exact ⟨o,I.kIn _ o hk,hd⟩
  ·have z:∃ o,s.heap.get? p=some o/\o.ExactDict:=by
    rcases hk with ⟨kvs,hk⟩ | ⟨kvs,hk⟩
    ·obtain ⟨_,_,_,_,o,_,_,e,ex,_⟩:=I.hok p _ hk
     exact ⟨o,e,ex⟩
    ·obtain ⟨_,_,_,_,o,_,_,e,ex,_⟩:=I.hok p _ hk
     exact ⟨o,e,ex⟩
   obtain ⟨o,e,ex⟩:=z;refine ⟨⟨o,e,ex.1⟩,λ a e2=>?_⟩
   cases e2;exact ⟨o,e,ex.2.1⟩
  ·obtain ⟨o,_,_,_,e,ex,_⟩:=I.hok p _ hk
   refine ⟨⟨o,e,ex.1⟩,λ a e2=>?_⟩
   cases e2;exact ⟨o,e,ex.2.1⟩
 | _=>exact bM ty
def tBM (K:W.Frag) (T:String) (r:V->List V->Hp->VK->Prop) (to:TE) (t:TA):TE:=λ σ H Q=>to σ H λ x H1=>tyV K T x H1/\t σ H1 λ xs H2=>r x xs H2 Q
variable {o e:Expr} {es:List Expr} {to:TE} {t:TA} {name:Str} {apos cpos:Pos} {T id:String} {r:V->List V->Hp->VK->Prop}
theorem a0L (pa:PlainAttrs T) (slot:Slot T name id) (hty:typeOf (.builtin id)=pure (.type "method_descriptor")) (hm:MtR X id r) (ho:PE X o to) (ha:PA X (e::es) t)
    (hbase:attributeBase o name X.env (eval o X.env)=eval o X.env:=by rfl)
    (hfew:((backTo cpos (starEach (e::es) X.env)).all (λ x=>!x.1)&&(backToKw cpos (keywordEach [] X.env)).all (λ x=>x.1.isSome)
     &&decide ((e::es).length+([]:List Keyword).length+(if ([]:List Keyword).isEmpty then 0 else 1)<30))=true:=by rfl)
    (hline:(apos.endLine==cpos.line)=true:=by rfl) (hs:starEach (e::es) X.env=(false,eval e X.env)::starEach es X.env:=by rfl) (hplain:(backTo cpos (starEach es X.env)).any (·.1)=false:=by rfl) :
    PE X (.Call (.Attribute o name apos) (e::es) [] cpos) (tBM X.K T r to t):=by
  intro pins s σ H Q I h;refine wpAny_Call_method_late hbase hfew hline rfl (A8 (ho pins s σ H _ I h) λ v s1 ⟨x,H1,I1,r1,ty,q1⟩=>?_);obtain ⟨h1,h2⟩:=b2a I1 r1 ty;refine ⟨T,id,pa,slot,hty,h1,h2,?_⟩;have hA:=ha cpos pins s1 σ H1 _ I1 q1;rw [hs] at hA ⊢;refine Calls.callWith_builtin (by show (false || (backTo cpos (starEach es X.env)).any (·.1))=false; rw [hplain] <;> rfl) (Calls.evalArgs_plain ?_);exact A8 hA λ us s2 ⟨vs,H2,I2,r2,q2⟩=>hm pins s2 σ H2 x vs v us Q I2 r1 r2 q2
/- xs.append(e),list.index on a module's tuple .. are MtR facts of 06m -/
end
def MtM (X:Cx) (id:String) (r:V->List V->Hp->VK->Prop):Prop :=
 ∀ (pins:List (Addr×Obj)) (s:Shared) (σ:St) (H:Hp) (x:V) (xs:List V) (v:Value) (us:List Value) (Q:VK),Inv X pins σ H s->RelV x v->Vals xs us->r x xs H Q →
  wpAny (model X.prog X.w) X.A (call (.builtin id) (v::us)) (EP X pins σ Q) X.xe s
theorem Vals.one:∀ {x:V} {us:List Value},Vals [x] us->∃ u,us=[u]/\RelV x u
 | _,_,.cons r .nil=>⟨_,rfl,r⟩
theorem Vals.eraseIdx:∀ {xs:List V} {us:List Value} (i:Nat),Vals xs us->Vals (xs.eraseIdx i) (us.eraseIdx i)
 | _,_,_,.nil=>.nil
 | _,_,0,.cons _ t=>t
 | _,_,i+1,.cons r t=>.cons r (Vals.eraseIdx i t)
theorem Vals.rep {xs:List V} {us:List Value} (h:Vals xs us):∀ k:Nat,Vals (aG k xs).flatten (aG k us).flatten
 | 0=>.nil
 | k+1=>by
  rw [cZ,cZ,eX,eX];exact Vals.append h (Vals.rep h k)
theorem a2O {α:Type}:∀ (l:List α) (i:Nat),(l.eraseIdx i).length<=l.length
 | [],_=>aF _
 | _::_,0=>gG _
 | _::r,i+1=>Nat.succ_le_succ (a2O r i)
theorem Y7 (its:List Value):∀ (k:Nat) (acc:List Value),
  eY (λ x1 x2=>x1++x2) acc.toArray (aG k its.toArray)=(acc++(aG k its).flatten).toArray
 | 0,acc=>by simp
 | k+1,acc=>by
  have e:acc.toArray++its.toArray=(acc++its).toArray:=by simp
  have e2:(acc++its)++(aG k its).flatten=acc++(aG (k+1) its).flatten:=by
   rw [cZ,eX,dM]
  rw [<- e2,<- Y7 its k (acc++its),<- e,cZ,List.foldl_cons]
section
variable {X:Cx} {pins:List (Addr×Obj)} {σ:St} {H:Hp} {s:Shared} {l b:Addr} {xs ys zs:List V}
theorem Inv.lset {its its':List Value} {n:Nat} {f:Array Value->Array Value} {t':Nat} (I:Inv X pins σ H s) (hH:H l=some (.lst xs))
  (e:s.heap.get? l=some { cls:=.type "list",data:=.seq its.toArray n }) (hf:f its.toArray=its'.toArray) (hv:Vals ys its') (hz:ys.length<=sizeLine) :
  Inv X pins σ (r6 H l (.lst ys)) { s with heap:=s.heap.update l (Obj.mapSeq f),toks:=t' }:=by
 have q:=mI e f;rw [hf] at q;refine I.write (x:=l) (e:=l) (by rw [hH]; exact trivial) (.inl rfl) (λ b' u hb hu=>(Heap.get?_update_other s.heap (Obj.mapSeq f) (aS hb)).trans hu) ⟨_,q⟩ ?_;exact ⟨hz,its',_,hv,q⟩
theorem Inv.lnew {its:List Value} {t':Nat} (I:Inv X pins σ H s) (hv:Vals ys its) (hz:ys.length<=sizeLine) :
  Inv X pins σ (r6 H s.heap.objs.size (.lst ys)) { s with heap:=s.heap.push { cls:=.type "list",data:=.seq its.toArray },toks:=t' } :=
 I.laid (λ _ _ q=>Heap.get?_push_of_some _ q) (aF _) ⟨hz,its,0,hv,Heap.get?_push_size _ rfl⟩
theorem Inv.fresh (I:Inv X pins σ H s):H s.heap.objs.size=none:=I.hok.fresh (aF _)
theorem Inv.lstM (I:Inv X pins σ H s) (hH:H l=some (.lst xs)):xs.length<=sizeLine/\∃ (its:List Value) (n:Nat),Vals xs its/\xs.length=its.length/\s.heap.get? l=some { cls:=.type "list",data:=.seq its.toArray n }:=by
 obtain ⟨z,its,n,r,e⟩:=I.hok l _ hH;exact ⟨z,its,n,r,r.length,e⟩
theorem a8e {n:Nat} (h:n<=sizeLine):Builtin.List.listTooLong n=false:=by
 unfold Builtin.List.listTooLong;exact decide_eq_false (by omega)
end
section
variable {X:Cx}
def b1e:V->List V->Hp->VK->Prop:=λ x vs H Q=>∃ l xs y,x=.ref l/\vs=[y]/\H l=some (.lst xs)/\xs.length<sizeLine/\Q .non (r6 H l (.lst (xs++[y])))
theorem J4:MtM X "list.append" b1e:=by
 intro pins s σ H x vs v us Q I rx rv h;obtain ⟨l,xs,y,rfl,rfl,hH,hz,q⟩:=h
 cases rx;obtain ⟨u,rfl,ru⟩:=rv.one;obtain ⟨z,its,n,r,hl,e⟩:=I.lstM hH;refine call_meets F.slot_list_append ⟨_,e,rfl⟩ F.entry_list_append (F.args_list_append_2 _ _) (PySem.list_append l its.toArray n u (by rw [aT]; omega)) ⟨e,?_⟩;refine ⟨.non,_,I.lset (its':=its++[u]) hH e (by simp) (r.append (.cons ru .nil)) ?_,rfl,q⟩;rw [aM,dA];omega
def b2D:V->List V->Hp->VK->Prop:=λ x vs H Q=>∃ l xs i k y,x=.ref l/\vs=[.int i]/\H l=some (.lst xs)/\-(2 ^ 63)<=i/\i<2 ^ 63/\seqIndex? i xs.length=some k/\xs[k]?=some y/\Q y (r6 H l (.lst (xs.eraseIdx k)))
theorem a4f:MtM X "list.pop" b2D:=by
 intro pins s σ H x vs v us Q I rx rv h;obtain ⟨l,xs,i,k,y,rfl,rfl,hH,h1,h2,hk,hy,q⟩:=h
 cases rx;obtain ⟨u,rfl,ru⟩:=rv.one;obtain ⟨t,rfl⟩:=ru;obtain ⟨z,its,n,r,hl,e⟩:=I.lstM hH;obtain ⟨w,hw,rw'⟩:=r.get hy;refine call_meets F.slot_list_pop ⟨_,e,rfl⟩ F.entry_list_pop (F.args_list_pop_2 _ _)
  (MeetsSeq.list_pop_at l its.toArray n i t k w (fitsIndex_both h1 h2) (by rw [aT,<- hl]; exact hk) (by rw [<- Array.getElem?_toList]; exact hw) (by rw [aT]; omega)) ⟨e,?_⟩
 refine ⟨y,_,I.lset (its':=its.eraseIdx k) hH e ?_ (r.eraseIdx k) ?_,rw',q⟩
 ·show its.toArray.eraseIdxIfInBounds k=(its.eraseIdx k).toArray
  rw [List.eraseIdxIfInBounds_toArray]
 ·have:=a2O xs k
  omega
def b5m:R2:=λ x y H Q=>∃ l b xs zs,x=.ref l/\y=.ref b/\H l=some (.lst xs)/\H b=some (.lst zs)/\xs.length+zs.length<=sizeLine/\∀ p,H p=none->Q (.ref p) (r6 H p (.lst (xs++zs)))
theorem C5:OpR X (binaryOp .Add) b5m:=by
 intro pins s σ H x y v u Q I rx ry h;obtain ⟨l,b,xs,zs,rfl,rfl,hH,hB,hz,q⟩:=h
 cases rx
 cases ry;obtain ⟨z,its,n,r,hl,e⟩:=I.lstM hH;obtain ⟨z2,its2,n2,r2,hl2,e2⟩:=I.lstM hB;refine PySem.P.add_list e e2 ?_ (by rw [aT,aT]; omega);have ea:its.toArray++its2.toArray=(its++its2).toArray:=by simp
 rw [ea];exact ⟨.ref _,_,I.lnew (t':=s.toks) (r.append r2) (by rw [aM]; omega),rfl,q _ I.fresh⟩
def b5a:R2:=λ x y H Q=>∃ l k xs,x=.ref l/\y=.int k/\H l=some (.lst xs)/\-(2 ^ 63)<=k/\k<2 ^ 63/\xs.length*k.toNat<=sizeLine ∧
 ∀ p,H p=none->Q (.ref p) (r6 H p (.lst (aG k.toNat xs).flatten))
theorem a3t {α:Type} (xs:List α) (k:Nat):(aG k xs).flatten.length=k*xs.length:=by
 induction k with
 | zero=>simp
 | succ k ih=>rw [cZ,eX,aM,ih,gK,Nat.add_comm]
theorem W4:OpR X (binaryOp .Mult) b5a:=by
 intro pins s σ H x y v u Q I rx ry h;obtain ⟨l,k,xs,rfl,rfl,hH,h1,h2,hz,q⟩:=h
 cases rx;obtain ⟨t,rfl⟩:=ry;obtain ⟨z,its,n,r,hl,e⟩:=I.lstM hH;have hlen:its.toArray.size*k.toNat<=sizeLine:=by rw [aT,<- hl]; exact hz
 have hcap:¬ its.toArray.size*k.toNat>(2 ^ 63 - 1) / 8:=by
  have:(sizeLine:Nat)<=(2 ^ 63 - 1) / 8:=by decide
  omega
 have hfit:¬ (!Builtin.List.listFitsIndex k)=true:=by
  rw [fitsIndex_both h1 h2];exact bW
 have hlong:¬ Builtin.List.listTooLong (its.toArray.size*k.toNat)=true:=by
  rw [a8e hlen];exact bW
 have hnew:eY (λ x1 x2=>x1++x2) #[] (aG (if its.toArray.isEmpty=true then 0 else k.toNat) its.toArray)=(aG k.toNat its).flatten.toArray:=by
  have f0:∀ m:Nat,eY (λ x1 x2=>x1++x2) #[] (aG m its.toArray)=(aG m its).flatten.toArray:=λ m=>by
   have:=Y7 its m [];rw [dW] at this;exact this
  rw [f0]
  cases its with
  | nil=>simp
  | cons a r'=>rw [if_neg (by simp)]
 refine wpAny_binaryOp_repeat_ref (T:="list") (U:="int") (by decide) ⟨_,e,rfl⟩ (λ s'=>typeIs_int s' k t) noFill_list_mul F.fills_int_mul F.slot_int_rmul repeat_list F.slot_int_index.lookup
  (call_meets F.slot_int_rmul (typeIs_int s k t) F.entry_int_rmul (F.args_int_rmul_2 _ _) (int___rmul___int_list k t l its.toArray n)
   ⟨e,rfl,⟨_,e,rfl⟩,call_meets F.slot_list_mul ⟨_,e,rfl⟩ F.entry_list_mul (F.args_list_mul_2 _ _) (AutoListH.list___mul___list_int_3 l its.toArray n k t hfit hcap hlong) ⟨e,?_⟩⟩)
 rw [hnew];exact ⟨.ref _,_,I.lnew (t':=s.toks) (r.rep k.toNat) (by rw [a3t,jJ]; exact hz),rfl,q _ I.fresh⟩
end
section
variable {prog:Program} {w:World} {A:Around} {E:Value->Shared->Prop} {s:Shared}
end
section
variable {X:Cx}
end
end L2
namespace Att
open PySem PySem.W PySem.Calls PyProof.Rows
theorem a1v {P:Params} {h:Heap}:∀ (ns:List Int) (vs:List Value),WellAll P h vs (ns.map WData.int)->IntsAre vs ns:=by
 intro ns
 induction ns with
 | nil =>
  intro vs w;rw [dG] at w
  cases w;exact .nil
 | cons n ns ih =>
  intro vs w;rw [aV] at w
  cases w with
  | cons a b =>
   cases a;exact .cons _ _ (ih _ b)
theorem a7u {l:OpenLaw} {n:Nat} (hn:l.most=some n) {P:Params} {h:Heap} {args:List WData} {vals:List Value}
  (hpre:l.row.toRowW.claim.pre args=true) (hwl:WellAll P h vals args) :
  ∃ a vs ns,vals=[Value.ref a]/\args=[WData.list (ns.map WData.int)]/\h.get? a=some { cls:=.type "list",data:=.seq vs.toArray }/\IntsAre vs ns/\ns.length<=n:=by
 have hsh:WShape.hasAll [] args [.list .int]=true:=(pre_splitW hpre).1;have hc:l.pre.holds [] { args:=args }=true:=(pre_splitW hpre).2;obtain ⟨d,r,rfl,h1,h2⟩:=hasAllW_cons hsh;obtain rfl:=hasAllW_nil h2;obtain ⟨xs,rfl,h3⟩:=hasW_list h1;obtain ⟨ns,rfl⟩:=items_int h3;have hlen:ns.length<=n:=by
  unfold OpenLaw.pre at hc;have h4:(WTm.not (.lt (.lit (.int (n:Int))) (.len (.arg 0)))).holds [] { args:=[.list (ns.map .int)] }=true:=by
   have h4:=(holds_andW hc).1;rw [hn] at h4;exact h4
  have h5:=condW_of h4 (w_not (w_lt w_lit (w_len_list (w_arg rfl))));rw [aA] at h5;refine iA λ q=>?_;have q':(n:Int)<((ns.length:Nat):Int):=by omega
  first
   | (rw [decide_eq_true q'] at h5; exact absurd h5 (by decide))
   | (simp at h5; omega)
 cases hwl with
 | cons w1 w2 =>
  cases w2
  cases w1 with
  | list ho hall=>exact ⟨_,_,ns,rfl,rfl,ho,a1v ns _ hall,hlen⟩
theorem a7L (l:OpenLaw) (args:List WData):l.row.toRowW.claim.post args (.bool true) args=true :=
 postW_of (r:=l.row.toRowW) (X:=(true==true))
  (show WShape.has [] (.bool true) .bool=true by first | rfl | decide | simp [WShape.has,WShape.arms,WShape.armsAll])
  (show (WTm.eq .res (.lit (.bool true))).value [] { args:=args,res:=some (.bool true),after:=args }=some (.bool (true==true)) from w_eq_bool (w_res rfl) w_lit) rfl
theorem attach_call {l:OpenLaw} {n:Nat} {q:Program} {loose:List Str} {XP:(Str->Option Value)->Heap->Prop} {YP:World->Heap->Prop} {d:DefRec}
  (hn:l.most=some n) (hdf:d.params.defaults=[])
  (call:∀ (w:World) (s₀ s₁:Shared) (mg mb:Str->Option Value) (fa:Addr) (o:Obj) (pm cd doc:Value) (a:Addr) (vs:List Value) (ns:List Int),
   Ground q loose [] XP w s₀ mg mb s₁.heap->YP w s₁.heap →
   s₁.heap.get? fa=some o->o.data=.func (docDef d.name d.params d.body d.scope pm cd doc)->s₁.heap.CodeRec cd d.name->mg d.name=some (.ref fa) →
   s₁.heap.get? a=some { cls:=.type "list",data:=.seq vs.toArray }->IntsAre vs ns->ns.length<=n->s₁.gens=#[] →
   codeAny (model l.prog w) callerA (.call (.ref fa) ⟨[.ref a],[]⟩) (λ r s'=>r=.ok (.ret (.bool true))/\OldK s₁.heap s'.heap/\s'.os=s₁.os/\AllBare s'.gens) s₁) :
  WalkO q loose XP YP l.row.toRowW d [] (λ f vs=>iE f vs):=by
 intro w s₀ s₁ mg mb G Y fa o pm cd doc dV kV ho hd hcd hD hmg hg args vals as hpre hlay hrd hwl hlo;obtain rfl:dV=.none:=Dflts.none hD hdf;obtain rfl:kV=.none:=Dflts.noKw hD;obtain ⟨a,vs,ns,rfl,rfl,hobj,hints,hlen⟩:=a7u hn hpre hwl;refine enter_call (codeAny_mono (call w s₀ s₁ mg mb fa o pm cd doc a vs ns G Y ho (fd_plain hd) hcd hmg hobj hints hlen hg) λ r s' hq=>?_);obtain ⟨rfl,h2,h3,h4⟩:=hq;exact ⟨.inl ⟨.bool true,.bool true,[],rfl,λ _=>rfl,.bool true,a7L l _,λ _=>⟨List.Pairwise.nil,λ _ hm=>(nomatch hm)⟩⟩,h2,h3,h4⟩
section
variable {prog:Program} {w:World} {A:Around} {E:Value->Shared->Prop} {s:Shared} {K:Frag}
end
end Att
namespace L2
open PySem PySem.Spec PyProof.Rows
theorem a3d:∀ {vs:List Value} {ns:List Int},IntsAre vs ns->Vals (ns.map V.int) vs
 | _,_,.nil=>.nil
 | _,_,.cons n t h=>.cons ⟨t,rfl⟩ (a3d h)
def E2 (s:Stmt) (j:Nat):Stmt:=match s with
 | .ClassDef _ _ _ body _ _ _ _ _ _ _=>body.getD j (.Pass ⟨0,0,0,0⟩)
 | _=>.Pass ⟨0,0,0,0⟩
def F0 (s:Stmt):Arguments:=match s with
 | .FunctionDef _ a _ _ _ _ _ _ _ _=>a
 | _=>{ posonlyargs:=[],args:=[],vararg:=none,kwonlyargs:=[],kw_defaults:=[],kwarg:=none,defaults:=[] }
def w4 (s:Stmt):List Stmt:=match s with
 | .FunctionDef _ _ b _ _ _ _ _ _ _=>b
 | _=>[]
def i8 (s:Stmt):Scope:=match s with
 | .FunctionDef _ _ _ _ _ _ sc _ _ _=>sc
 | _=>{ kind:=.function,names:=[],isGenerator:=false,isCoroutine:=false }
abbrev E4:CXT:=λ _ _ _ _ _ _=>False
abbrev E0:XK:=λ _ _ _=>False
theorem w6 {X:Cx}:T3 E4 X E0:=λ _ _ _ _ _ _ _ h=>h.elim
structure Fun (K:W.Frag) (x qual:Str) (st:Stmt) (f:Addr) (fd:FuncData):Prop where
 ex:∃ (oc:Value) (od:Option Addr) (kV doc pm:Value) (an:Option Addr) (cdv ct:Value) (osl:Array (Option Value)),
  fd=W.fnOf x qual (F0 st) (w4 st) (i8 st) .none kV doc pm an cdv ct/\K.lookup f=some ⟨oc,od,.func fd,osl⟩/\W.codeIn K cdv qual=true
 kp:W.keepIn K (.ref f)=true
section
variable {P:Program} {w:World} {K:W.Frag} {mg:Str->Option Value} {base:Heap}
theorem Fun.ok {x qual:Str} {st:Stmt} {f:Addr} {fd:FuncData} {N ps:List Str} {k:Nat} {sp:Sp} (F:Fun K x qual st f fd) (S:m9 N ps (i8 st)) (len:∀ vs H Q E,sp vs H Q E->vs.length=ps.length)
  (hbody:∀ (cdv:Value) (A:Around) (outer:List Env) (s:Shared) (H:Hp) (vs:List V) (Q:VK) (E:XK),Room k (A.deeper (envOfC qual (i8 st) s.heap.objs.size f cdv))->sp vs H Q E →
   ∃ t,PSs (K1 E4 P w K mg base N qual (i8 st) f cdv A outer s H E).nox (w4 st) t/\t { nx:=λ _ H'=>Q .non H',rt:=Q } (N8 N vs) H):FnOk P w K mg base E4 (k+1) f fd ps sp:=by
 obtain ⟨oc,od,kV,doc,pm,an,cdv,ct,osl,rfl,lk,hcd⟩:=F.ex;refine a8M lk hcd S len λ A outer s H vs Q E hr hsp=>?_;obtain ⟨t,h,q⟩:=hbody cdv A outer s H vs Q E hr hsp;exact ⟨t,h.nox,q⟩
theorem Fun.binds {x qual:Str} {st:Stmt} {f:Addr} {fd:FuncData} {ps:List Str} (F:Fun K x qual st f fd)
  (h:∀ (kV doc pm:Value) (an:Option Addr) (cdv ct:Value) (us:List Value),us.length=ps.length->bindArgs (W.fnOf x qual (F0 st) (w4 st) (i8 st) .none kV doc pm an cdv ct) ⟨us,[]⟩=pure (ps.zip us)):Binds K fd ps []:=by
 obtain ⟨oc,od,kV,doc,pm,an,cdv,ct,osl,rfl,lk,hcd⟩:=F.ex;exact .all (h kV doc pm an cdv ct)
theorem a8y {x qual:Str} {st:Stmt} {f:Addr} {oc:Value} {od an:Option Addr} {osl:Array (Option Value)} {kV doc pm cdv ct:Value} (l:K.lookup f=some ⟨oc,od,.func (W.fnOf x qual (F0 st) (w4 st) (i8 st) .none kV doc pm an cdv ct),osl⟩)
  (c:W.codeIn K cdv qual=true) (k:W.keepIn K (.ref f)=true):Fun K x qual st f (W.fnOf x qual (F0 st) (w4 st) (i8 st) .none kV doc pm an cdv ct):=⟨⟨oc,od,kV,doc,pm,an,cdv,ct,osl,rfl,l,c⟩,k⟩
end
theorem m8 {n:Nat} (h:n<=1000):n<sizeLine:=cC h (by decide)
section
variable {X:Cx}
theorem pv (i:Nat) {x:Str} {pos:Pos} (hN:X.N[i]?=some x:=by rfl) (hv:Vis X.env.scope x:=by first | exact aC rfl | exact dH (aC rfl) | exact dH (dH rfl)) (hd:(x==("__debug__":Str))=false:=by decide)
  (hcd:(x==("__classdict__":Str))=false:=by decide):PE X (.Name x pos) (a4t i):=b2B hN hv hd hcd
end
theorem a0c {A B:Prop} (h:B):if false=true then A else B:=by
 rw [if_neg bW];exact h
theorem Q9 {A B:Prop} (h:A):if true=true then A else B:=by
 rw [if_pos rfl];exact h
theorem D0 {c A B:Prop} [Decidable c] (h1:c->A) (h2:¬ c->B):if c then A else B:=by
 by_cases h:c
 ·rw [if_pos h]
  exact h1 h
 ·rw [if_neg h]
  exact h2 h
theorem b3m {c A B:Prop} [Decidable c] (hc:c) (h:B):if (!decide c)=true then A else B:=by
 rw [decide_eq_true hc];exact a0c h
def Same (H H':Hp):Prop:=∀ b o,H b=some o->H' b=some o
theorem Same.refl (H:Hp):Same H H:=λ _ _ h=>h
theorem Same.trans {H H1 H2:Hp} (a:Same H H1) (b:Same H1 H2):Same H H2:=λ c o h=>b c o (a c o h)
theorem Same.free {H H':Hp} (e:Same H H') {l:Addr} (h:H' l=jK):H l=jK:=by
 cases q:H l with
 | none=>rfl
 | some o =>
  rw [e l o q] at h
  cases h
theorem Same.seq {K:W.Frag} {H H':Hp} {a:Addr} {xs:List V} (e:Same H H') (h:SqL K H a xs):SqL K H' a xs:=by
 rcases h with (h | ⟨o,h⟩) | h
 ·exact .inl (.inl (e _ _ h))
 ·exact .inl (.inr ⟨o,e _ _ h⟩)
 ·exact .inr h
def clo (env:Env):List (Str×NameKind)->List (Str×Addr)->List (Str×Addr)
 | [],cs=>cs
 | (n,k)::r,cs=>if k==.free then (match env.cells.lookup n with | some a=>clo env r ((n,a)::cs) | none=>clo env r cs) else clo env r cs
theorem E6 {scope:Scope} {env:Env} (h:∀ n,(n,NameKind.free)∈scope.names->∃ c,env.cells.lookup n=some c):closureFor scope env=pure (clo env scope.names []):=by
 simp only [closureFor];generalize ([]:List (Str×Addr))=cs
 revert h
 generalize scope.names=l;intro h
 induction l generalizing cs with
 | nil=>rfl
 | cons x r ih =>
  obtain ⟨n,k⟩:=x;have hr:∀ n,(n,NameKind.free)∈r->∃ c,env.cells.lookup n=some c:=λ n hn=>h n (bL _ hn)
  by_cases hk:k=.free
  ·subst hk
   obtain ⟨c,hc⟩:=h n cG;have q:=ih ((n,c)::cs) hr;simp only [eL,clo,hc,beq_self_eq_true,if_true,cellOf];exact q
  ·have hb:(k==NameKind.free)=false:=by simpa using hk
   have q:=ih cs hr;simp only [eL,clo,hb,gL,if_false];exact q
theorem a0H {env:Env} {x:Str} {c:Addr}:∀ {l:List (Str×NameKind)} {cs:List (Str×Addr)},(∀ x c,cs.lookup x=some c->env.cells.lookup x=some c)->(clo env l cs).lookup x=some c->env.cells.lookup x=some c
 | [],_,h,e=>h x c e
 | (n,k)::r,cs,h,e=>by
  unfold clo at e
  by_cases hk:(k==NameKind.free)=true
  ·rw [if_pos hk] at e
   cases q:env.cells.lookup n with
   | none=>rw [q] at e; exact a0H h e
   | some a =>
    rw [q] at e;refine a0H (cs:=(n,a)::cs) (λ y d z=>?_) e;rw [dB] at z
    cases hy:y==n with
    | true =>
     rw [hy] at z;have:y=n:=by simpa using hy
     subst this;rw [q]; exact z
    | false=>rw [hy] at z; exact h y d z
  ·rw [if_neg hk] at e
   exact a0H h e
theorem a1D {env:Env} {x:Str} {c:Addr}:∀ {l:List (Str×NameKind)} {cs:List (Str×Addr)},(x,c)∈clo env l cs->(env.cells.lookup x=some c/\(x,NameKind.free)∈l)\/(x,c)∈cs
 | [],_,e=>.inr e
 | (n,k)::r,cs,e=>by
  unfold clo at e
  by_cases hk:(k==NameKind.free)=true
  ·rw [if_pos hk] at e
   have hk':k=.free:=by simpa using hk
   cases q:env.cells.lookup n with
   | none =>
    rw [q] at e;exact (a1D e).imp (λ z=>⟨z.1,bL _ z.2⟩) id
   | some a =>
    rw [q] at e;rcases a1D (cs:=(n,a)::cs) e with z | z
    ·exact .inl ⟨z.1,bL _ z.2⟩
    ·rcases aJ.mp z with z | z
     ·cases z
      exact .inl ⟨q,by rw [hk']; exact cG⟩
     ·exact .inr z
  ·rw [if_neg hk] at e
   exact (a1D e).imp (λ z=>⟨z.1,bL _ z.2⟩) id
theorem x0:∀ (names:List (Str×NameKind)) (n:Nat) (acc:List (Str×Addr)),cellsFrom n names acc=cellsFrom n names []++acc
 | [],_,_=>rfl
 | (x,k)::r,n,acc=>by
  unfold cellsFrom
  split
  ·rw [x0 r (n+1) ((x,n)::acc),x0 r (n+1) [(x,n)],dM]; rfl
  ·exact x0 r n acc
theorem K3 {x:Str} {c:Addr}:∀ {names:List (Str×NameKind)} {n:Nat},(x,c)∈cellsFrom n names []->(x,NameKind.cell)∈names
 | [],_,e=>by cases e
 | (y,k)::r,n,e=>by
  unfold cellsFrom at e
  by_cases hk:(k==NameKind.cell)=true
  ·rw [if_pos hk,x0] at e
   have hk':k=.cell:=by simpa using hk
   rcases aO.mp e with z | z
   ·exact bL _ (K3 z)
   ·rw [bF] at z
    cases z;rw [hk']; exact cG
  ·rw [if_neg hk] at e
   exact bL _ (K3 e)
theorem R4 {x:Str}:∀ {names:List (Str×NameKind)} {n:Nat},(x,NameKind.cell)∈names->∃ c,(x,c)∈cellsFrom n names []
 | (y,k)::r,n,e=>by
  unfold cellsFrom;rcases aJ.mp e with z | z
  ·cases z
   rw [if_pos (by rfl),x0];exact ⟨n,bN _ cG⟩
  ·split
   ·rw [x0]
    obtain ⟨c,hc⟩:=R4 (n:=n+1) z;exact ⟨c,dN _ hc⟩
   ·exact R4 z
theorem a2n {α:Type} {x:Str}:∀ {l₁ l₂:List (Str×α)},(l₁++l₂).lookup x=match l₁.lookup x with | some c=>some c | none=>l₂.lookup x
 | [],_=>rfl
 | (n,c)::r,l₂=>by
  rw [cQ,dB,dB]
  cases hx:x==n with
  | true=>rfl
  | false=>exact a2n (l₁:=r)
theorem a0j {α:Type} {x:Str} {c:α}:∀ {l:List (Str×α)},(x,c)∈l->∃ c',l.lookup x=some c'
 | (n,d)::r,h=>by
  rw [dB]
  cases hx:x==n with
  | true=>exact ⟨d,rfl⟩
  | false =>
   rcases aJ.mp h with z | z
   ·cases z; simp at hx
   ·exact a0j z
theorem Z5 {env:Env} {x:Str}:∀ {l:List (Str×NameKind)} {cs:List (Str×Addr)},(∃ c,cs.lookup x=some c)->∃ c,(clo env l cs).lookup x=some c
 | [],_,h=>h
 | (n,k)::r,cs,h=>by
  unfold clo
  split
  ·split
   ·refine Z5 ?_
    rw [dB]
    cases hy:x==n with
    | true=>exact ⟨_,rfl⟩
    | false=>exact h
   ·exact Z5 h
  ·exact Z5 h
theorem Z4 {env:Env} {x:Str} (hx:∃ c,env.cells.lookup x=some c):∀ {l:List (Str×NameKind)} {cs:List (Str×Addr)},(x,NameKind.free)∈l->∃ c,(clo env l cs).lookup x=some c
 | (n,k)::r,cs,h=>by
  rcases aJ.mp h with e | e
  ·cases e
   obtain ⟨c,hc⟩:=hx;unfold clo;rw [if_pos (by rfl),hc];refine Z5 ⟨c,?_⟩;simp [dB]
  ·unfold clo
   split
   ·split
    ·exact Z4 hx e
    ·exact Z4 hx e
   ·exact Z4 hx e
def R5 (env:Env) (scope:Scope) (C:Addr):List (Str×Addr):=cellsFrom (C+1) scope.names (clo env scope.names [])
theorem E9 {env:Env} {scope:Scope} {C:Addr} {x:Str} {c:Addr} (h:(R5 env scope C).lookup x=some c) :
  ((x,c)∈cellsFrom (C+1) scope.names []/\(x,NameKind.cell)∈scope.names)\/(env.cells.lookup x=some c/\(x,NameKind.free)∈scope.names):=by
 have m:=mem_of_lookup h;unfold R5 at m;rw [x0] at m;rcases aO.mp m with z | z
 ·exact .inl ⟨z,K3 z⟩
 ·rcases a1D z with y | y
  ·exact .inr y
  ·cases y
theorem a1r {env:Env} {scope:Scope} {C:Addr} {x:Str} (hx:∃ c,env.cells.lookup x=some c) (hf:(x,NameKind.free)∈scope.names) (hn:(x,NameKind.cell) ∉ scope.names):(R5 env scope C).lookup x=env.cells.lookup x:=by
 obtain ⟨c,hc⟩:=Z4 (env:=env) (cs:=[]) hx hf;have hc':=a0H (env:=env) (λ _ _ z=>by simp at z) hc;unfold R5;rw [x0,a2n]
 cases q:(cellsFrom (C+1) scope.names []).lookup x with
 | some d=>exact absurd (K3 (mem_of_lookup q)) hn
 | none=>rw [hc',<- hc]
def blk (X:Cx) (os:List Str) (fr:List Nat) (scope:Scope) (C:Addr) (fp:List Addr) (s₀:Shared) (H₀:Hp):Cx :=
 { X with N:=os++fr.map (λ j=>X.N.getD j ""),s₀:=s₀,H₀:=H₀,env:=compEnvC scope (R5 X.env scope C) C X.env,outer:=X.stack,ex:=fp,fn:=λ x=>scope.names.lookup x==some .cell,pn:=[],xe:=λ _ _=>False }
def frv (fr:List Nat) (σ:St):St:=fr.map λ j=>(σ[j]?).join
def blkσ (n:Nat) (fr:List Nat) (σ:St):St:=aG n none++frv fr σ
def Wk (σ0 σ2:St):Prop:=σ2.length=σ0.length/\∀ (i:Nat) v,σ0[i]?=some (some v)->σ2[i]?=some (some v)
def a0G (outer:Scope) (scope:Scope) (N:List Str) (fr:List Nat):Bool :=
 (scope.names.all λ p=>(scope.names.lookup p.1==some p.2)&&(p.2 != .free || outer.names.lookup p.1==some .cell)) &&
 (fr.all λ j=>decide (j<N.length)&&(outer.names.lookup (N.getD j "")==some .cell)&&(scope.names.lookup (N.getD j "")==some .free))
theorem G6 {x:Str} {k:NameKind}:∀ {l:List (Str×NameKind)},l.lookup x=some k->(x,k)∈l
 | (n,j)::r,h=>by
  rw [dB] at h
  cases hx:x==n with
  | true =>
   rw [hx] at h;have:x=n:=by simpa using hx
   subst this
   cases h;exact cG
  | false=>rw [hx] at h; exact bL _ (G6 h)
theorem N9 {env:Env} {x:Str} {k:NameKind}:∀ {names:List (Str×NameKind)},
  (names.map λ (n,k)=>if (k==NameKind.free&&env.scope.kind==.function&&env.kindOf n==some .cell) then (n,NameKind.cell) else (n,k)).lookup x=some k →
  (x,k)∈names\/(x,NameKind.free)∈names
 | [],h=>by simp at h
 | (n,j)::r,h=>by
  rw [aV] at h;dsimp only at h
  by_cases hc:(j==NameKind.free&&env.scope.kind==.function&&env.kindOf n==some .cell)=true
  ·rw [if_pos hc,dB] at h
   have hj:j=.free:=by
    have:=(dO _ _ ▸ (dO _ _ ▸ hc).1).1
    simpa using this
   cases hx:x==n with
   | true =>
    have:x=n:=by simpa using hx
    subst this;subst hj;exact .inr cG
   | false =>
    rw [hx] at h;exact (N9 h).imp (bL _) (bL _)
  ·rw [if_neg hc,dB] at h
   cases hx:x==n with
   | true =>
    rw [hx] at h;have:x=n:=by simpa using hx
    subst this
    cases h;exact .inl cG
   | false =>
    rw [hx] at h;exact (N9 h).imp (bL _) (bL _)
section
variable {X:Cx} {os:List Str} {fr:List Nat} {scope:Scope}
theorem O8 (h:a0G X.env.scope scope X.N fr=true):∀ p∈scope.names,scope.names.lookup p.1=some p.2/\(p.2=.free->X.env.scope.names.lookup p.1=some .cell):=λ p hp=>by
 have q:=fY.mp (dO _ _ ▸ h).1 p hp;simp only [dO,bne_iff_ne,Bool.or_eq_true,beq_iff_eq,ne_eq] at q;refine ⟨q.1,λ e=>?_⟩;rcases q.2 with z | z
 ·exact absurd e z
 ·exact z
theorem a5I (h:a0G X.env.scope scope X.N fr=true) {x:Str} {a b:NameKind} (ha:(x,a)∈scope.names) (hb:(x,b)∈scope.names):a=b:=by
 have h1:=(O8 h _ ha).1;have h2:=(O8 h _ hb).1;rw [h1] at h2;exact aL h2
theorem b1w (h:a0G X.env.scope scope X.N fr=true):∀ j∈fr,j<X.N.length/\X.env.scope.names.lookup (X.N.getD j "")=some .cell/\scope.names.lookup (X.N.getD j "")=some .free:=λ j hj=>by
 have q:=fY.mp (dO _ _ ▸ h).2 j hj;simp only [dO,beq_iff_eq,decide_eq_true_eq] at q;exact ⟨q.1.1,q.1.2,q.2⟩
theorem U4 {pins:List (Addr×Obj)} {σ:St} {H:Hp} {s:Shared} (I:Inv X pins σ H s) (h:a0G X.env.scope scope X.N fr=true):∀ n,(n,NameKind.free)∈scope.names->∃ c,X.env.cells.lookup n=some c:=λ n hn =>
 I.ok.has n (.inl ((O8 h _ hn).2 rfl))
theorem Inv.block {pins:List (Addr×Obj)} {σ:St} {H:Hp} {s:Shared} {fp:List Addr} {h₁:Heap} {t':Nat} (I:Inv X pins σ H s) (hk:scope.kind=.function) (h:a0G X.env.scope scope X.N fr=true)
  (hf:∀ b∈fp,U7 X pins H b) (ho:∀ b∈fp,∃ o,s.heap.get? b=some o) (hns:h₁.Ns s.heap.objs.size λ _=>none) (hkeep:∀ b o,s.heap.get? b=some o->h₁.get? b=some o)
  (hcl:CellsOk h₁ (s.heap.objs.size+1) (cellsFrom (s.heap.objs.size+1) scope.names [])) :
  Inv (blk X os fr scope s.heap.objs.size fp s H) [] (blkσ os.length fr σ) H { s with heap:=h₁,toks:=t' } where
 ok:={
  mod:=I.ok.mod
  kind:=hk
  glob:=I.ok.glob
  blt:=I.ok.blt
  above:=aF _
  inj:=λ x y c e1 e2=>by
   have old:∀ {z:Str},X.env.cells.lookup z=some c->c<s.heap.objs.size:=λ {z} e=>by
    obtain ⟨v,q⟩:=I.cell z c e;exact q.lt
   rcases E9 e1 with z1 | z1 <;> rcases E9 e2 with z2 | z2
   ·exact name_of_addr hcl.apart z1.1 z2.1
   ·exact absurd (aR (fZ (old z2.1)) (hcl.empty _ _ z1.1).2) (bJ _)
   ·exact absurd (aR (fZ (old z1.1)) (hcl.empty _ _ z2.1).2) (bJ _)
   ·exact I.ok.inj x y c z1.1 z2.1
  has:=λ x hx=>by
   have hm:(x,NameKind.cell)∈scope.names\/(x,NameKind.free)∈scope.names:=by
    rcases hx with e | e
    ·exact N9 e
    ·rcases N9 e with z | z
     ·exact .inr z
     ·exact .inr z
   rcases hm with z | z
   ·obtain ⟨c,hc⟩:=R4 (n:=s.heap.objs.size+1) z
    refine a0j (c:=c) ?_
    show (x,c)∈R5 _ _ _
    unfold R5;rw [x0];exact dN _ hc
   ·obtain ⟨c,hc⟩:=U4 I h x z
    refine ⟨c,?_⟩
    show (R5 _ _ _).lookup x=_
    rw [a1r ⟨c,hc⟩ z (λ w=>by cases a5I h z w)];exact hc
  cab:=λ x c hx e=>by
   have hx':scope.names.lookup x=some .cell:=by simpa using (show (scope.names.lookup x==some .cell)=true from hx)
   rcases E9 e with z | z
   ·exact cO (jL (hcl.empty _ _ z.1).2)
   ·cases a5I h (G6 hx') z.2
  hd:=I.ok.hd
  frames:=I.ok.frames
  stk:=.inl rfl
  exf:=λ b hb=>by
   obtain ⟨o,e⟩:=ho b hb;refine ⟨Nat.ne_of_lt (Heap.lt_size e),λ x c e1=>?_⟩;rcases E9 e1 with z | z
   ·intro w
    have:=(hcl.empty _ _ z.1).2;rw [w] at this;exact absurd (aR (fZ (Heap.lt_size e)) this) (bJ _)
   ·exact (hf b hb).2.2.2.2.1 x c z.1
  bs:=I.bs
  bsz:=aW I.ok.bsz I.sz
  noex:=λ b o e hb=>by
   rcases (hf b hb).2.2.2.1 with z | z
   ·exact I.ok.noex b o e z
   ·exact absurd (aR (Heap.lt_size e) (aW I.ok.bsz z)) (bJ _)
  exfs:=λ b hb hz=>by
   rcases aJ.mp (I.stkSub b hz) with e | e
   ·exact (hf b hb).2.1 e
   ·exact (hf b hb).2.2.1 e
  funs:=I.stack
  frf:=I.stkFree }
 os:=rfl
 bare:=I.bare
 base:=Un.kept hkeep
 loc:=by
  refine ⟨_,hns,λ i x v e1 e2 _=>?_⟩;have hi:os.length<=i:=by
   refine iA λ hlt=>?_;unfold blkσ at e2;rw [bO (by simpa using hlt)] at e2;rw [dL] at e2
   split at e2 <;> cases e2
  have e1':(fr.map λ j=>X.N.getD j "")[i - os.length]?=some x:=by
   rw [<- bZ (l₁:=os) hi]; exact e1
  have e2':(fr.map λ j=>(σ[j]?).join)[i - os.length]?=some (some v):=by
   have z:(aG os.length (none:Option V)).length<=i:=by simpa using hi
   unfold blkσ at e2;rw [bZ z,bP] at e2;exact e2
  rw [aD] at e1' e2'
  cases q:fr[i - os.length]? with
  | none=>rw [q] at e1'; cases e1'
  | some j =>
   rw [q] at e1' e2';have hj:j∈fr:=bS q;obtain ⟨hjl,hjc,hjf⟩:=b1w h j hj;have ex:X.N.getD j ""=x:=aL e1';have ev:(σ[j]?).join=some v:=aL e2';have hN:X.N[j]?=some x:=by
    rw [<- ex,aI,aH hjl]; rfl
   have hσ:σ[j]?=some (some v):=by
    cases r:σ[j]? with
    | none=>rw [r] at ev; cases ev
    | some y=>rw [r] at ev; exact congrArg some ev
   rw [ex] at hjc hjf;obtain ⟨m,_,hl⟩:=I.loc;obtain ⟨u,r,lk⟩:=hl j x v hN hσ (.inr (.inl hjc));refine ⟨u,r,?_⟩;have kc:Env.kindOf X.env x=some .cell:=hjc;rcases lk with ⟨k1,_⟩ | ⟨_,c,ec,z⟩
   ·rw [kc] at k1; cases k1
   ·have hfm:=G6 hjf
    have ec':(R5 X.env scope s.heap.objs.size).lookup x=some c:=by
     rw [a1r ⟨c,ec⟩ hfm (λ w=>by cases a5I h hfm w)]; exact ec
    refine .inr ⟨?_,c,ec',?_⟩
    ·have kk:∀ {names:List (Str×NameKind)},names.lookup x=some .free->(names.map λ (n,k)=>if (k==NameKind.free&&X.env.scope.kind==.function&&X.env.kindOf n==some .cell) then (n,NameKind.cell) else (n,k)).lookup x=some .cell:=by
      intro names
      induction names with
      | nil=>intro e; simp at e
      | cons p r ih =>
       obtain ⟨n,k⟩:=p;intro e;rw [dB] at e;rw [aV];dsimp only
       cases hx:x==n with
       | true =>
        rw [hx] at e
        cases e;have hxn:x=n:=by simpa using hx
        subst hxn;rw [if_pos (by rw [I.ok.kind,kc]; rfl),dB];simp
       | false =>
        rw [hx] at e
        by_cases hc:(k==NameKind.free&&X.env.scope.kind==.function&&X.env.kindOf n==some .cell)=true
        ·rw [if_pos hc,dB,hx]; exact ih e
        ·rw [if_neg hc,dB,hx]; exact ih e
     exact .inl (kk hjf)
    ·obtain ⟨o,ho',hd⟩:=z
     exact ⟨o,hkeep _ _ ho',hd⟩
 cell:=λ x c e=>by
  rcases E9 e with z | z
  ·exact ⟨_,(hcl.empty _ _ z.1).1⟩
  ·obtain ⟨v,o,ho',hd⟩:=I.cell x c z.1
   exact ⟨v,o,hkeep _ _ ho',hd⟩
 free:=I.hok.fresh (aF _)
 freeC:=λ x c e=>by
  rcases E9 e with z | z
  ·exact I.hok.fresh (cO (jL (hcl.empty _ _ z.1).2))
  ·exact I.freeC x c z.1
 pin:=λ p hp=>nomatch hp
 hok:=I.hok.kept hkeep
 len:=by simp [blkσ,frv,blk]
theorem Inv.unblock {pins:List (Addr×Obj)} {σ σ':St} {H H':Hp} {s s':Shared} {fp:List Addr} {C:Addr} (I:Inv X pins σ H s) (hf:∀ b∈fp,U7 X pins H b) (J:Inv (blk X os fr scope C fp s H) [] σ' H' s'):Inv X pins σ H' s' :=
 I.call' J.os J.base J.hok J.bare λ b hb=>⟨(hf b hb).2.2.2.1,(hf b hb).2.1,(hf b hb).2.2.2.2.1,(hf b hb).2.2.2.2.2⟩
theorem Inv.letgo {pins:List (Addr×Obj)} {σ:St} {H H₀:Hp} {s s₀:Shared} {C:Addr} {h':Heap} (I₀:Inv X pins σ₀ H₀ s₀) (I:Inv X pins σ H s) (hn:H C=none) (hC:s₀.heap.objs.size<=C) (hs:Heap.SameBut C s.heap h'):Inv X pins σ H { s with heap:=h' } :=
 I.turned (t':=s.toks) (it:=C) (λ b o hb e=>(hs.2 b hb).trans e) hn (cP (aR I₀.lt hC)) (.inr (aW I₀.sz hC))
  (λ x c e z=>by
   obtain ⟨v,q⟩:=I₀.cell x c e;exact absurd (aR q.lt (by rw [z]; exact hC)) (bJ _))
  λ p hp z=>absurd (aR (Heap.lt_size (I₀.pin p hp).1) (by rw [z]; exact hC)) (bJ _)
end
def b1U (X:Cx) (ifs:List Expr) (t:TT):Prop :=
 ∀ (pins:List (Addr×Obj)) (s:Shared) (σ:St) (H:Hp) (Q:Bool->Hp->Prop),Inv X pins σ H s->t σ H Q →
  wpAny (model X.prog X.w) X.A (forIn ifs true λ c r=>if r=true then do let ok <- isTrue c X.env (eval c X.env); pure (gM ok) else pure (gM r)) (TP X pins σ Q) X.xe s
def a8D:TT:=λ _ H Q=>Q true H
theorem a4R {X:Cx}:b1U X [] a8D:=λ _ _ _ H _ I h=>wpAny_tests_nil ⟨H,I,h⟩
theorem a4y {X:Cx} {c:Expr} {t:TT} (h:PT X c t):b1U X [c] t:=λ pins s σ H Q I q=>wpAny_tests_one (h pins s σ H Q I q)
theorem a3C {M:Model} {A:Around} {E:Value->Shared->Prop} {s:Shared} {scope:Scope} {globals:Addr} {closure:List (Str×Addr)} {qual:Str} {env:Env} {Q:Env->Shared->Prop}
  (hQ:Q { scope,locals:=s.heap.objs.size,globals,cells:=cellsFrom (s.heap.objs.size+1) scope.names closure,qual,func:=none,code:=env.code,frame:=env.frame,builtins:=env.builtins } { s with heap:=pushCells (s.heap.push { cls:=.type "dict",data:=.dict #[] }) scope.names }) :
  wpAny M A (newFunctionEnv scope globals closure [] qual none .none (some env)) Q E s:=by
 simp only [newFunctionEnv,Option.isSome_some,if_true];refine wpAny_bind (wpAny_alloc ?_);refine wpAny_bind (wpAny_layCells _ (λ name kind cells=>by cases hkc:kind==NameKind.cell <;> simp [hkc]) _ _ _ _ ?_);rw [show ({ s with heap:=s.heap.push { cls:=.type "dict",data:=.dict #[] } }:Shared).heap.objs.size=s.heap.objs.size+1 from Heap.size_push ..];simp only [eZ];exact wpAny_bind (wpAny_pure (wpAny_pure hQ))
theorem a3P {prog:Program} {w:World} {A:Around} {R:Result->Shared->Prop} {s:Shared} {elt target iter:Expr} {ifs:List Expr} {scope:Scope} {pos:Pos} {it acc:Value} {env:Env} (I:Nat->Shared->Prop)
  (turn:∀ n s,I n s->wpAny (model prog w) A (pyNext it) (λ r s₁=>match r with
   | none=>R (.ok .next) s₁
   | some v=>wpAny (model prog w) A (letOwnedTupleGo target it v) (λ _ s₀=>wpAny (model prog w) A (assign target env v) (λ _ s₂ =>
     wpAny (model prog w) A (forIn ifs true λ c r=>if r=true then do let ok <- isTrue c env (eval c env); pure (gM ok) else pure (gM r)) (λ ok s₃ =>
      if ok=true then wpAny (model prog w) A (eval elt env) (λ x s₄ =>
       wpAny (model prog w) A (call (.builtin "list.append") [acc,x]) (λ _ s₅=>∃ m,m<n/\I m s₅) (λ _ _=>False) s₄) (λ _ _=>False) s₃
      else ∃ m,m<n/\I m s₃) (λ _ _=>False) s₂) (λ _ _=>False) s₀) (λ _ _=>False) s₁) (λ _ _=>False) s)
  (n:Nat) (h:I n s) :
  codeAny (model prog w) A (.compLoop (.ListComp elt [⟨target,iter,ifs,0⟩] scope pos) 0 it acc env) R s:=by
 refine codeAny_loop rfl I (λ n s hI=>?_) n h
 show wpAny _ A ((compTurn (.ListComp elt [⟨target,iter,ifs,0⟩] scope pos) 0 it acc env).onRaise (λ x=>do noteFrame x env; theTreesLotGoes x)) _ _ s
 refine wpAny_noted ?_;rw [compTurn_list];refine wpAny_bind (wpAny_standAt (wpAny_bind (wpAny_mono (turn n s hI) (λ r s₁ h₁=>?_) λ _ _ h'=>h'.elim)))
 cases r with
 | none=>exact wpAny_pure h₁
 | some v =>
  refine wpAny_bind (wpAny_mono h₁ (λ _ s₀ h₀=>?_) λ _ _ h'=>h'.elim);refine wpAny_bind (wpAny_mono h₀ (λ _ s₂ h₂=>wpAny_bind (wpAny_mono h₂ (λ ok s₃ h₃=>?_) λ _ _ h'=>h'.elim)) λ _ _ h'=>h'.elim)
  cases ok with
  | false=>exact wpAny_pure ⟨rfl,h₃⟩
  | true =>
   exact wpAny_bind (wpAny_bind (wpAny_mono h₃ (λ x s₄ h₄=>wpAny_bind (wpAny_mono h₄ (λ _ s₅ h₅=>wpAny_pure (wpAny_pure ⟨rfl,h₅⟩)) λ _ _ h'=>h'.elim)) λ _ _ h'=>h'.elim))
def lcW (n:Nat) (fr:List Nat) (g:TG) (te:TE) (σ:St) (J:It) (H1:Hp) (p:Addr) (D:Hp->Prop):Prop :=
 ∃ W:Nat->Nat->List V->Hp->Prop,(∃ m,W 0 m [] (r6 H1 p (.lst [])))/\∀ i m ys H,W i m ys H →
  (J.stop i H/\D H)\/(J.go i H/\∀ x H',J.yld i H x H'->g x (blkσ n fr σ) H' λ σ2 H2=>Wk (blkσ n fr σ) σ2/\te σ2 H2 λ v H3=>H3 p=some (.lst ys)/\ys.length<sizeLine/\∃ m',m'<m/\W (i+1) m' (ys++[v]) (r6 H3 p (.lst (ys++[v]))))
def tLC (n:Nat) (fr:List Nat) (wi:TI) (g:TG) (te:TE):TE:=λ σ H Q=>wi σ H λ J H1=>∀ p,H1 p=none->lcW n fr g te σ J H1 p (Q (.ref p))
def lcI (n:Nat) (fr:List Nat) (g:TG) (tc:TT) (te:TE) (σ:St) (J:It) (H1:Hp) (p:Addr) (D:Hp->Prop):Prop :=
 ∃ W:Nat->Nat->List V->Hp->Prop,(∃ m,W 0 m [] (r6 H1 p (.lst [])))/\∀ i m ys H,W i m ys H →
  (J.stop i H/\D H)\/(J.go i H/\∀ x H',J.yld i H x H'->g x (blkσ n fr σ) H' λ σ2 H2=>Wk (blkσ n fr σ) σ2/\tc σ2 H2 λ ok H2' =>
   if ok=true then te σ2 H2' λ v H3=>H3 p=some (.lst ys)/\ys.length<sizeLine/\∃ m',m'<m/\W (i+1) m' (ys++[v]) (r6 H3 p (.lst (ys++[v]))) else ∃ m',m'<m/\W (i+1) m' ys H2')
def b3J (n:Nat) (fr:List Nat) (wi:TI) (g:TG) (tc:TT) (te:TE):TE:=λ σ H Q=>wi σ H λ J H1=>∀ p,H1 p=none->lcI n fr g tc te σ J H1 p (Q (.ref p))
theorem a4F {n:Nat} {fr:List Nat} {g:TG} {te:TE} {σ:St} {J:It} {H1:Hp} {p:Addr} {D:Hp->Prop}:lcI n fr g a8D te σ J H1 p D=lcW n fr g te σ J H1 p D:=by
 unfold lcI lcW a8D;simp only [if_true]
section
variable {X:Cx} {os:List Str} {fr:List Nat} {scope:Scope} {elt tg iter:Expr} {pos:Pos} {wi:TI} {g:TG} {te:TE}
theorem a0C {ifs:List Expr} {tc:TT} {pins:List (Addr×Obj)} {σ:St} {s2:Shared} {D:Addr->Hp->Prop} {itv:Value} {RR:Value->Addr->Result->Shared->Prop}
  (hc:X.calm=true) (hg:∀ C fp s₀ H₀,PG (blk X os fr scope C fp s₀ H₀) tg g) (ht:∀ C fp s₀ H₀,b1U (blk X os fr scope C fp s₀ H₀) ifs tc) (he:∀ C fp s₀ H₀,PE (blk X os fr scope C fp s₀ H₀) elt te)
  (hk:scope.kind=.function) (hok:a0G X.env.scope scope X.N fr=true)
  (h2:PIE X pins σ tg (λ J H1=>∀ p,H1 p=none->lcI os.length fr g tc te σ J H1 p (D p)) itv s2)
  (hRR:∀ p C s3 H3 s' H',Inv X pins σ H3 s3->s3.heap.objs.size=C->H' C=none->Inv X pins σ H' s'->(∃ m,s'.heap.Ns C m)->D p H'->RR (.ref p) C (.ok .next) s') :
  wpAny (model X.prog X.w) X.A (newList []) (λ acc s₃=>wpAny (model X.prog X.w) X.A (newFunctionEnv scope X.env.globals (clo X.env scope.names []) [] X.env.qual none .none (some X.env)) (λ cenv s₄ =>
   codeAny (model X.prog X.w) X.A (.compStart (.ListComp elt [⟨tg,iter,ifs,0⟩] scope pos) 0 itv acc { cenv with scope:=relabel scope X.env }) (RR acc cenv.locals) s₄) X.xe s₃) X.xe s2:=by
 obtain ⟨it,fp,tn,J,H2,e,I2,T,st2,f2,hR⟩:=h2;subst e;refine wpAny_newObj_type ?_;have fresh:H2 s2.heap.objs.size=none:=I2.fresh;obtain ⟨W,⟨m0,w0⟩,turn⟩:=hR s2.heap.objs.size fresh;have I3:Inv X pins σ (r6 H2 s2.heap.objs.size (.lst [])) { s2 with heap:=s2.heap.push { cls:=.type "list",dict:=none,data:=.seq ([]:List Value).toArray } }:=I2.lnew (ys:=[]) (its:=[]) (t':=s2.toks) .nil (bR _);have obj2:=T.obj _ _ st2;have ne2:∀ b∈fp,b≠s2.heap.objs.size:=λ b hb=>by
  obtain ⟨o,e,_⟩:=obj2 b hb;exact bI (Heap.lt_size e)
 have st3:tn 0 (s2.heap.push { cls:=.type "list",dict:=none,data:=.seq ([]:List Value).toArray }):=T.keep _ _ _ st2 λ b hb o e=>Heap.get?_push_of_some _ e;have f3:∀ b∈fp,U7 X pins (r6 H2 s2.heap.objs.size (.lst [])) b:=λ b hb=>⟨by rw [c9 (ne2 b hb)]; exact (f2 b hb).1,(f2 b hb).2⟩;generalize hs3:({ s2 with heap:=s2.heap.push { cls:=.type "list",dict:=none,data:=.seq ([]:List Value).toArray } }:Shared)=s3 at I3 ⊢;have st3':tn 0 s3.heap:=by rw [<- hs3]; exact st3
 generalize s2.heap.objs.size=p at *;refine a3C ?_;have hns:(pushCells (s3.heap.push { cls:=.type "dict",data:=.dict #[] }) scope.names).Ns s3.heap.objs.size λ _=>none:=(Heap.Ns.new s3.heap (.type "dict")).keeps (pushCells_keeps _ _);have hkeep:∀ b o,s3.heap.get? b=some o->(pushCells (s3.heap.push { cls:=.type "dict",data:=.dict #[] }) scope.names).get? b=some o:=λ b o e=>pushCells_keeps _ _ b o (Heap.get?_push_of_some _ e);have hcl:=cellsFrom_ok scope.names (s3.heap.push { cls:=.type "dict",data:=.dict #[] }) (s3.heap.objs.size+1) [] ⟨λ _ _ hm=>(nomatch hm),mJ⟩ (by rw [Heap.size_push]; exact aF _);rw [Heap.size_push] at hcl;generalize pushCells (s3.heap.push { cls:=.type "dict",data:=.dict #[] }) scope.names=h₁ at hns hkeep hcl ⊢;have obj3:∀ b∈fp,∃ o,s3.heap.get? b=some o:=λ b hb=>by
  obtain ⟨o,e,_⟩:=T.obj _ _ st3' b hb;exact ⟨o,e⟩
 have J0:=I3.block (os:=os) (t':=s3.toks) hk hok f3 obj3 (h₁:=h₁) hns hkeep hcl;have ok0:=J0.ok;have fpY:∀ {H':Hp},(∀ b∈fp,H' b=none)->∀ b∈fp,U7 (blk X os fr scope s3.heap.objs.size fp s3 (r6 H2 p (.lst []))) [] H' b:=λ hn b hb =>
  ⟨hn b hb,(ok0.exf b hb).1,ok0.exfs b hb,.inl hb,(ok0.exf b hb).2,λ q hq=>nomatch hq⟩
 have st4:tn 0 h₁:=T.keep _ _ _ st3' λ b hb o e=>hkeep b o e;have fr0:∀ b∈fp,r6 H2 p (.lst []) b=none:=λ b hb=>(f3 b hb).1;have loop:∀ s4:Shared,s4={ s3 with heap:=h₁,toks:=s3.toks } →
   codeAny (model X.prog X.w) X.A (.compLoop (.ListComp elt [⟨tg,iter,ifs,0⟩] scope pos) 0 (.ref it) (.ref p) (compEnvC scope (R5 X.env scope s3.heap.objs.size) s3.heap.objs.size X.env)) (RR (.ref p) s3.heap.objs.size) s4:=by
  rintro s4 rfl;refine a3P (λ n s'=>∃ i ys H',Inv (blk X os fr scope s3.heap.objs.size fp s3 (r6 H2 p (.lst []))) [] (blkσ os.length fr σ) H' s'/\tn i s'.heap/\(∀ b∈fp,H' b=none)/\W i n ys H') ?_ m0 ⟨0,[],_,J0,st4,fr0,w0⟩;rintro n s5 ⟨i,ys,H5,I5,st5,fr5,w5⟩;rcases turn i n ys H5 w5 with ⟨stop,qd⟩ | ⟨go,step⟩
  ·refine A8 (T.done (blk X os fr scope s3.heap.objs.size fp s3 (r6 H2 p (.lst []))) rfl rfl rfl hc i [] s5 _ H5 (λ _ _=>False) I5 (fpY fr5) st5 stop) λ r s6 ⟨hr,I6⟩=>?_
   subst hr;exact hRR p _ s3 _ s6 H5 I3 rfl I6.free (I3.unblock f3 I6) (let ⟨m,hm,_⟩:=I6.loc; ⟨m,hm⟩) qd
  ·refine A8 (T.item (blk X os fr scope s3.heap.objs.size fp s3 (r6 H2 p (.lst []))) rfl rfl rfl hc i [] s5 _ H5 (λ _ _=>False) I5 (fpY fr5) st5 go) λ r s6 ⟨u,hr,h6⟩=>?_
   subst hr;refine A8 h6 λ _ s7 ⟨x,H7,I7,r7,y7,st7,fr7⟩=>?_;have I7':=I7.pinned (fpY fr7) (T.obj _ _ st7);refine A8 (hg _ _ _ _ _ s7 _ H7 x u _ I7' r7 (step x H7 y7)) λ _ s8 ⟨σ8,H8,I8,wk8,q8⟩=>?_;have again:∀ {H':Hp} {s':Shared} {zs:List V} {m':Nat},Inv (blk X os fr scope s3.heap.objs.size fp s3 (r6 H2 p (.lst []))) ([]++a2B fp s7.heap) σ8 H' s'->m'<n->W (i+1) m' zs H' →
     ∃ m,m<n/\∃ i ys H',Inv (blk X os fr scope s3.heap.objs.size fp s3 (r6 H2 p (.lst []))) [] (blkσ os.length fr σ) H' s'/\tn i s'.heap/\(∀ b∈fp,H' b=none)/\W i m ys H':=λ {H' s' zs m'} J' hm' w'=>by
    refine ⟨m',hm',i+1,zs,H',(J'.weak wk8.1.symm λ i v e=>wk8.2 i v e).unpinned,T.keep _ _ _ st7 λ b hb o e=>(J'.pin (b,o) (bN _ (bN _ (T1 hb e)))).1,λ b hb=>?_,w'⟩;obtain ⟨o,e,d⟩:=T.obj _ _ st7 b hb;exact (J'.pin (b,o) (bN _ (bN _ (T1 hb e)))).2.1
   refine A8 (ht _ _ _ _ _ s8 σ8 H8 _ I8 q8) λ ok s9 ⟨H9,I9,q9⟩=>?_
   cases ok with
   | false =>
    obtain ⟨m',hm',w9⟩:=q9;exact again I9 hm' w9
   | true =>
    refine A8 (he _ _ _ _ _ s9 σ8 H9 _ I9 q9) λ y s10 ⟨v,H10,I10,r10,hp10,hz10,m',hm',w10⟩=>?_;refine A8 (J4 (X:=blk X os fr scope s3.heap.objs.size fp s3 (r6 H2 p (.lst []))) _ s10 σ8 H10 (.ref p) [v] (.ref p) [y] (λ _ H'=>H'=r6 H10 p (.lst (ys++[v]))) I10 rfl (.cons r10 .nil) ⟨p,ys,v,rfl,rfl,hp10,hz10,rfl⟩) λ _ s11 ⟨_,H11,I11,_,e11⟩=>?_;subst e11;exact again I11 hm' w10
 exact codeAny_compStart_list (loop _ rfl) (T.self _ 0 _ _ _ st4 (loop _ rfl))
theorem V2 (os:List Str) (fr:List Nat) (hc:X.calm=true) (hi:PI X tg iter wi) (hg:∀ C fp s₀ H₀,PG (blk X os fr scope C fp s₀ H₀) tg g) (he:∀ C fp s₀ H₀,PE (blk X os fr scope C fp s₀ H₀) elt te)
  (hk:scope.kind=.function:=by rfl) (hok:a0G X.env.scope scope X.N fr=true:=by rfl) (hs:∀ x,foldedSetIterable iter X.env x=pure x:=by intro _; rfl) :
  PE X (.ListComp elt [⟨tg,iter,[],0⟩] scope pos) (tLC os.length fr wi g te):=by
 intro pins s σ H Q I h;unfold tLC at h;simp only [<- a4F] at h;rw [eval_ListComp];refine wpAny_comprehension_free (use:=none) rfl hs (E6 (U4 I hok)) hk (λ x hx hl=>by have:=(O8 hok x hx).1; rw [hl] at this; exact this) (A8 (hi pins s σ H _ I h) λ v s1 h1=>A8 h1 λ itv s2 h2=>?_);refine a0C (os:=os) (D:=λ p H'=>Q (.ref p) H') (RR:=λ acc C=>compPost (model X.prog X.w) X.A X.xe none (EP X pins σ Q) acc C) hc hg (λ _ _ _ _=>a4R) he hk hok h2 ?_;intro p C s3 H3 s' H' I3 eC hn I' ⟨m,hm⟩ q;refine ⟨m,hm,λ h' hs'=>⟨.ref p,H',I3.letgo I' hn (by omega) hs',rfl,q⟩⟩
theorem a5B {c:Expr} {tc:TT} (os:List Str) (fr:List Nat) (hc:X.calm=true) (hi:PI X tg iter wi) (hg:∀ C fp s₀ H₀,PG (blk X os fr scope C fp s₀ H₀) tg g) (ht:∀ C fp s₀ H₀,PT (blk X os fr scope C fp s₀ H₀) c tc) (he:∀ C fp s₀ H₀,PE (blk X os fr scope C fp s₀ H₀) elt te)
  (hk:scope.kind=.function:=by rfl) (hok:a0G X.env.scope scope X.N fr=true:=by rfl) (hs:∀ x,foldedSetIterable iter X.env x=pure x:=by intro _; rfl) :
  PE X (.ListComp elt [⟨tg,iter,[c],0⟩] scope pos) (b3J os.length fr wi g tc te):=by
 intro pins s σ H Q I h;rw [eval_ListComp];refine wpAny_comprehension_free (use:=none) rfl hs (E6 (U4 I hok)) hk (λ x hx hl=>by have:=(O8 hok x hx).1; rw [hl] at this; exact this) (A8 (hi pins s σ H _ I h) λ v s1 h1=>A8 h1 λ itv s2 h2=>?_);refine a0C (os:=os) (D:=λ p H'=>Q (.ref p) H') (RR:=λ acc C=>compPost (model X.prog X.w) X.A X.xe none (EP X pins σ Q) acc C) hc hg (λ _ _ _ _=>a4y (ht _ _ _ _)) he hk hok h2 ?_;intro p C s3 H3 s' H' I3 eC hn I' ⟨m,hm⟩ q;refine ⟨m,hm,λ h' hs'=>⟨.ref p,H',I3.letgo I' hn (by omega) hs',rfl,q⟩⟩
theorem V9 {i:Nat} {x:Str} {pos' spos:Pos} (os:List Str) (fr:List Nat) (hN:X.N.Nodup) (hi':X.N[i]?=some x) (hx:X.env.scope.names.lookup x=some .local)
  (hc:X.calm=true) (hi:PI X tg iter wi) (hg:∀ C fp s₀ H₀,PG (blk X os fr scope C fp s₀ H₀) tg g) (he:∀ C fp s₀ H₀,PE (blk X os fr scope C fp s₀ H₀) elt te)
  (hsw:swapsWith (.ListComp elt [⟨tg,iter,[],0⟩] scope pos) (some (.Name x pos')) spos.line X.env=pure true:=by rfl)
  (hk:scope.kind=.function:=by rfl) (hok:a0G X.env.scope scope X.N fr=true:=by rfl) (hs:∀ x,foldedSetIterable iter X.env x=pure x:=by intro _; rfl) :
  PS X (.Assign [.Name x pos'] (.ListComp elt [⟨tg,iter,[],0⟩] scope pos) spos) (a7x (tLC os.length fr wi g te) (J8 i)):=by
 intro pins s σ H D I h;unfold a7x tLC at h;simp only [<- a4F] at h;rw [exec_Assign_Name_used _ _ _ _ hsw];refine wpAny_bind (wpAny_standAt (wpAny_bind ?_))
 show wpAny _ X.A (do let _ <- comprehension (.ListComp elt [⟨tg,iter,[],0⟩] scope pos) scope X.env _ (newList []) false (eval iter X.env) (some (assign (.Name x pos') X.env))) _ _ s
 refine wpAny_bind (wpAny_mono (wpAny_comprehension_free (use:=some (assign (.Name x pos') X.env)) (Q:=λ _ s'=>SP X pins D .next s') rfl hs (E6 (U4 I hok)) hk (λ x hx hl=>by have:=(O8 hok x hx).1; rw [hl] at this; exact this)
  (A8 (hi pins s σ H _ I h) λ v s1 h1=>A8 h1 λ itv s2 h2=>?_)) (λ _ s' hq=>wpAny_pure (wpAny_pure hq)) λ _ _ e=>e)
 refine a0C (os:=os) (D:=λ p H'=>D.nx (σ.set i (some (.ref p))) H') (RR:=λ acc C=>compPost (model X.prog X.w) X.A X.xe (some (assign (.Name x pos') X.env)) (λ _ s'=>SP X pins D .next s') acc C) hc hg (λ _ _ _ _=>a4R) he hk hok h2 ?_;intro p C s3 H3 s' H' I3 eC hn I' ⟨m,hm⟩ q
 show wpAny _ X.A (assign (.Name x pos') X.env (.ref p)) _ _ _
 refine wpAny_assign_Name (a0S (v:=.ref p) I' hN hi' (.inl hx) rfl (λ s'' I'' ⟨a,hsa,ha⟩=>?_) (.inr hx));have hCa:C≠a:=by
  rcases ha with e | e
  ·rw [e]; exact cP (by rw [<- eC]; exact I3.lt)
  ·obtain ⟨v,z⟩:=I3.cell x a e
   exact cP (by rw [<- eC]; exact z.lt)
 exact ⟨m,hm.sameBut hsa hCa,λ h' hs'=>⟨_,H',I3.letgo I'' hn (by omega) hs',q⟩⟩
end
section
variable {X:Cx} {pins:List (Addr×Obj)} {σ:St} {H:Hp} {s:Shared} {a:Addr} {xs:List V}
abbrev SqA (K:W.Frag) (H:Hp) (a:Addr) (xs:List V):Prop:=SqL K H a xs\/SqT K H a xs
theorem a0I {h':Heap} {o:Obj} {h:Heap} (hk:∀ b x,b ∉ [h.objs.size]->(h.push o).get? b=some x->h'.get? b=some x):∀ b x,h.get? b=some x->h'.get? b=some x :=
 λ b x e=>hk b x (λ hm=>by rw [bF.mp hm] at e; exact bJ _ (Heap.lt_size e)) (Heap.get?_push_of_some _ e)
theorem Y2 (hc:X.calm=true) (I:Inv X pins σ H s) (h:SqA X.K H a xs):∃ its:List Value,Vals xs its/\∀ (Q:Value->Shared->Prop) (E:Value->Shared->Prop),
  (∀ (o:Obj) (St:Nat->Heap->Prop),Walks X.prog X.w X.A.in1 s.heap.objs.size [s.heap.objs.size,a] [s.heap.objs.size] its.toArray.size (λ i v=>its.toArray[i]?=some v) St->St 0 (s.heap.push o) →
   (∀ b∈[s.heap.objs.size,a],b<(s.heap.push o).objs.size)->Q (.ref s.heap.objs.size) { s with heap:=s.heap.push o })->wpAny (model X.prog X.w) X.A.in1 (pyIter (.ref a)) Q E s:=by
 have hh:=I.ok.hd hc;have lt2:∀ (o:Obj),a<s.heap.objs.size->∀ b∈[s.heap.objs.size,a],b<(s.heap.push o).objs.size:=λ o hlt b hb=>by
  rw [Heap.size_push];rcases aJ.mp hb with rfl | hb
  ·exact eV _
  ·rw [bF.mp hb]; exact fZ hlt
 rcases h with h | h
 ·obtain ⟨its,r,p,hz⟩:=I.list h
  have hl:=p.isList;have hlt:a<s.heap.objs.size:=by obtain ⟨_,e,_⟩:=hl; exact Heap.lt_size e
  refine ⟨its,r,λ Q E hQ=>wpAny_pyIter_list hl ?_⟩;exact hQ _ _ (Walks.list (A:=X.A.in1) hh _ a (bI hlt) its.toArray) ⟨⟨_,Heap.get?_push_size _ rfl,rfl,rfl⟩,hl.push _⟩ (lt2 _ hlt)
 ·obtain ⟨its,r,p,hz⟩:=I.tuple h
  have hl:s.heap.IsTuple a its.toArray:=p;have hlt:a<s.heap.objs.size:=by obtain ⟨_,e,_⟩:=hl; exact Heap.lt_size e
  refine ⟨its,r,λ Q E hQ=>wpAny_pyIter_tuple hl ?_⟩;exact hQ _ _ (Walks.tuple (A:=X.A.in1) hh _ a (bI hlt) its.toArray) ⟨⟨_,Heap.get?_push_size _ rfl,rfl,rfl⟩,hl.push _⟩ (lt2 _ hlt)
theorem a3S {ys:List V} {its:List Value} (r:Vals ys its) {i:Nat} {v:Value} (e:its.toArray[i]?=some v):∃ y,ys[i]?=some y/\RelV y v:=by
 have e':its[i]?=some v:=by simpa using e
 cases q:ys[i]? with
 | none=>rw [r.none_of q] at e'; cases e'
 | some y =>
  obtain ⟨u,h1,h2⟩:=r.get q;rw [e'] at h1; cases h1;exact ⟨y,rfl,h2⟩
theorem a5R (bs:List Bool):((aE bs.length).all λ i=>(bs[i]?).getD true)=bs.all id:=by
 rw [fK,fY,fY];constructor
 ·intro h b hb
  obtain ⟨i,hi,e⟩:=iF hb;have:=h i (cS.mpr hi);simp only [aH hi,dX,e] at this;exact this
 ·intro h i hi
  have hi':=cS.mp hi;simp only [aH hi',dX];exact h _ (cU hi')
theorem a5Y (bs:List Bool):((aE bs.length).any λ i=>(bs[i]?).getD false)=bs.any id:=by
 rw [fK,iG,iG];constructor
 ·rintro ⟨i,hi,e⟩
  have hi':=cS.mp hi;simp only [aH hi',dX] at e;exact ⟨_,cU hi',e⟩
 ·rintro ⟨b,hb,e⟩
  obtain ⟨i,hi,rfl⟩:=iF hb;exact ⟨i,cS.mpr hi,by simp only [aH hi,dX]; exact e⟩
end
section
variable {X:Cx}
theorem a9y (hc:X.calm=true):G2 X (.builtin "all") (λ vs H Q=>∃ (a:Addr) (bs:List Bool),vs=[.ref a]/\SqA X.K H a (bs.map V.bl)/\Q (.bl (bs.all id)) H):=by
 intro pins s σ H vs us Q I r h;obtain ⟨a,bs,rfl,hs,q⟩:=h;obtain ⟨u,rfl,ru⟩:=O4 r
 cases ru;obtain ⟨its,rv,walk⟩:=Y2 hc I hs;have hlen:its.toArray.size=bs.length:=by rw [aT,<- rv.length,aA]
 refine call_all_walk (walk _ _ λ o St W st fp=>?_);refine ⟨_,_,_,_,_,_,λ i=>(bs[i]?).getD true,rfl,W,st,λ i v s' Q' E' hP hQ=>?_,λ h' tk hk=>?_⟩
 ·obtain ⟨y,e,ry⟩:=a3S rv hP
  rw [aD] at e
  cases eb:bs[i]? with
  | none=>rw [eb] at e; cases e
  | some b =>
   rw [eb] at e; cases e
   cases ry;simp only [eb,dX] at hQ;exact wpAny_truthy_bool hQ
 ·rw [hlen,a5R bs]
  exact ⟨.bl _,H,I.kept (a0I hk),rfl,q⟩
theorem a9b (hc:X.calm=true):G2 X (.builtin "any") (λ vs H Q=>∃ (a:Addr) (bs:List Bool),vs=[.ref a]/\SqA X.K H a (bs.map V.bl)/\Q (.bl (bs.any id)) H):=by
 intro pins s σ H vs us Q I r h;obtain ⟨a,bs,rfl,hs,q⟩:=h;obtain ⟨u,rfl,ru⟩:=O4 r
 cases ru;obtain ⟨its,rv,walk⟩:=Y2 hc I hs;have hlen:its.toArray.size=bs.length:=by rw [aT,<- rv.length,aA]
 refine call_any_walk (walk _ _ λ o St W st fp=>?_);refine ⟨_,_,_,_,_,_,λ i=>(bs[i]?).getD false,rfl,W,st,λ i v s' Q' E' hP hQ=>?_,λ h' tk hk=>?_⟩
 ·obtain ⟨y,e,ry⟩:=a3S rv hP
  rw [aD] at e
  cases eb:bs[i]? with
  | none=>rw [eb] at e; cases e
  | some b =>
   rw [eb] at e; cases e
   cases ry;simp only [eb,dX] at hQ;exact wpAny_truthy_bool hQ
 ·rw [hlen,a5Y bs]
  exact ⟨.bl _,H,I.kept (a0I hk),rfl,q⟩
theorem a0K {ns:List Int} {its:List Value} (rv:Vals (ns.map V.int) its):∀ (i:Nat) (v:Value),its.toArray[i]?=some v->∃ t,v=Value.int (ns.getD i 0) t:=λ i v hP=>by
 obtain ⟨y,e,ry⟩:=a3S rv hP;rw [aD] at e
 cases en:ns[i]? with
 | none=>rw [en] at e; cases e
 | some n =>
  rw [en] at e; cases e;obtain ⟨t,rfl⟩:=ry;exact ⟨t,by rw [aI,en]; rfl⟩
theorem a1o (ns:List Int):∀ j,preSum (λ i=>ns.getD i 0) j=(ns.take j).sum
 | 0=>by simp [preSum]
 | j+1=>by
  rw [preSum,a1o ns j]
  by_cases hj:j<ns.length
  ·rw [jM hj,List.sum_append,aI,aH hj]; simp
  ·rw [fA (by omega),fA (by omega),aI,bK (by omega)]; simp
theorem a4S (hc:X.calm=true):G2 X (.builtin "sum") (λ vs H Q=>∃ (a:Addr) (ns:List Int),vs=[.ref a]/\SqA X.K H a (ns.map V.int)/\Q (.int ns.sum) H):=by
 intro pins s σ H vs us Q I r h;obtain ⟨a,ns,rfl,hs,q⟩:=h;obtain ⟨u,rfl,ru⟩:=O4 r
 cases ru;obtain ⟨its,rv,walk⟩:=Y2 hc I hs;have hlen:its.toArray.size=ns.length:=by rw [aT,<- rv.length,aA]
 refine call_sum_walkG (walk _ _ λ o St W st fp=>?_);refine ⟨_,_,_,_,_,_,λ i=>ns.getD i 0,rfl,W,st,fp,a0K rv,λ h' tk t' hk=>?_⟩;rw [hlen,a1o,fA (aF _)];exact ⟨.int _,H,I.kept (a0I hk),⟨_,rfl⟩,q⟩
theorem a2W {l:List Int} {j:Nat} (h:j<l.length):l.getD j 0∈l:=by
 rw [aI,aH h]; exact cU h
theorem a2Y {l:List Int} {a:Int} (h:a∈l):∃ j,j<l.length/\l.getD j 0=a:=by
 obtain ⟨j,hj,e⟩:=iF h;exact ⟨j,hj,by rw [aI,aH hj]; exact e⟩
theorem a3c (hc:X.calm=true):G2 X (.builtin "max") (λ vs H Q=>∃ (a:Addr) (ns:List Int),vs=[.ref a]/\SqA X.K H a (ns.map V.int)/\ns≠[]/\∀ M,M∈ns->(∀ n∈ns,n<=M)->Q (.int M) H):=by
 intro pins s σ H vs us Q I r h;obtain ⟨a,ns,rfl,hs,hne,q⟩:=h;obtain ⟨u,rfl,ru⟩:=O4 r
 cases ru;obtain ⟨its,rv,walk⟩:=Y2 hc I hs;have hlen:its.toArray.size=ns.length:=by rw [aT,<- rv.length,aA]
 have hpos:0<ns.length:=iH.mpr hne;refine call_max_walk (walk _ _ λ o St W st fp=>?_);refine ⟨_,_,_,_,_,_,_,rfl,W,st,fp,by rw [hlen]; exact hpos,CmpOf.ints_gt (λ i=>ns.getD i 0) (a0K rv),λ v h' tk hP hk=>?_⟩;obtain ⟨h1,h2⟩:=argBest_gt (λ i=>ns.getD i 0) (its.toArray.size - 1);obtain ⟨t,rfl⟩:=a0K rv _ v hP;refine ⟨.int _,H,I.kept (a0I hk),⟨_,rfl⟩,q _ (a2W (by omega)) λ n hn=>?_⟩;obtain ⟨j,hj,rfl⟩:=a2Y hn;exact h2 j (by omega)
theorem a7a (hc:X.calm=true):G2 X (.builtin "min") (λ vs H Q=>∃ (a:Addr) (ns:List Int),vs=[.ref a]/\SqA X.K H a (ns.map V.int)/\ns≠[]/\∀ M,M∈ns->(∀ n∈ns,M<=n)->Q (.int M) H):=by
 intro pins s σ H vs us Q I r h;obtain ⟨a,ns,rfl,hs,hne,q⟩:=h;obtain ⟨u,rfl,ru⟩:=O4 r
 cases ru;obtain ⟨its,rv,walk⟩:=Y2 hc I hs;have hlen:its.toArray.size=ns.length:=by rw [aT,<- rv.length,aA]
 have hpos:0<ns.length:=iH.mpr hne;refine call_min_walk (walk _ _ λ o St W st fp=>?_);refine ⟨_,_,_,_,_,_,_,rfl,W,st,fp,by rw [hlen]; exact hpos,CmpOf.ints_lt (λ i=>ns.getD i 0) (a0K rv),λ v h' tk hP hk=>?_⟩;obtain ⟨h1,h2⟩:=argBest_lt (λ i=>ns.getD i 0) (its.toArray.size - 1);obtain ⟨t,rfl⟩:=a0K rv _ v hP;refine ⟨.int _,H,I.kept (a0I hk),⟨_,rfl⟩,q _ (a2W (by omega)) λ n hn=>?_⟩;obtain ⟨j,hj,rfl⟩:=a2Y hn;exact h2 j (by omega)
theorem V7:G2 X (.builtin "isinstance") (λ vs H Q=>∃ x t n b,vs=[x,.ty n]/\a1h X.K H x t/\W.kitOne X.K t (.type n)=some b/\Q (.bl b) H):=by
 intro pins s σ H vs us Q I r h;obtain ⟨x,t,n,b,rfl,ty,e,q⟩:=h;obtain ⟨u,v,rfl,ru,rv⟩:=a2A r
 cases rv;exact a7o I ru ty e λ tk=>⟨.bl b,H,I.tok _,rfl,q⟩
end
mutual
inductive Dp (K:W.Frag) (H:Hp):V->PyData->Prop
 | non:Dp K H .non .none
 | bl (b:Bool):Dp K H (.bl b) (.bool b)
 | int (i:Int):Dp K H (.int i) (.int i)
 | str (x:Str):Dp K H (.str x) (.str x)
 | lst {a:Addr} {xs:List V} {ds:List PyData}:SqL K H a xs->Dps K H xs ds->Dp K H (.ref a) (.list ds)
 | tup {a:Addr} {xs:List V} {ds:List PyData}:SqT K H a xs->Dps K H xs ds->Dp K H (.ref a) (.tuple ds)
inductive Dps (K:W.Frag) (H:Hp):List V->List PyData->Prop
 | nil:Dps K H [] []
 | cons {x:V} {xs:List V} {d:PyData} {ds:List PyData}:Dp K H x d->Dps K H xs ds->Dps K H (x::xs) (d::ds)
end
theorem Same.tseq {K:W.Frag} {H H':Hp} {a:Addr} {xs:List V} (e:Same H H') (h:SqT K H a xs):SqT K H' a xs:=by
 rcases h with (h | ⟨o,h⟩) | h
 ·exact .inl (.inl (e _ _ h))
 ·exact .inl (.inr ⟨o,e _ _ h⟩)
 ·exact .inr h
mutual
theorem Dp.same {K:W.Frag} {H H':Hp} (e:Same H H'):∀ {x:V} {d:PyData},Dp K H x d->Dp K H' x d
 | _,_,.non=>.non
 | _,_,.bl b=>.bl b
 | _,_,.int i=>.int i
 | _,_,.str x=>.str x
 | _,_,.lst h r=>.lst (e.seq h) (Dps.same e r)
 | _,_,.tup h r=>.tup (e.tseq h) (Dps.same e r)
theorem Dps.same {K:W.Frag} {H H':Hp} (e:Same H H'):∀ {xs:List V} {ds:List PyData},Dps K H xs ds->Dps K H' xs ds
 | _,_,.nil=>.nil
 | _,_,.cons a r=>.cons (Dp.same e a) (Dps.same e r)
end
section
variable {X:Cx} {pins:List (Addr×Obj)} {σ:St} {H:Hp} {s:Shared}
mutual
theorem Dp.reads (I:Inv X pins σ H s):∀ {x:V} {d:PyData},Dp X.K H x d->∀ {u:Value},RelV x u->∃ as,Reads s.heap u d as
 | _,_,.non,u,r=>by cases r; exact ⟨_,.none⟩
 | _,_,.bl b,u,r=>by cases r; exact ⟨_,.bool b⟩
 | _,_,.int i,u,r=>by obtain ⟨t,rfl⟩:=r; exact ⟨_,.int i t⟩
 | _,_,.str x,u,r=>by obtain ⟨t,rfl⟩:=r; exact ⟨_,.str x t⟩
 | _,_,.lst h q,u,r=>by
  cases r;obtain ⟨its,rv,p,hz⟩:=I.list h;obtain ⟨o,e1,e2,n,e3⟩:=p.isList;obtain ⟨as,ra⟩:=Dps.reads I q rv;exact ⟨_,.list e1 e2 e3 (by simpa using ra)⟩
 | _,_,.tup h q,u,r=>by
  cases r;obtain ⟨its,rv,p,hz⟩:=I.tuple h;obtain ⟨o,e1,e2,n,e3⟩:=(show s.heap.IsTuple _ its.toArray from p);obtain ⟨as,ra⟩:=Dps.reads I q rv;exact ⟨_,.tuple e1 e2 e3 (by simpa using ra)⟩
theorem Dps.reads (I:Inv X pins σ H s):∀ {xs:List V} {ds:List PyData},Dps X.K H xs ds->∀ {us:List Value},Vals xs us->∃ as,ReadsAll s.heap us ds as
 | _,_,.nil,us,r=>by cases r; exact ⟨_,.nil⟩
 | _,_,.cons a q,us,r=>by
  cases r with
  | cons r1 r2 =>
   obtain ⟨as,h1⟩:=Dp.reads I a r1;obtain ⟨bs,h2⟩:=Dps.reads I q r2;exact ⟨_,.cons h1 h2⟩
end
end
section
variable {X:Cx}
def b4X (K:W.Frag):R2:=λ x y H Q=>∃ d e,Dp K H x d/\Dp K H y e/\d.canLay0=true/\e.canLay0=true/\min d.depth e.depth<=60/\Q (.bl (PyData.eqv d e)) H
def b3u (K:W.Frag):R2:=λ x y H Q=>∃ d e,Dp K H x d/\Dp K H y e/\d.canLay0=true/\e.canLay0=true/\min d.depth e.depth<=60/\Q (.bl (!PyData.eqv d e)) H
theorem Y1 {k:Nat} (hr:Room k X.A):OpR X (compareOp .Eq) (b4X X.K):=by
 intro pins s σ H x y v u Q I rx ry h;obtain ⟨d,e,h1,h2,c1,c2,hd,q⟩:=h;obtain ⟨as,r1⟩:=h1.reads I rx;obtain ⟨bs,r2⟩:=h2.reads I ry;exact SeqAt.compareEq_reads r1 r2 c1 c2 (by have:=hr.units; omega) ⟨.bl _,H,I,rfl,q⟩
theorem a2o {k:Nat} (hr:Room k X.A):OpR X (compareOp .NotEq) (b3u X.K):=by
 intro pins s σ H x y v u Q I rx ry h;obtain ⟨d,e,h1,h2,c1,c2,hd,q⟩:=h;obtain ⟨as,r1⟩:=h1.reads I rx;obtain ⟨bs,r2⟩:=h2.reads I ry;exact SeqAt.compareNe_reads r1 r2 c1 c2 (by have:=hr.units; omega) ⟨.bl _,H,I,rfl,q⟩
end
theorem Same.new {H:Hp} {p:Addr} (h:H p=none) (o:HO):Same H (r6 H p o):=λ b u q=>by rw [c9 (d7 q h)]; exact q
theorem Wk.set {n:Nat} {fr:List Nat} {σ:St} {i:Nat} {v:V} (hi:i<n):Wk (blkσ n fr σ) ((blkσ n fr σ).set i (some v)):=by
 refine ⟨by simp,λ j w e=>?_⟩
 by_cases hj:j=i
 ·subst hj
  unfold blkσ at e;rw [bO (by simpa using hi),dL] at e
  split at e <;> cases e
 ·rw [bE (aS hj)]; exact e
structure a7P (J:It) (H1:Hp) (xs:List V):Prop where
 go:∀ i H,Same H1 H->i<xs.length->J.go i H
 yld:∀ i H x H',Same H1 H->i<xs.length->J.yld i H x H'->H'=H/\xs[i]?=some x
 stop:∀ H,Same H1 H->J.stop xs.length H
theorem J5 {K:W.Frag} {a:Addr} {xs:List V} {H1:Hp} (h:SqL K H1 a xs):a7P (Itl K a) H1 xs :=
 ⟨λ i H e hi=>⟨xs,xs[i],e.seq h,aH hi⟩,λ i H x H' e hi y=>⟨y.1,y.2 xs (e.seq h)⟩,λ H e=>⟨xs,e.seq h,aF _⟩⟩
theorem W7 {K:W.Frag} {a:Addr} {xs:List V} {H1:Hp} (h:SqT K H1 a xs):a7P (Itt K a) H1 xs :=
 ⟨λ i H e hi=>⟨xs,xs[i],e.tseq h,aH hi⟩,λ i H x H' e hi y=>⟨y.1,y.2 xs (e.tseq h)⟩,λ H e=>⟨xs,e.tseq h,aF _⟩⟩
theorem a5S {lo:Int} {n:Nat} {H1:Hp}:a7P (Itr lo n) H1 ((aE n).map λ (i:Nat)=>V.int (lo+(i:Int))) :=
 ⟨λ i H e hi=>(show i<n from by simpa using hi),λ i H x H' e hi y=>⟨y.1,by rw [y.2,aD,bG (by simpa using hi)]; rfl⟩,λ H e=>by simp [Itr]⟩
theorem Paired.app {α β:Type} {F:α->β->Prop}:∀ {a c:List α} {b d:List β},Paired F a b->Paired F c d->Paired F (a++c) (b++d)
 | _,_,_,_,.nil,s=>s
 | _,_,_,_,.cons r t,s=>.cons r (Paired.app t s)
section
variable {xs:List V} {J:It} {n:Nat} {fr:List Nat} {g:TG} {te:TE} {σ:St} {H1:Hp} {p:Addr} {D:Hp->Prop}
theorem R6 (hJ:a7P J H1 xs) (hp:H1 p=none) (hz:xs.length<sizeLine) (F:V->V)
  (step:∀ (i:Nat) x H (N:VK),xs[i]?=some x->Same H1 H->N (F x) H->g x (blkσ n fr σ) H λ σ2 H2=>Wk (blkσ n fr σ) σ2/\te σ2 H2 N)
  (hd:D (r6 H1 p (.lst (xs.map F)))):lcW n fr g te σ J H1 p D:=by
 refine ⟨λ i m ys H=>m=xs.length - i/\i<=xs.length/\ys=(xs.take i).map F/\H=r6 H1 p (.lst ys),⟨xs.length,by simp,bR _,by simp,rfl⟩,?_⟩;rintro i m ys H ⟨rfl,hi,rfl,rfl⟩;have e:=Same.new (o:=.lst ((xs.take i).map F)) hp
 by_cases hlt:i<xs.length
 ·refine .inr ⟨hJ.go i _ e hlt,λ x H' y=>?_⟩
  obtain ⟨rfl,hx⟩:=hJ.yld i _ x H' e hlt y;refine step i x _ _ hx e ⟨upd_same,by rw [aA,cI]; omega,xs.length - (i+1),by omega,rfl,hlt,?_,T7⟩;rw [jN,hx,bC]; rfl
 ·have:i=xs.length:=by omega
  subst this;refine .inl ⟨hJ.stop _ e,?_⟩;rw [fA (aF _)]; exact hd
theorem a3T (hJ:a7P J H1 xs) (hp:H1 p=none) (hz:xs.length<sizeLine) (R:Nat->V->Hp->Prop) (hR:∀ i y H H',R i y H->(∀ b o,b≠p->H b=some o->H' b=some o)->R i y H')
  (step:∀ (i:Nat) x H ys (N:VK),xs[i]?=some x->Same H1 H->H p=some (.lst ys)->(∀ v H3,Same H H3->R i v H3->N v H3)->g x (blkσ n fr σ) H λ σ2 H2=>Wk (blkσ n fr σ) σ2/\te σ2 H2 N)
  (hd:∀ ys H,Same H1 H->H p=some (.lst ys)->ys.length=xs.length->(∀ i y,ys[i]?=some y->R i y H)->D H):lcW n fr g te σ J H1 p D:=by
 refine ⟨λ i m ys H=>m=xs.length - i/\i<=xs.length/\Same H1 H/\H p=some (.lst ys)/\ys.length=i/\∀ j y,ys[j]?=some y->R j y H,⟨xs.length,by simp,bR _,Same.new hp _,upd_same,rfl,λ j y e=>by simp at e⟩,?_⟩;rintro i m ys H ⟨rfl,hi,e,hH,len,pr⟩
 by_cases hlt:i<xs.length
 ·refine .inr ⟨hJ.go i _ e hlt,λ x H' y=>?_⟩
  obtain ⟨rfl,hx⟩:=hJ.yld i _ x H' e hlt y;refine step i x _ ys _ hx e hH λ v H3 s3 r3=>⟨s3 _ _ hH,by omega,xs.length - (i+1),by omega,rfl,hlt,λ b o q=>?_,upd_same,by rw [aM,len]; rfl,λ j y ey=>?_⟩
  ·rw [c9 (d7 q hp)]; exact s3 _ _ (e _ _ q)
  ·have up:∀ b o,b≠p->H3 b=some o->r6 H3 p (.lst (ys++[v])) b=some o:=λ b o hb q=>by rw [c9 hb]; exact q
   by_cases hj:j<ys.length
   ·rw [bO hj] at ey
    exact hR j y _ _ (pr j y ey) λ b o hb q=>up b o hb (s3 _ _ q)
   ·rw [bZ (by omega)] at ey
    have hj':j - ys.length=0:=by
     cases q:j - ys.length with
     | zero=>rfl
     | succ k=>rw [q] at ey; simp at ey
    rw [hj'] at ey;have:j=i:=by omega
    subst this;simp at ey;subst ey;exact hR j v _ _ r3 up
 ·have:i=xs.length:=by omega
  subst this;exact .inl ⟨hJ.stop _ e,hd ys H e hH len pr⟩
end
theorem Inv.turnedLaid {X:Cx} {pins:List (Addr×Obj)} {σ:St} {H:Hp} {s:Shared} {h':Heap} {fp:List Addr} {T:Addr} {xs:List V} {its:List Value} (I:Inv X pins σ H s) (hf:∀ b∈fp,U7 X pins H b)
  (k:∀ b o,b ∉ fp->s.heap.get? b=some o->h'.get? b=some o) (ho:∀ b∈fp,∃ o,h'.get? b=some o) (hT:s.heap.objs.size<=T) (hz:xs.length<=sizeLine) (hv:Vals xs its) (ht:IsTup h' T its.toArray) :
  Inv X pins σ (r6 H T (.tup xs)) { s with heap:=h' }:=by
 have hTn:H T=none:=I.hok.fresh hT;have neT:∀ b o,s.heap.get? b=some o->b≠T:=λ b o e=>bI (aR (Heap.lt_size e) hT);refine I.step (g':=s.gens) (t':=s.toks) (d':=s.drawn) (ch:=fp) (λ b hb=>⟨(hf b hb).2.2.2.1,(hf b hb).2.1,(hf b hb).2.2.2.2.1,(hf b hb).2.2.2.2.2⟩) (λ b o _ _ hc e _=>k b o hc e) (λ b o _ _ hc e _=>⟨o.slots,k b o hc e⟩)
  (λ b o hc e n=>by rw [c9 (neT b o e)]; exact n) (λ b o hc e=>⟨o,k b o hc e⟩) (λ b ys e=>by rw [c9 (d7 e hTn)]; exact e) (λ b o u e=>by rw [c9 (d7 e hTn)]; exact e) (λ b ps e=>⟨#[],by rw [c9 (d7 e hTn),e]; simp⟩)
  (λ m hm=>?_) (λ b u e=>?_) I.bare
 ·obtain ⟨o,es,ep,e1,r⟩:=hm
  exact ⟨o,es,ep,k _ o (λ z=>(hf _ z).2.1 rfl) e1,r⟩
 ·by_cases hb:b=T
  ·subst hb; rw [upd_same] at e; cases e
   exact ⟨hz,its,hv,ht⟩
  ·rw [c9 hb] at e
   have nit:∀ c u,H c=some u->c ∉ fp:=λ c u q z=>by rw [(hf c z).1] at q; cases q
   refine (I.hok b u e).stay (λ c v hc q=>k c v ?_ q) (λ c q=>by rw [c9 (d7 q hTn)]; exact q) λ c ys q=>by rw [c9 (d7 q hTn)]; exact q
   rcases hc with z | z
   ·rw [z]; exact nit b u e
   ·exact nit c _ z
theorem Inv.turnedAll {X:Cx} {pins:List (Addr×Obj)} {σ:St} {H:Hp} {s:Shared} {h':Heap} {fp:List Addr} (I:Inv X pins σ H s) (hf:∀ b∈fp,U7 X pins H b)
  (k:∀ b o,b ∉ fp->s.heap.get? b=some o->h'.get? b=some o):Inv X pins σ H { s with heap:=h' }:=by
 refine I.step (g':=s.gens) (t':=s.toks) (d':=s.drawn) (ch:=fp) (λ b hb=>⟨(hf b hb).2.2.2.1,(hf b hb).2.1,(hf b hb).2.2.2.2.1,(hf b hb).2.2.2.2.2⟩) (λ b o _ _ hc e _=>k b o hc e) (λ b o _ _ hc e _=>⟨o.slots,k b o hc e⟩)
  (λ b o hc e n=>n) (λ b o hc e=>⟨o,k b o hc e⟩) (λ b ys e=>e) (λ b o u e=>e) (λ b ps e=>⟨#[],by rw [e]; simp⟩)
  (λ m hm=>?_) (λ b u e=>?_) I.bare
 ·obtain ⟨o,es,ep,e1,r⟩:=hm
  exact ⟨o,es,ep,k _ o (λ z=>(hf _ z).2.1 rfl) e1,r⟩
 ·have nit:∀ c u,H c=some u->c ∉ fp:=λ c u q z=>by rw [(hf c z).1] at q; cases q
  refine (I.hok b u e).stay (λ c v hc q=>k c v ?_ q) (λ c q=>q) λ c ys q=>q;rcases hc with z | z
  ·rw [z]; exact nit b u e
  ·exact nit c _ z
theorem a9k (n l1 l2:Nat) (h1:l1<n) (h2:l2<n):ZipApart (n+4) (n+2) (n+3) n (n+1) l1 l2 where
 TIz:=(by omega:(n+2:Nat)≠n+4)
 TOz:=(by omega:(n+3:Nat)≠n+4)
 i1z:=(by omega:(n:Nat)≠n+4)
 i2z:=(by omega:(n+1:Nat)≠n+4)
 TITO:=(by omega:(n+2:Nat)≠n+3)
 TIi1:=(by omega:(n+2:Nat)≠n)
 TIi2:=(by omega:(n+2:Nat)≠n+1)
 TOi1:=(by omega:(n+3:Nat)≠n)
 TOi2:=(by omega:(n+3:Nat)≠n+1)
 i12:=(by omega:(n:Nat)≠n+1)
 l1z:=(by omega:(l1:Nat)≠n+4)
 l1TO:=(by omega:(l1:Nat)≠n+3)
 l1i1:=(by omega:(l1:Nat)≠n)
 l1i2:=(by omega:(l1:Nat)≠n+1)
 l2z:=(by omega:(l2:Nat)≠n+4)
 l2TO:=(by omega:(l2:Nat)≠n+3)
 l2i1:=(by omega:(l2:Nat)≠n)
 l2i2:=(by omega:(l2:Nat)≠n+1)
section
variable {X:Cx}
def b3w (i j:Int):Prop:=0<j/\j<2 ^ 8000
theorem log2_lt {y:Nat} (h:y<2 ^ 8000):y.log2<9000:=by
 by_cases h0:y=0
 ·subst h0; decide
 ·exact aR ((iI h0).mpr h) (by decide)
theorem a2g:OpR X (binaryOp .FloorDiv) (rI b3w λ i j=>.int (i / j)):=opI λ i j _ _ _ _ _ hc q=>by
 have h0:j≠0:=by have:=hc.1; omega
 have e:i.fdiv j=i / j:=jC i (bH hc.1);refine floordiv_int h0 (by rw [e]; exact q) (.inl (PyProof.noPylong_of_log2 (log2_lt ?_)));have:=hc.1;have:=hc.2;omega
def Big (n:Nat) (i:Int):Prop:=i.natAbs<2 ^ n
def b3h (i j:Int):Prop:=Big 1000000 i/\Big 1000000 j
theorem a6y {i:Int} (h:Big 1000000 i):Builtin.Int.intBits i<=2 ^ 20:=by
 unfold Builtin.Int.intBits
 split
 ·exact bR _
 ·rename_i h0
  have h0':i.natAbs≠0:=by
   intro z;exact h0 (by rw [Int.natAbs_eq_zero.mp z]; rfl)
  have:=(iI h0').mpr h;omega
theorem a1B:OpR X (binaryOp .Mult) (rI b3h λ i j=>.int (i*j)):=opI λ _ _ _ _ _ _ _ hc q=>mul_int q (IntMulOk.of_bits (a6y hc.1) (a6y hc.2))
end
theorem Same.write {H H':Hp} {p:Addr} {o:HO} (e:Same H H') (hp:H p=none):Same H (r6 H' p o):=λ b u q=>by rw [c9 (d7 q hp)]; exact e b u q
section
variable {xs:List V} {J:It} {fr:List Nat} {tc:TT} {σ:St} {H1:Hp} {p:Addr} {D:Hp->Prop}
end
end L2
namespace L2
open PySem PySem.W
theorem X5:typeOf (.builtin "object.__class__")=pure (.type "getset_descriptor"):=by kernel_rfl
theorem a3F:(".".intercalate ("object.__class__".cutAt '.').dropLast)="object":=by
 have e0:"object.__class__".cutAt '.'=["object","__class__"]:=by decide +kernel
 rw [e0];decide +kernel
section
variable {prog:Program} {w:World} {A:Around} {E:Value->Shared->Prop} {s:Shared} {K:Frag} {x C D:Addr} {ox:Obj}
theorem a8H {R:Result->Shared->Prop} (X:K.In s.heap) (hx:s.heap.get? x=some ox) (hc:ox.cls=.ref D) (hm:mroIn K D (.type "object")=some true) (hq:R (.ok (.ret (.ref D))) s) :
  codeAny (model prog w) A (.call (.builtin "getset_descriptor.__get__") ⟨[.builtin "object.__class__",.ref x,.ref D],[]⟩) R s:=by
 obtain ⟨h,g,d,t,os⟩:=s;have L1:=looks_mroIn (M:=model prog w) X hm;have hT5:(⟨h,g,d,t,os⟩:Shared).TypeIs (.builtin "object.__class__") "getset_descriptor":=X5;refine codeAny_call_builtin F.slot_gs_get.plain F.entry_gs_get (F.slot_gs_get.check _ _ _ _ _ _ _ _ hT5 (F.args_gs_get _ _ _) ?_)
 repeat (any_goals (first | assumption | (with_reducible refine wpAny_loadPart_at hx ?_; rw [hc]) | with_reducible refine L1.at ?_ | wp_step))
 rw [a3F];refine L1.at ?_
 repeat (any_goals (first | assumption | wp_step))
 refine ⟨Code.quiet_builtin _ (by decide +kernel),codeAny_builtin KF.entry_class ?_⟩;unfold Builtin.«object.__class__»
 repeat (any_goals (first | assumption | (with_reducible refine wpAny_loadPart_at hx ?_; rw [hc]) | wp_step))
theorem a7g {tk:Tok} {Q:gA->Shared->Prop} (X:K.In s.heap) (hx:s.heap.get? x=some ox) (hc:ox.cls=.ref D) (ha:findIn K (.ref D) "__class__"=some (some (.builtin "object.__class__")))
  (hm:mroIn K D (.type "object")=some true)
  (hq:Q (.done (.ret (.ref D))) s) :
  wpAny (model prog w) A (Builtin.«object.__getattribute__» ⟨[.ref x,.str "__class__" tk],[]⟩) Q E s:=by
 obtain ⟨h,g,d,t,os⟩:=s;have L1:=looks_findIn (M:=model prog w) X ha;have hT5:(⟨h,g,d,t,os⟩:Shared).TypeIs (.builtin "object.__class__") "getset_descriptor":=X5;have f5:=X5;have f6:=F.slot_gs_get.lookup;have f7:=F.slot_gs_set.lookup;unfold Builtin.«object.__getattribute__»
 repeat (any_goals (first | assumption | (with_reducible refine wpAny_loadPart_at hx ?_; rw [hc]) | with_reducible refine L1.at ?_ | wp_step))
 refine a8H X hx hc hm ?_
 repeat (any_goals (first | assumption | wp_step))
theorem a7h {nv:Value} {Q:Unit->Shared->Prop} (X:K.In s.heap) (hx:s.heap.get? x=some ox) (hc:ox.cls=.ref D) (hb:mroIn K D (.type "BaseException")=some true) (hq:Q () s) :
  wpAny (model prog w) A (checkBuiltinCall "BaseException.__getattribute__" ⟨[.ref x,nv],[]⟩) Q E s:=by
 have hk:builtinKind "BaseException.__getattribute__"=some .slot:=by decide +kernel
 have hsplit:splitId "BaseException.__getattribute__"=some ("BaseException","__getattribute__"):=by decide +kernel
 have ag:=F.args_bexc_ga (.ref x) nv;obtain ⟨h,g,d,t,os⟩:=s;have L1:=looks_mroIn (M:=model prog w) X hb;simp only [checkBuiltinCall,hk,hsplit];refine wpAny_bind ?_;unfold isInstance
 repeat (first | (with_reducible refine wpAny_loadPart_at hx ?_; rw [hc]) | with_reducible refine L1.at ?_ | wp_step)
 exact hq
theorem a8m {tk:Tok} {R:Result->Shared->Prop} (X:K.In s.heap) (hx:s.heap.get? x=some ox) (hc:ox.cls=.ref D) (ha:findIn K (.ref D) "__class__"=some (some (.builtin "object.__class__")))
  (hm:mroIn K D (.type "object")=some true) (hb:mroIn K D (.type "BaseException")=some true) (hq:R (.ok (.ret (.ref D))) s) :
  codeAny (model prog w) A (.call (.builtin "BaseException.__getattribute__") ⟨[.ref x,.str "__class__" tk],[]⟩) R s :=
 codeAny_call_builtin F.excAttr_ValueError.ga.plain F.entry_bexc_ga (a7h X hx hc hb (a7g X hx hc ha hm hq))
theorem a7D {Q:Option Value->Shared->Prop} (X:K.In s.heap) (hx:s.heap.get? x=some ox) (hc:ox.cls=.ref D) (hga:findIn K (.ref D) "__getattribute__"=some (some (.builtin "BaseException.__getattribute__")))
  (hgn:findIn K (.ref D) "__getattr__"=some none) (ha:findIn K (.ref D) "__class__"=some (some (.builtin "object.__class__")))
  (hm:mroIn K D (.type "object")=some true) (hb:mroIn K D (.type "BaseException")=some true) (hq:Q (some (.ref D)) { s with toks:=s.toks+1 }) :
  wpAny (model prog w) A (getAttr? (.ref x) "__class__") Q E s:=by
 obtain ⟨h,g,d,t,os⟩:=s;have L1:=looks_findIn (M:=model prog w) X hga;have L2:=looks_findIn (M:=model prog w) X hgn;have f3:=F.excAttr_ValueError.ga.bind (.ref x);have hx2:(Value.builtin "BaseException.__getattribute__"==Value.builtin "object.__getattribute__")=false:=by decide +kernel
 have hx1:(onTheHeap (Value.ref D)&&Value.builtin "BaseException.__getattribute__"==Value.builtin "object.__getattribute__")=false:=by rw [hx2]; rfl
 have hx0:(false&&onTheHeap (Value.builtin "BaseException.__getattribute__"))=false:=rfl;unfold getAttr?
 repeat (any_goals (first | assumption | (with_reducible refine wpAny_loadPart_at hx ?_; rw [hc]) | with_reducible refine L1.at ?_ | with_reducible refine L2.at ?_ | wp_step))
 refine a8m X hx hc ha hm hb ?_
 repeat (any_goals (first | assumption | wp_step))
end
structure V5 (K:Frag) (D:Addr):Prop where
 ob:∃ nm q N bs bm hdct sn sub ab col dd k0 k1 k2 k3 k5,K.lookup D=some (excClassObj nm q D N bs bm hdct sn sub ab col dd k0 k1 k2 k3 k5 "ValueError.__new__")/\nsOkIn K N=true/\nsIn K N "__init__"=some none ∧
  tailIn K [.type "ValueError",.type "Exception",.type "BaseException",.type "object"] bm=true
 ga:findIn K (.ref D) "__getattribute__"=some (some (.builtin "BaseException.__getattribute__"))
 gn:findIn K (.ref D) "__getattr__"=some none
 ca:findIn K (.ref D) "__class__"=some (some (.builtin "object.__class__"))
 mo:mroIn K D (.type "object")=some true
 mb:mroIn K D (.type "BaseException")=some true
def a6E (ea D:Addr) (h:Heap):Prop:=∃ o,h.get? ea=some o/\o.cls=.ref D
theorem a7T {K:Frag} {D ea:Addr} (k:V5 K D):KitX K (.ref ea) (.ref D) (a6E ea D) where
 ty:=λ M h X p=>by
  obtain ⟨o,h1,h2⟩:=p;exact h2 ▸ (Looks.ld h1).andThen .now
 it:=λ M h X p=>by
  obtain ⟨_,_,_,_,_,_,_,_,_,_,_,_,_,_,_,_,lk,_⟩:=k.ob;intro A' Q' E' s' kk q;unfold isType loadHead;exact wpAny_bind (wpAny_loadPart (kk _ _ (X _ _ lk)) (wpAny_pure q))
 ne:=λ h tp dd its n sl X htp=>eM.mpr λ q=>by
  obtain ⟨_,_,_,_,_,_,_,_,_,_,_,_,_,_,_,_,lk,_⟩:=k.ob;have e:D=tp:=Value.ref.inj (beq_iff_eq.mp q);subst e;have z:=(X _ _ lk).symm.trans htp;exact absurd (Value.type.inj (congrArg Obj.cls (aL z))) (by decide)
 ca:=λ {prog w A E Q s} X p kk=>by
  obtain ⟨o,h1,h2⟩:=p;exact a7D X h1 h2 k.ga k.gn k.ca k.mo k.mb kk
def a7I (ea D:Addr):HO:=.ext (a6E ea D)
theorem b0X {P:Program} {w:World} {H:Hp} {h:Heap} {ea D:Addr} (e:a6E ea D h):ObjOk P w H h ea (a7I ea D) :=
 ⟨e,let ⟨o,h1,_⟩:=e; ⟨o,h1⟩,λ h1 h2 ⟨o,a,b⟩ k=>⟨o,k o a,b⟩⟩
theorem D5 {X:Cx}:G2 X (.builtin "isinstance") (λ vs H Q=>∃ (ea D:Addr) (c:V) (b:Bool),vs=[.ref ea,c]/\H ea=some (a7I ea D)/\V5 X.K D/\(∀ u,RelV c u->kitOne X.K (.ref D) u=some b)/\Q (.bl b) H):=by
 intro pins s σ H vs us Q I r h;obtain ⟨ea,D,c,b,rfl,he,k,e,q⟩:=h;obtain ⟨u,v,rfl,ru,rv⟩:=a2A r
 cases (show u=Value.ref ea from ru);have ho:ObjOk X.prog X.w H s.heap ea (a7I ea D):=I.hok ea _ he;exact kia_one (a7T k) I.kIn ho.1 (e v rv) (λ z=>nomatch z) λ tk=>⟨.bl b,H,I.tok _,rfl,q⟩
theorem a7t {prog:Program} {w:World} {A:Around} {E:Value->Shared->Prop} {s:Shared} {K:Frag} {ea D R:Addr} {oe:Obj} {Q:Bool->Shared->Prop} (X:K.In s.heap) (hx:s.heap.get? ea=some oe) (hc:oe.cls=.ref D)
  (hs:mroIn K D (.ref R)=some true) (kR:V5 K R) (hq:Q true s):wpAny (model prog w) A (excMatches (.ref ea) (.ref R)) Q E s:=by
 obtain ⟨h,g,d,t,os⟩:=s;obtain ⟨_,_,_,_,_,_,_,_,_,_,_,_,_,_,_,_,lk,_⟩:=kR.ob;have hR:=X _ _ lk;have L1:=looks_mroIn (M:=model prog w) X hs;have L2:=looks_mroIn (M:=model prog w) X kR.mb;have f:=tc_notTuple;unfold excMatches
 repeat (first | with_reducible refine L1.at ?_ | with_reducible refine L2.at ?_ | (with_reducible refine wpAny_loadPart_at hx ?_; rw [hc]) | with_reducible refine wpAny_loadPart_at hR ?_ | wp_step)
 exact hq
end L2
namespace L2
open PySem PySem.Spec PyProof.Rows
theorem ObjOk.got {P:Program} {w:World} {H:Hp} {h:Heap} {a:Addr} {o:HO} (x:ObjOk P w H h a o):∃ ob,h.get? a=some ob:=by
 cases o with
 | lst xs=>obtain ⟨_,_,_,_,e⟩:=x; exact ⟨_,e⟩
 | tup xs=>obtain ⟨_,_,_,ob,e,_⟩:=x; exact ⟨ob,e⟩
 | dK kvs=>obtain ⟨_,_,_,_,ob,_,_,e,_⟩:=x; exact ⟨ob,e⟩
 | dT kvs=>obtain ⟨_,_,_,_,ob,_,_,e,_⟩:=x; exact ⟨ob,e⟩
 | set S n=>obtain ⟨ob,_,_,_,e,_⟩:=x; exact ⟨ob,e⟩
 | ins C dx fs=>obtain ⟨_,_,_,e,_⟩:=x; exact ⟨_,e⟩
 | own y=>exact x
 | xd fs=>obtain ⟨_,⟨ob,_,_,e,_⟩,_⟩:=x; exact ⟨ob,e⟩
 | rng lo hi=>obtain ⟨_,_,_,e⟩:=x; exact ⟨_,e⟩
 | frz ob u=>obtain ⟨e,_⟩:=x; exact ⟨_,e⟩
 | tbl ps=>exact ⟨_,(show h.get? a=some _ from x)⟩
 | met f y=>exact ⟨_,(show h.get? a=some _ from x)⟩
 | ext φ=>obtain ⟨_,e,_⟩:=x; exact e
theorem Un.slots {fs ex:List Addr} {H0 H':Hp} {h0 h1 h2:Heap} (u:Un fs ex H0 H' h0 h1) (hb:∀ b o,h1.get? b=some o->(∃ o0,h0.get? b=some o0)->b ∉ fs->h2.get? b=some o)
  (hf:∀ b∈fs,∀ o,h1.get? b=some o->∃ sl,h2.get? b=some { o with slots:=sl }):Un fs ex H0 H' h0 h2 where
 keep:=λ b o q n hfs hx=>hb b o (u.keep b o q n hfs hx) ⟨o,q⟩ hfs
 slot:=λ b o q n hfs hx=>by
  obtain ⟨sl,e⟩:=u.slot b o q n hfs hx;obtain ⟨sl',e'⟩:=hf b hfs _ e;exact ⟨sl',e'⟩
 free:=u.free
 there:=λ b o q hx=>by
  obtain ⟨o',e⟩:=u.there b o q hx
  by_cases hm:b∈fs
  ·obtain ⟨sl,e'⟩:=hf b hm _ e; exact ⟨_,e'⟩
  ·exact ⟨_,hb b o' e ⟨o,q⟩ hm⟩
 tups:=u.tups
 frzs:=u.frzs
 tbls:=u.tbls
theorem HOk.slots {P:Program} {w:World} {H:Hp} {h h':Heap} (x:HOk P w H h) (k:∀ b u o,H b=some u->h.get? b=some o->h'.get? b=some o):HOk P w H h':=λ a o e =>
 (x a o e).stay (λ b u hb q=>by
  rcases hb with rfl | hb
  ·exact k b o u e q
  ·exact k b _ u hb q) (λ _ q=>q) λ _ _ q=>q
structure Fly (P:Program) (w:World) (l:List Env) (H:Hp) (s:Shared) (ea t D:Addr) (B:Heap) (H':Hp) (s':Shared):Prop where
 os:s'.os=s.os
 bare:AllBare s'.gens
 un:Un (frs l) [] H H' s.heap s'.heap
 hok:HOk P w H' s'.heap
 fly:Heap.FlyingW B l ea (.ref D) (.ref t) s'.heap
 inb:∀ b o,s'.heap.get? b=some o->((∃ o0,s.heap.get? b=some o0)/\b ∉ frs l)\/H' b≠none->B.get? b=some o
def CX1 (P:Program) (w:World):CXT:=λ l H s E e s'=>∃ (ea t D:Addr) (B:Heap) (H':Hp),e=.ref ea/\Fly P w l H s ea t D B H' s'/\E (.ref D) none H'
section
variable {P:Program} {w:World} {l:List Env} {H:Hp} {s s':Shared} {ea t D:Addr} {B h':Heap} {H':Hp}
theorem Fly.slots (F:Fly P w l H s ea t D B H' s') (fl:Heap.FlyingW B l ea (.ref D) (.ref t) h') (up:s'.heap.UpToSlots h'):Fly P w l H s ea t D B H' { s' with heap:=h' }:=by
 have st:∀ b o,B.get? b=some o->h'.get? b=some o:=fl.1;refine ⟨F.os,F.bare,F.un.slots (λ b o q z hn=>st b o (F.inb b o q (.inl ⟨z,hn⟩))) (λ b hb o q=>?_),F.hok.slots (λ b u o e q=>st b o (F.inb b o q (.inr (by rw [e]; simp)))),fl,λ b o q z=>?_⟩
 ·obtain ⟨_,o',ho',hd⟩:=F.fly.2.2.1.mem hb
  rw [q] at ho'; cases ho';exact up b o q hd
 ·have:∃ o1,s'.heap.get? b=some o1:=by
   rcases z with ⟨⟨o0,z⟩,_⟩ | z
   ·exact F.un.there b o0 z (by simp)
   ·cases e:H' b with
    | none=>exact absurd e z
    | some u=>exact (F.hok b u e).got
  obtain ⟨o1,q1⟩:=this;have b1:=F.inb b o1 q1 z;have:=st b o1 b1;rw [show h'.get? b=some o from q] at this
  cases this;exact b1
theorem Fly.new (F:Fly P w l H s ea t D B H' s'):s.heap.get? ea=none/\H' ea=none:=by
 obtain ⟨_,hb,hfr,oe,vs,T,oT,ts,he,hc,hd,_⟩:=F.fly;have nb:∀ o,B.get? ea≠some o:=λ o z=>by rw [hb] at z; cases z
 constructor
 ·cases q:s.heap.get? ea with
  | none=>rfl
  | some o0 =>
   refine absurd (F.inb ea oe he (.inl ⟨⟨o0,q⟩,λ hm=>?_⟩)) (nb _);obtain ⟨_,o,ho,hnf⟩:=hfr.mem hm;rw [he] at ho; cases ho;exact hnf vs hd
 ·cases q:H' ea with
  | none=>rfl
  | some u=>exact absurd (F.inb ea oe he (.inr (by rw [q]; simp))) (nb _)
theorem Fly.at (F:Fly P w l H s ea t D B H' s'):a6E ea D s'.heap:=by
 obtain ⟨o,h1,h2⟩:=F.fly.there;exact ⟨o,h1,h2⟩
theorem Fly.inv {X:Cx} {pins:List (Addr×Obj)} {σ:St} (I:Inv X pins σ H s) (F:Fly X.prog X.w X.stack H s ea t D B H' s'):Inv X pins σ H' s' :=
 I.call' F.os F.un F.hok F.bare (λ b z=>absurd z (by simp))
theorem Fly.track {X:Cx} {pins:List (Addr×Obj)} {σ:St} (I:Inv X pins σ H s) (F:Fly X.prog X.w X.stack H s ea t D B H' s'):Inv X pins σ (r6 H' ea (a7I ea D)) s':=by
 obtain ⟨n1,n2⟩:=F.new;have u:=F.un;refine I.call' F.os (ch:=[]) ⟨u.keep,u.slot,λ b o q n hx=>?_,u.there,λ b xs q=>?_,λ b o xs q=>?_,λ b ps q=>?_⟩ (λ a o e=>?_) F.bare (λ b z=>absurd z (by simp))
 ·rw [c9 (λ z=>by rw [z,n1] at q; cases q)]; exact u.free b o q n hx
 ·have:=u.tups b xs q
  rw [c9 (d7 this n2)]; exact this
 ·have:=u.frzs b o xs q
  rw [c9 (d7 this n2)]; exact this
 ·obtain ⟨m,e⟩:=u.tbls b ps q
  exact ⟨m,by rw [c9 (d7 e n2)]; exact e⟩
 ·by_cases ha:a=ea
  ·subst ha; rw [upd_same] at e; cases e
   exact b0X F.at
  ·rw [c9 ha] at e
   exact (F.hok a o e).stay (λ _ _ _ q=>q) (λ c q=>by rw [c9 (d7 q n2)]; exact q) λ c xs q=>by rw [c9 (d7 q n2)]; exact q
end
section
variable {P:Program} {w:World} {K:W.Frag} {mg:Str->Option Value} {base:Heap} {N:List Str} {qual:Str} {scope:Scope} {f:Addr} {cd:Value} {A:Around} {outer:List Env} {s₀:Shared} {H₀:Hp} {E:XK}
theorem a0X {b:Addr} {o:Obj} {X:Cx} {pins:List (Addr×Obj)} {σ:St} {H:Hp} {s:Shared} (I:Inv X pins σ H s) (e:X.s₀.heap.get? b=some o) (hb:b ∉ frs X.outer):b ∉ frs X.stack:=λ z=>by
 rcases aJ.mp (I.stkSub b z) with q | q
 ·have:=aR (Heap.lt_size e) I.ok.above
  rw [q] at this;exact bJ _ this
 ·exact hb q
theorem a2V:T3 (CX1 P w) (K1 (CX1 P w) P w K mg base N qual scope f cd A outer s₀ H₀ E) E:=by
 intro pins σ H s e s' I h;obtain ⟨ea,t,D,B,H',rfl,F,hE⟩:=h;have I':=F.inv I;refine wpAny_leaves_onW I.ok.frames rfl F.fly λ h' fl up=>?_;have st:∀ b o,B.get? b=some o->h'.get? b=some o:=fl.1;have bin:∀ b o,s'.heap.get? b=some o->(∃ o0,s₀.heap.get? b=some o0)->b ∉ frs outer->B.get? b=some o:=λ b o q ⟨o0,z⟩ hn=>by
  obtain ⟨o1,q1⟩:=I.base.there b o0 z (by show b ∉ ([]:List Addr); simp);exact F.inb b o q (.inl ⟨⟨o1,q1⟩,a0X I z hn⟩)
 refine ⟨ea,t,D,B,H',rfl,⟨I'.os,F.bare,I'.base.slots (λ b o q z hn=>st b o (bin b o q z hn)) (λ b hb o q=>?_),F.hok.slots (λ b u o e q=>st b o (F.inb b o q (.inr (by rw [e]; simp)))),fl,λ b o q z=>?_⟩,hE⟩
 ·obtain ⟨_,o',ho',hd⟩:=F.fly.2.2.1.2.2.mem hb
  rw [q] at ho'; cases ho';exact up b o q hd
 ·have:∃ o1,s'.heap.get? b=some o1/\B.get? b=some o1:=by
   rcases z with ⟨⟨o0,z⟩,hn⟩ | z
   ·obtain ⟨o1,q1⟩:=I'.base.there b o0 z (by show b ∉ ([]:List Addr); simp)
    exact ⟨o1,q1,bin b o1 q1 ⟨o0,z⟩ hn⟩
   ·cases e:H' b with
    | none=>exact absurd e z
    | some u =>
     obtain ⟨o1,q1⟩:=(F.hok b u e).got;exact ⟨o1,q1,F.inb b o1 q1 (.inr z)⟩
  obtain ⟨o1,_,b1⟩:=this;have:=st b o1 b1;rw [show h'.get? b=some o from q] at this
  cases this;exact b1
theorem b3q {pins:List (Addr×Obj)} {σ:St} {H:Hp} {s:Shared} {h1:Heap} {ea D:Addr} {vs:List Value} (I:Inv (K1 (CX1 P w) P w K mg base N qual scope f cd A outer s₀ H₀ E) pins σ H s) (hx:Heap.MadeExcOf s.heap h1 ea (.ref D) vs)
  (hE:E (.ref D) none H):(K1 (CX1 P w) P w K mg base N qual scope f cd A outer s₀ H₀ E).xe (.ref ea) { s with heap:=h1 }:=by
 have hin:∀ env∈(envOfC qual scope s₀.heap.objs.size f cd::outer),∀ b,env.frame=some b->b∈frs (envOfC qual scope s₀.heap.objs.size f cd::outer):=λ env he b hb=>hV.mpr ⟨env,he,hb⟩;refine wpAny_leaves_madeW (base:=W.hideAll s.heap (frs (envOfC qual scope s₀.heap.objs.size f cd::outer))) (h:=s.heap) I.ok.frames rfl (λ b o q=>W.of_hideAll _ q) (W.funFrames_hide I.stack hin) hx λ h' t fl _ _ up=>?_;have st:∀ b o,s.heap.get? b=some o->b ∉ frs (envOfC qual scope s₀.heap.objs.size f cd::outer)->h'.get? b=some o:=λ b o q hn=>fl.1 b o (W.hideAll_get _ q hn);have trn:∀ b u,H b=some u->b ∉ frs (envOfC qual scope s₀.heap.objs.size f cd::outer):=λ b u e z=>by
  have:=I.stkFree b z;rw [e] at this; cases this
 refine ⟨ea,t,D,_,H,rfl,⟨I.os,I.bare,I.base.slots (λ b o q ⟨o0,z⟩ hn=>st b o q (a0X I z hn)) (λ b hb o q=>?_),I.hok.slots (λ b u o e q=>st b o q (trn b u e)),fl,λ b o q z=>?_⟩,hE⟩
 ·obtain ⟨_,o',ho',hd⟩:=I.funs.mem hb
  rw [q] at ho'; cases ho';exact up b o (hx.keeps b o q) hd
 ·have:∃ o1,s.heap.get? b=some o1/\b ∉ frs (envOfC qual scope s₀.heap.objs.size f cd::outer):=by
   rcases z with ⟨⟨o0,z⟩,hn⟩ | z
   ·obtain ⟨o1,q1⟩:=I.base.there b o0 z (by show b ∉ ([]:List Addr); simp)
    exact ⟨o1,q1,a0X I z hn⟩
   ·cases e:H b with
    | none=>exact absurd e z
    | some u =>
     obtain ⟨o1,q1⟩:=(I.hok b u e).got;exact ⟨o1,q1,trn b u e⟩
  obtain ⟨o1,q1,hn⟩:=this;have:=st b o1 q1 hn;rw [show h'.get? b=some o from q] at this
  cases this;exact W.hideAll_get _ q1 hn
end
section
variable {X:Cx} {e:Expr} {te:TE} {a:Str} {j:Nat} {p1 p2 p3:Pos}
def tFs (te:TE):TE:=λ σ H Q=>te σ H λ v H1=>∃ i:Int,v=.int i/\i.natAbs.log2<1920/\∀ x,Q (.str x) H1
theorem b0r (he:PE X e te) (ha:a.length<=1000):PE X (.JoinedStr [.Constant (.str a) j p1,.FormattedValue e (-1) none p2] p3) (tFs te):=by
 intro pins s σ H Q I h;refine JoinedStr_many (joinParts_cons ?_);refine A8 (D8 pins s σ H (λ v H'=>v=.str a/\H'=H) I ⟨rfl,rfl⟩) λ u s1 ⟨v,H1,I1,r,hv,hH⟩=>?_;subst hv; subst hH;obtain ⟨tk,rfl⟩:=r;have e0:(Str.empty++a).length=a.length:=by rw [strLen_append]; show 0+a.length=a.length; omega
 refine ⟨by rw [e0]; exact aW ha (by decide),joinParts_cons (FormattedValue_plain ?_)⟩;refine A8 (he pins s1 σ H1 _ I1 h) λ u s2 ⟨v,H2,I2,r,i,hv,hi,q⟩=>?_;subst hv;obtain ⟨tk2,rfl⟩:=r;refine formatField_int_small hi ?_;have hl:(Str.empty++a++Str.ofString (toString i)).length<=sizeLine:=by
  rw [strLen_append,e0];have h1:=int_text_length_le (a:=i) (k:=1920) (by decide) hi;rw [jO,sizeLine_eq];omega
 refine ⟨hl,joinParts_nil ?_ hl⟩;exact ⟨.str _,H2,(I2.tok _).tok _,⟨_,rfl⟩,q _⟩
end
section
variable {P:Program} {w:World} {K:W.Frag} {mg:Str->Option Value} {base:Heap} {N:List Str} {qual:Str} {scope:Scope} {f:Addr} {cd:Value} {A:Around} {outer:List Env} {s₀:Shared} {H₀:Hp} {E:XK}
 {x:Str} {D:Addr} {e:Expr} {t:TA} {np cpos pos:Pos}
def a9r (t:TA) (D:Addr) (E:XK):TS:=λ _ σ H=>t σ H λ vs H1=>vs.length<=1000/\E (.ref D) none H1
theorem a2z (k:V5 K D) (hg:Gl (K1 (CX1 P w) P w K mg base N qual scope f cd A outer s₀ H₀ E) x) (hm:mg x=some (.ref D)) (hh:A.handled=none)
  (ha:PA (K1 (CX1 P w) P w K mg base N qual scope f cd A outer s₀ H₀ E) [e] t)
  (he:starEach [e] (envOfC qual scope s₀.heap.objs.size f cd)=[(false,eval e (envOfC qual scope s₀.heap.objs.size f cd))]:=by rfl) (hdb:(x==("__debug__":Str))=false:=by decide) :
  PS (K1 (CX1 P w) P w K mg base N qual scope f cd A outer s₀ H₀ E) (.Raise (some (.Call (.Name x np) [e] [] cpos)) none pos) (a9r t D E):=by
 intro pins s σ H Dn I h;obtain ⟨nm,q,Na,bs,bm,hdct,sn,sub,ab,col,dd,k0,k1,k2,k3,k5,lk,ok,ni,tl⟩:=k.ob;have tb:∀ h:Heap,K.In h->OwnTail h [.type "ValueError",.type "Exception",.type "BaseException",.type "object"] bm:=λ h X=>W.tail_of_in X tl;have nsf:∀ h:Heap,K.In h->h.Ns Na (h.nsMap Na)/\h.nsMap Na "__init__"=none:=λ h X=>⟨.of_isNs (W.isNs_of_in X ok),W.nsMap_none_of_in X ok ni⟩;have hN0:=(nsf s.heap I.kIn).1;refine wpAny_Raise_call_subT (C:=D) (nm:=nm) (q:=q) (N:=Na) (bs:=bs) (bm:=bm) (hdct:=hdct) (sn:=sn) (sub:=sub) (ab:=ab) (col:=col) (dd:=dd) (k0:=k0) (k1:=k1) (k2:=k2) (k3:=k3) (k5:=k5) (newId:="ValueError.__new__")
  F.excBase_ValueError (mN:=base.nsMap Na) ((tb base I.mod.kin).hasType (by decide +kernel)) (by show (A.deeper _).handled=none; exact hh) (by rw [show starEach [e] (K1 (CX1 P w) P w K mg base N qual scope f cd A outer s₀ H₀ E).env=_ from he]; rfl)
  (nsf base I.mod.kin).2 (Z0 I hg hm ⟨rfl,?_⟩ hdb)
 have h2:=ha cpos pins s σ H _ I h;rw [show starEach [e] (K1 (CX1 P w) P w K mg base N qual scope f cd A outer s₀ H₀ E).env=_ from he] at h2 ⊢;refine Calls.evalArgs_plain (wpAny_mono h2 (λ us s2 ⟨vs,H2,I2,r,hl,hE⟩=>⟨rfl,by rw [<- r.length]; exact cO (m8 hl),I2.kIn _ _ lk,(nsf base I.mod.kin).1.keeps I2.bk,tb _ I2.kIn,λ h' ea hx=>b3q I2 hx hE⟩) λ _ _ z=>z)
end
def a1H (CX:CXT) (X:Cx) (EX:St->XK):Prop:=∀ (pins:List (Addr×Obj)) (σ:St) (H:Hp) (s:Shared) (e:Value) (s':Shared),Inv X pins σ H s->CX X.stack H s (EX σ) e s'->X.xe e s'
section
variable {X:Cx} {CX:CXT} {k:Nat} {f:Addr} {fd:FuncData} {ps:List Str} {sp:Sp} {EX:St->XK} {x:Str} {p pos:Pos} {e:Expr} {es:List Expr} {t:TA}
end
abbrev Cx.held (X:Cx) (ea:Addr):Cx:={ X with A:=X.A.mark (some (.ref ea)),calm:=false,xe:=λ _ _=>False }
abbrev Cx.tried (X:Cx) (pn:List (Addr×Obj)) (E:Value->Shared->Prop):Cx:={ X with pn:=pn,xe:=E }
section
variable {X:Cx} {pins:List (Addr×Obj)} {σ:St} {H:Hp} {s:Shared} {ea:Addr}
theorem Cx.Ok.held (ok:X.Ok):(X.held ea).Ok :=
 ⟨ok.mod,ok.kind,ok.glob,ok.blt,ok.above,ok.inj,ok.has,ok.cab,(λ z=>jP z),ok.frames,ok.stk,ok.exf,ok.bs,ok.bsz,ok.noex,ok.exfs,ok.funs,ok.frf⟩
theorem Inv.held (I:Inv X pins σ H s) (ea:Addr):Inv (X.held ea) pins σ H s:=⟨I.ok.held,I.os,I.bare,I.base,I.loc,I.cell,I.free,I.freeC,I.pin,I.hok,I.len⟩
theorem Inv.unheld (ok:X.Ok) (I:Inv (X.held ea) pins σ H s):Inv X pins σ H s:=⟨ok,I.os,I.bare,I.base,I.loc,I.cell,I.free,I.freeC,I.pin,I.hok,I.len⟩
theorem Cx.Ok.tried (ok:X.Ok) {pn:List (Addr×Obj)} {E:Value->Shared->Prop}:(X.tried pn E).Ok :=
 ⟨ok.mod,ok.kind,ok.glob,ok.blt,ok.above,ok.inj,ok.has,ok.cab,ok.hd,ok.frames,ok.stk,ok.exf,ok.bs,ok.bsz,ok.noex,ok.exfs,ok.funs,ok.frf⟩
theorem Inv.tried (I:Inv X pins σ H s) {E:Value->Shared->Prop}:Inv (X.tried (X.pn++pins) E) [] σ H s:=⟨I.ok.tried,I.os,I.bare,I.base,I.loc,I.cell,I.free,I.freeC,by rw [eW]; exact I.pin,I.hok,I.len⟩
theorem Inv.untried (ok:X.Ok) {E:Value->Shared->Prop} {pins':List (Addr×Obj)} (I:Inv (X.tried (X.pn++pins) E) pins' σ H s):Inv X pins σ H s :=
 ⟨ok,I.os,I.bare,I.base,I.loc,I.cell,I.free,I.freeC,λ p hp=>I.pin p (dN _ hp),I.hok,I.len⟩
theorem Z6 {M:Model} {A:Around} {E:Value->Shared->Prop} {i:Nat} {n:Str} {pos:Pos} {Q:Unit->Shared->Prop} (I:Inv X pins σ H s) (hN:X.N.Nodup) (hi:X.N[i]?=some n) (hk:X.env.scope.names.lookup n=some .local)
  (h:∀ s',Inv X pins (σ.set i none) H s'->Q () s'):wpAny M A (do bindName X.env n .none; unbindBehindTheSuite X.env n pos) Q E s:=by
 obtain ⟨m,hn,hl⟩:=id I.loc;have hcls:(X.env.scope.kind==.class || (X.env.scope.kind==.module&&X.env.locals != X.env.globals))=false:=by rw [I.ok.kind]; rfl
 have hiσ:i<σ.length:=by rw [I.len]; exact (bQ.mp hi).1
 have cne:=I.cne;refine wpAny_nameGoes_keeps hk hn hcls λ h' v hn' hs=>?_;obtain ⟨oL,_,_,hoL,_⟩:=id hn;have far:∀ b o,X.s₀.heap.get? b=some o->b≠X.env.locals:=λ b o e=>bI (aR (Heap.lt_size e) I.ok.above);refine h _ ⟨I.ok,I.os,I.bare,⟨λ b o e n hb hx=>?_,λ b o e n hb hx=>?_,I.base.free,λ b o e hx=>?_,I.base.tups,I.base.frzs,I.base.tbls⟩,⟨_,hn',λ j y v' e1 e2 e3=>?_⟩,λ y c e=>?_,I.free,I.freeC,λ p hp=>?_,λ b ob e=>?_,by simpa using I.len⟩
 ·exact (hs.2 b (far b o e)).trans (I.base.keep b o e n hb hx)
 ·obtain ⟨sl,e1⟩:=I.base.slot b o e n hb hx
  exact ⟨sl,(hs.2 b (far b o e)).trans e1⟩
 ·obtain ⟨o',e1⟩:=I.base.there b o e hx
  exact ⟨o',(hs.2 b (far b o e)).trans e1⟩
 ·by_cases hj:j=i
  ·subst hj
   rw [bV hiσ] at e2
   cases e2
  ·rw [bE (aS hj)] at e2
   obtain ⟨u',r',q⟩:=hl j y v' e1 e2 e3;refine ⟨u',r',?_⟩;rcases q with ⟨k,e⟩ | ⟨k,c,e,z⟩
   ·refine .inl ⟨k,?_⟩
    have:y≠n:=λ e=>hj (a2k hN e1 (e ▸ hi));simp [this,e]
   ·exact .inr ⟨k,c,e,z.sameBut hs (cne y c e)⟩
 ·obtain ⟨w',z⟩:=I.cell y c e
  exact ⟨w',z.sameBut hs (cne y c e)⟩
 ·obtain ⟨e,n,ne,nf,d⟩:=I.pin p hp
  exact ⟨(hs.2 p.1 ne).trans e,n,ne,nf,d⟩
 ·refine (I.hok b ob e).stay (λ c w' hc q=>(hs.2 c ?_).trans q) (λ _ q=>q) λ _ _ q=>q
  rintro rfl;rcases hc with z | hc
  ·rw [<- z,I.free] at e; cases e
  ·rw [I.free] at hc; cases hc
end
def Ends.less (D:Ends) (i:Nat):Ends:={ nx:=λ σ H=>D.nx (σ.set i none) H,rt:=D.rt,bk:=λ σ H=>D.bk (σ.set i none) H,ct:=λ σ H=>D.ct (σ.set i none) H }
def b4Q (K:W.Frag) (R:Addr) (tb:(St->XK)->TS) (i:Nat) (ts:TS):TS:=λ D σ H=>∃ EX:St->XK,tb EX D σ H ∧
 ∀ σ' H' C ea d,EX σ' C d H'->H' ea=none->∀ Da,C=.ref Da->V5 K Da/\W.mroIn K Da (.ref R)=some true/\ts (D.less i) (σ'.set i (some (.ref ea))) (r6 H' ea (a7I ea Da))
section
variable {X:Cx} {x n:Str} {R:Addr} {i:Nat} {tb:(St->XK)->TS} {ts:TS} {body suite:List Stmt} {b₀:Stmt} {np hpos pos:Pos}
theorem b2j (kR:V5 X.K R) (hN:X.N.Nodup) (hi:X.N[i]?=some n) (hk:X.env.scope.names.lookup n=some .local) (hst:X.stack=X.env::X.outer) (hgl:Gl X x) (hm:X.mg x=some (.ref R))
  (hb:∀ (EX:St->XK) (pn:List (Addr×Obj)) (E:Value->Shared->Prop),a1H (CX1 X.prog X.w) (X.tried pn E) EX->PSs (X.tried pn E) body (tb EX))
  (hs:∀ ea,PSs (X.held ea) (b₀::suite) ts) (hdb:(x==("__debug__":Str))=false:=by decide) :
  PS X (.Try body [.ExceptHandler (some (.Name x np)) (some n) (b₀::suite) hpos] [] [] pos) (b4Q X.K R tb i ts):=by
 intro pins s σ H D I ⟨EX,hq,hh⟩;refine wpAny_Try_except ?_;have pass:a1H (CX1 X.prog X.w) (X.tried (X.pn++pins) λ e s'=>∃ σ' H0 s0,Inv X pins σ' H0 s0/\CX1 X.prog X.w X.stack H0 s0 (EX σ') e s') EX:=λ pins' σ' H0 s0 e s' I0 q=>⟨σ',H0,s0,I0.untried I.ok,q⟩;refine wpAny_mono (hb EX _ _ pass [] s σ H D I.tried hq) (λ f s1 q=>?_) λ e s1 ⟨σ',H0,s0,I0,cx⟩=>?_
 ·cases f with
  | next=>obtain ⟨σ',H',J,q⟩:=q; exact wpAny_execs_nil ⟨σ',H',J.untried I.ok,q⟩
  | brk=>obtain ⟨σ',H',J,q⟩:=q; exact ⟨σ',H',J.untried I.ok,q⟩
  | cont=>obtain ⟨σ',H',J,q⟩:=q; exact ⟨σ',H',J.untried I.ok,q⟩
  | ret u=>obtain ⟨v,σ',H',J,r,q⟩:=q; exact ⟨v,σ',H',J.untried I.ok,r,q⟩
 ·obtain ⟨ea,t,Da,B,H',rfl,F,hE⟩:=cx
  have hfr:X.A.frames=some (X.env::X.outer):=by rw [I.ok.frames,hst]
  have hf:X.env.frame=some X.env.locals:=by
   rcases I.ok.stk with z | ⟨_,z⟩
   ·rw [hst] at z
    have:=congrArg hZ z;simp at this
   ·exact z
  have Ffly:=F.fly;rw [hst] at Ffly;refine wpAny_looks_onW hfr hf Ffly λ h4 held4 up4=>wpAny_landsW held4 λ h5 fly5 up5=>?_;have F5:=F.slots (by rw [hst]; exact fly5) (up4.trans up5);refine wpAny_handleBy_cons (codeAny_handlers_test ?_) (by intro q; cases q);have I5:=(F5.inv I0).held ea;refine Z0 I5 hgl hm ?_ hdb;obtain ⟨kD,hsub,hts⟩:=hh σ' H' _ ea none hE F.new.2 Da rfl;obtain ⟨oe,he,hc⟩:=F5.at;refine a7t I5.kIn he hc hsub kR ?_;refine codeAny_handlers_suite_as ?_;refine lands_againW fly5 λ h6 fly6 up6=>?_;have F6:=F5.slots (by rw [hst]; exact fly6) up6;have I6:=(F6.track I0).held ea;refine W2 (X:=X.held ea) (v:=.ref ea) I6 hN hi (aC hk) (rfl:RelV (.ref ea) (.ref ea)) (λ s7 I7=>?_) (.inr hk);refine wpAny_mono (hs ea pins s7 _ _ (D.less i) I7 hts) (λ f s8 q=>?_) λ _ _ z=>z.elim
  cases f with
  | next=>obtain ⟨σ2,H2,J,q⟩:=q; exact Z6 (J.unheld I.ok) hN hi hk λ s9 J9=>⟨_,_,J9,q⟩
  | brk=>obtain ⟨σ2,H2,J,q⟩:=q; exact Z6 (J.unheld I.ok) hN hi hk λ s9 J9=>⟨_,_,J9,q⟩
  | cont=>obtain ⟨σ2,H2,J,q⟩:=q; exact Z6 (J.unheld I.ok) hN hi hk λ s9 J9=>⟨_,_,J9,q⟩
  | ret u=>obtain ⟨v,σ2,H2,J,r,q⟩:=q; exact Z6 (J.unheld I.ok) hN hi hk λ s9 J9=>⟨v,_,_,J9,r,q⟩
end
structure a4W (k:Nat) (A:Around):Prop where
 dp:A.depth+3*k+5<recursionLimit
 un:A.units+16*k+200<cLine
theorem Room.u {k:Nat} {A:Around} (r:Room k A) (e:Option Value):a4W k (A.mark e):=⟨r.dp,r.un⟩
structure FnU (P:Program) (w:World) (K:W.Frag) (mg:Str->Option Value) (base:Heap) (k:Nat) (f:Addr) (fd:FuncData) (ps:List Str) (sp:Sp):Prop where
 len:∀ vs H Q E,sp vs H Q E->vs.length=ps.length
 run:∀ (A:Around) (outer:List Env) (s:Shared) (H:Hp) (args:Args) (us:List Value) (vs:List V) (Q:VK) (E:XK),a4W k A->Env0 P w K mg base A outer s H->BindsTo s fd args (ps.zip us)->Vals vs us->sp vs H Q E →
  codeAny (model P w) A (.call (.ref f) args) (CR E4 outer P w H s Q E) s
abbrev a4q (P:Program) (w:World) (K:W.Frag) (mg:Str->Option Value) (base:Heap) (N:List Str) (qual:Str) (scope:Scope) (f:Addr) (cd:Value) (A:Around) (outer:List Env) (s:Shared) (H:Hp):Cx :=
 { K1 E4 P w K mg base N qual scope f cd A outer s H E0 with calm:=false,xe:=λ _ _=>False }
theorem a5G {P:Program} {w:World} {K:W.Frag} {mg:Str->Option Value} {base:Heap} {N ps:List Str} {qual:Str} {scope:Scope} {f:Addr} {cd:Value} {A:Around} {outer:List Env} {s s1:Shared} {H:Hp} {us:List Value} {vs:List V}
  (S:m9 N ps scope) (e0:Env0 P w K mg base A outer s H) (hl:vs.length=ps.length) (r:Vals vs us)
  (x:InCallC s s.heap.objs.size (bindL (envOfC qual scope s.heap.objs.size f cd).kindOf (ps.zip us) λ _=>none) (cellsFrom (s.heap.objs.size+1) scope.names []) (bindC (envOfC qual scope s.heap.objs.size f cd).kindOf (ps.zip us) λ _=>none) s1) :
  Inv (a4q P w K mg base N qual scope f cd A outer s H) [] (N8 N vs) H s1:=by
 have e1:Env0 P w K mg base ({ A with handled:=none }) outer s H:=⟨e0.frames,e0.mod,e0.bs,e0.bsz,e0.funs,e0.frf,e0.hok,e0.bare⟩;have I:=a2K (CX:=E4) (E:=E0) (qual:=qual) (f:=f) (cd:=cd) S (A:={ A with handled:=none }) rfl e1 hl r x;have ok:=I.ok;exact ⟨⟨ok.mod,ok.kind,ok.glob,ok.blt,ok.above,ok.inj,ok.has,ok.cab,(λ z=>jP z),Around.frames_deeper e0.frames,.inr ⟨rfl,rfl⟩,ok.exf,ok.bs,ok.bsz,ok.noex,ok.exfs,ok.funs,ok.frf⟩,I.os,I.bare,I.base,I.loc,I.cell,I.free,I.freeC,I.pin,I.hok,I.len⟩
theorem b1P {P:Program} {w:World} {K:W.Frag} {mg:Str->Option Value} {base:Heap} {k:Nat} {f:Addr} {name qual:Str} {params:Arguments} {body:List Stmt} {scope:Scope} {dV kV doc pm cdv ct oc:Value} {an od:Option Addr}
  {osl:Array (Option Value)} {N ps:List Str} {sp:Sp} (lk:K.lookup f=some ⟨oc,od,.func (W.fnOf name qual params body scope dV kV doc pm an cdv ct),osl⟩) (hcd:W.codeIn K cdv qual=true) (S:m9 N ps scope)
  (len:∀ vs H Q E,sp vs H Q E->vs.length=ps.length)
  (hbody:∀ (A:Around) (outer:List Env) (s:Shared) (H:Hp) (vs:List V) (Q:VK) (E:XK),a4W k (A.deeper (envOfC qual scope s.heap.objs.size f cdv))->sp vs H Q E →
   ∃ t,PSs (a4q P w K mg base N qual scope f cdv A outer s H) body t/\t { nx:=λ _ H'=>Q .non H',rt:=Q } (N8 N vs) H) :
  FnU P w K mg base (k+1) f (W.fnOf name qual params body scope dV kV doc pm an cdv ct) ps sp:=by
 refine ⟨len,λ A outer s H args us vs Q E hr e0 hb r hsp=>?_⟩;have hl:=len _ _ _ _ hsp;have KX:K.In s.heap:=e0.mod.kin.keeps λ b o e=>(e0.bs b o e).1;have lim:s.heap.NoLimit:=e0.mod.nolimit.keeps λ b o e=>(e0.bs b o e).1;have hkind:∀ y∈ps.zip us,scope.names.lookup y.1=some .local\/(scope.names.lookup y.1=some .cell/\((cellsFrom (s.heap.objs.size+1) scope.names []).lookup y.1).isSome=true):=λ ⟨n,v⟩ hy=>by
  rcases S.par n (gJ hy).1 with q | q
  ·exact .inl q
  ·exact .inr ⟨q,W.cellsFrom_some _ _ _ (.inl q)⟩
 refine codeAny_call_function (by have:=hr.dp; omega) (KX _ _ lk) rfl S.co S.gen rfl (W.codeRec_of KX hcd) (hb _ _ _ _ ?_);refine wpAny_newFunctionEnv_cells S.kind hkind λ env he s1 x=>?_;subst he;refine ⟨lim.keeps x.toInCall.keep,codeAny_func ?_⟩;obtain ⟨t,ht,hq⟩:=hbody A outer s H vs Q E ⟨by have:=hr.dp; show A.depth+1+3*k+5<_; omega,by have:=hr.un; show A.units+3+16*k+200<_; omega⟩ hsp;have I:Inv (a4q P w K mg base N qual scope f cdv A outer s H) [] (N8 N vs) H s1:=a5G S e0 hl r x;refine wpAny_mono (ht [] s1 (N8 N vs) H _ I hq) (λ fl s' hs=>?_) λ e s' hs=>hs.elim;have fin:∀ {σ':St} {H':Hp} {v:V} {u:Value},Inv (a4q P w K mg base N qual scope f cdv A outer s H) [] σ' H' s'->RelV v u->Q v H'->CE outer P w H s Q u s' :=
  λ {σ' H' v u} J rv q=>⟨v,H',J.os,J.bare,J.base,J.hok,rv,q⟩
 cases fl with
 | ret u =>
  obtain ⟨v,σ',H',J,rv,q⟩:=hs;exact fin J rv q
 | next =>
  obtain ⟨σ',H',J,q⟩:=hs;exact fin (v:=V.non) (u:=Value.none) J rfl q
 | brk =>
  obtain ⟨_,_,_,q⟩:=hs;exact bM q
 | cont =>
  obtain ⟨_,_,_,q⟩:=hs;exact bM q
section
variable {P:Program} {w:World} {K:W.Frag} {mg:Str->Option Value} {base:Heap}
theorem Fun.okU {x qual:Str} {st:Stmt} {f:Addr} {fd:FuncData} {N ps:List Str} {k:Nat} {sp:Sp} (F:Fun K x qual st f fd) (S:m9 N ps (i8 st)) (len:∀ vs H Q E,sp vs H Q E->vs.length=ps.length)
  (hbody:∀ (cdv:Value) (A:Around) (outer:List Env) (s:Shared) (H:Hp) (vs:List V) (Q:VK) (E:XK),a4W k (A.deeper (envOfC qual (i8 st) s.heap.objs.size f cdv))->sp vs H Q E →
   ∃ t,PSs (a4q P w K mg base N qual (i8 st) f cdv A outer s H) (w4 st) t/\t { nx:=λ _ H'=>Q .non H',rt:=Q } (N8 N vs) H):FnU P w K mg base (k+1) f fd ps sp:=by
 obtain ⟨oc,od,kV,doc,pm,an,cdv,ct,osl,rfl,lk,hcd⟩:=F.ex;exact b1P lk hcd S len λ A outer s H vs Q E hr hsp=>hbody cdv A outer s H vs Q E hr hsp
theorem Fun.ok1 {x qual:Str} {st:Stmt} {f:Addr} {fd:FuncData} {N ps:List Str} {k:Nat} {sp:Sp} (F:Fun K x qual st f fd) (S:m9 N ps (i8 st)) (len:∀ vs H Q E,sp vs H Q E->vs.length=ps.length)
  (hbody:∀ (cdv:Value) (A:Around) (outer:List Env) (s:Shared) (H:Hp) (vs:List V) (Q:VK) (E:XK),Room k (A.deeper (envOfC qual (i8 st) s.heap.objs.size f cdv))->sp vs H Q E →
   ∃ t,PSs (K1 (CX1 P w) P w K mg base N qual (i8 st) f cdv A outer s H E) (w4 st) t/\t { nx:=λ _ H'=>Q .non H',rt:=Q } (N8 N vs) H):FnOk P w K mg base (CX1 P w) (k+1) f fd ps sp:=by
 obtain ⟨oc,od,kV,doc,pm,an,cdv,ct,osl,rfl,lk,hcd⟩:=F.ex;exact a8M lk hcd S len λ A outer s H vs Q E hr hsp=>hbody cdv A outer s H vs Q E hr hsp
end
section
variable {X:Cx} {k:Nat} {f:Addr} {fd:FuncData} {ps:List Str} {sp:Sp} {x:Str} {p pos:Pos} {e:Expr} {es:List Expr} {t:TA}
theorem a9c (F:FnU X.prog X.w X.K X.mg X.base k f fd ps sp) (hr:a4W k X.A) (hg:Gl X x) (hm:X.mg x=some (.ref f)) (hk:W.keepIn X.K (.ref f)=true) (hb:Binds X.K fd ps [])
  (ha:PA X (e::es) t) (hdb:(x==("__debug__":Str))=false:=by decide) (he:starEach (e::es) X.env=(false,eval e X.env)::starEach es X.env:=by rfl) (hpl:(backTo pos (starEach es X.env)).any (·.1)=false:=by rfl) :
  PE X (.Call (.Name x p) (e::es) [] pos) (b1F sp [] E0 t):=by
 intro pins s σ H Q I h;refine wpAny_Call_Name_kw (Z0 I hg hm ?_ hdb);refine W.callWith_K (h₀:=X.base) I.ok.mod.kin hk (A8 (ha pos pins s σ H _ I h) λ us s1 ⟨vs,H1,I1,r,q⟩=>⟨I1.kIn,?_⟩) he hpl
 replace q:sp (vs++[]) H1 Q E0:=q
 rw [eW] at q;have hl:(us++[]).length=ps.length:=by rw [eW,<- r.length]; exact F.len _ _ _ _ q
 have hb':=hb s1 us I1.kIn hl;rw [eW] at hb';refine wpAny_call (codeAny_mono (F.run X.A X.stack s1 H1 ⟨us,[]⟩ us vs Q E0 hr I1.env0 hb' r q) λ rr s' hq=>?_)
 cases rr with
 | error e=>exact bM hq
 | ok fl =>
  cases fl with
  | ret u=>exact I1.after hq
  | next=>exact bM hq
  | brk=>exact bM hq
  | cont=>exact bM hq
end
section
variable {prog:Program} {w:World} {A:Around} {E:Value->Shared->Prop} {s:Shared}
theorem b0y {j tp:Addr} {i:Nat} {vs:Array Value} {x:Value} {Q:Value->Shared->Prop} (q1:IsTupIter s.heap j tp i) (q2:IsTup s.heap tp vs) (q3:vs[i]?=some x)
  (q:∀ h',IsTupIter h' j tp (i+1)->Heap.SameBut j s.heap h'->Q x { s with heap:=h' }):wpAny (model prog w) A (Builtin.SmallTypes.nextOf (.ref j)) Q E s:=by
 obtain ⟨oj,g1,g2,g3⟩:=id q1;obtain ⟨ot,g4,_,nt,g5⟩:=q2;unfold Builtin.SmallTypes.nextOf;refine wpAny_bind (wpAny_callSpecial?_slot (name:=Str.ofString "__next__") q1.typeIs slot_tupleiter_next (wpAny_call_entry slot_tupleiter_next q1.typeIs entry_tupleiter_next ?_ (args_tupleiter_next _)))
 show wpAny _ _ (field (.ref j) 0 >>= _) _ _ s
 refine wpAny_bind (wpAny_field g1 g3 (x:=.ref tp) rfl ?_)
 show wpAny _ _ (if (Value.ref tp==Value.none)=true then _ else _) _ _ s
 rw [if_neg (λ z=>by cases z)]
 show wpAny _ _ (field (.ref j) 1 >>= _) _ _ s
 refine wpAny_bind (wpAny_field g1 g3 (x:=.int i 0) rfl ?_)
 show wpAny _ _ (seqItems? (.ref tp) >>= _) _ _ s
 refine wpAny_bind (wpAny_seqItems g4 g5 ?_);simp only [aY,q3];refine wpAny_bind (wpAny_setField g1 g3 (by simp) (wpAny_pure ⟨x,rfl,wpAny_pure (q _ ?_ (Heap.SameBut.update ..))⟩));refine ⟨_,Heap.get?_update_self _ g1 (Obj.isFreed_of_fields (Obj.data_mapFields g3 _)),(Obj.cls_mapFields ..).trans g2,?_⟩;rw [Obj.data_mapFields g3];simp [rawInt]
theorem b2i {j tp:Addr} {i:Nat} {vs:Array Value} {Q:Value->Shared->Prop} (hh:A.handled=none) (q1:IsTupIter s.heap j tp i) (q2:IsTup s.heap tp vs) (q3:vs[i]?=none)
  (q:∀ h' e,Heap.ExtBut j s.heap h'->(∃ o,h'.get? e=some o/\o.cls=.type "StopIteration")->E (.ref e) { s with heap:=h' }):wpAny (model prog w) A (Builtin.SmallTypes.nextOf (.ref j)) Q E s:=by
 obtain ⟨oj,g1,g2,g3⟩:=id q1;obtain ⟨ot,g4,_,nt,g5⟩:=q2;unfold Builtin.SmallTypes.nextOf;refine wpAny_bind (wpAny_callSpecial?_slot (name:=Str.ofString "__next__") q1.typeIs slot_tupleiter_next (wpAny_call_entry slot_tupleiter_next q1.typeIs entry_tupleiter_next ?_ (args_tupleiter_next _)))
 show wpAny _ _ (field (.ref j) 0 >>= _) _ _ s
 refine wpAny_bind (wpAny_field g1 g3 (x:=.ref tp) rfl ?_)
 show wpAny _ _ (if (Value.ref tp==Value.none)=true then _ else _) _ _ s
 rw [if_neg (λ z=>by cases z)]
 show wpAny _ _ (field (.ref j) 1 >>= _) _ _ s
 refine wpAny_bind (wpAny_field g1 g3 (x:=.int i 0) rfl ?_)
 show wpAny _ _ (seqItems? (.ref tp) >>= _) _ _ s
 refine wpAny_bind (wpAny_seqItems g4 g5 ?_);simp only [aY,q3];refine wpAny_bind (wpAny_rule (wpAny_bind (wpAny_setField g1 g3 (by simp) ?_)))
 show wpAny _ _ (do let e <- newExc (.type "StopIteration") []; _) _ _ _
 simp only [newExc,newTuple];refine wpAny_bind (wpAny_bind (wpAny_newObj_type (wpAny_bind (m:=firstArgMember _ _) (wpAny_of_eq (a:=Value.none) (by first | rfl | (simp only [firstArgMember]; rfl)) (wpAny_newObj_type ?_ (by size_fits)))) (by size_fits)));simp only [raiseNew];refine wpAny_bind (wpAny_handled ?_);rw [show A.in1.handled=none from hh];exact wpAny_bind (wpAny_pure (wpAny_throw (q _ _ (((Heap.SameBut.update ..).extBut.push _).push _) ⟨_,Heap.get?_push_size _ rfl,rfl⟩)))
theorem IsTupIter.at' {h h':Heap} {a t:Addr} {i:Nat} (x:IsTupIter h a t i) (e:∀ o,h.get? a=some o->h'.get? a=some o):IsTupIter h' a t i:=let ⟨o,ho,r⟩:=x; ⟨o,e _ ho,r⟩
end
def IsB:Bool->Heap->Addr->Array Value->Prop
 | true,h,t,xs=>h.IsList t xs
 | false,h,t,xs=>IsTup h t xs
def ItB:Bool->Heap->Addr->Addr->Nat->Prop
 | true,h,j,t,k=>h.IsListIter j t k
 | false,h,j,t,k=>IsTupIter h j t k
def SqB:Bool->W.Frag->Hp->Addr->List V->Prop
 | true,K,H,a,xs=>SqL K H a xs
 | false,K,H,a,xs=>SqT K H a xs
def itN:Bool->String
 | true=>"list_iterator"
 | false=>"tuple_iterator"
section
variable {b:Bool} {h h':Heap} {j t c:Addr} {k:Nat} {xs:Array Value}
theorem ItB.at' (x:ItB b h j t k) (e:∀ o,h.get? j=some o->h'.get? j=some o):ItB b h' j t k:=by
 cases b
 ·exact IsTupIter.at' x e
 ·exact Heap.IsListIter.at x e
theorem ItB.extBut (x:ItB b h j t k) (hs:Heap.ExtBut c h h') (n:j≠c):ItB b h' j t k:=x.at' λ o e=>hs j o n e
theorem IsB.at' (x:IsB b h t xs) (e:∀ o,h.get? t=some o->h'.get? t=some o):IsB b h' t xs:=by
 cases b
 ·obtain ⟨o,ho,r⟩:=x; exact ⟨o,e o ho,r⟩
 ·obtain ⟨o,ho,r⟩:=x; exact ⟨o,e o ho,r⟩
theorem IsB.extBut (x:IsB b h t xs) (hs:Heap.ExtBut c h h') (n:t≠c):IsB b h' t xs:=x.at' λ o e=>hs t o n e
theorem IsB.push (x:IsB b h t xs) (o:Obj):IsB b (h.push o) t xs:=x.at' λ _ e=>Heap.get?_push_of_some _ e
theorem IsB.lt (x:IsB b h t xs):t<h.objs.size:=by
 cases b
 ·obtain ⟨o,ho,_⟩:=x; exact Heap.lt_size ho
 ·obtain ⟨o,ho,_⟩:=x; exact Heap.lt_size ho
theorem ItB.mk (e:h.get? j=some { cls:=.type (itN b),data:=.fields #[.ref t,.int 0 0] }):ItB b h j t 0:=by
 cases b
 ·exact ⟨_,e,rfl,rfl⟩
 ·exact ⟨_,e,rfl,rfl⟩
theorem ItB.obj (x:ItB b h j t k):∃ o,h.get? j=some o/\∃ vs,o.data=.fields vs:=by
 cases b
 ·obtain ⟨o,ho,_,d⟩:=x; exact ⟨o,ho,_,d⟩
 ·obtain ⟨o,ho,_,d⟩:=x; exact ⟨o,ho,_,d⟩
theorem Same.sqB {K:W.Frag} {H H':Hp} {a:Addr} {ys:List V} (e:Same H H') (x:SqB b K H a ys):SqB b K H' a ys:=by
 cases b
 ·exact e.tseq x
 ·exact e.seq x
theorem Inv.sqB {X:Cx} {pins:List (Addr×Obj)} {σ:St} {H:Hp} {s:Shared} {a:Addr} {ys:List V} (I:Inv X pins σ H s) (x:SqB b X.K H a ys):∃ its:List Value,Vals ys its/\IsB b s.heap a its.toArray/\ys.length<=sizeLine:=by
 cases b
 ·exact I.tuple x
 ·obtain ⟨i,r,p,z⟩:=I.list x
  exact ⟨i,r,p.isList,z⟩
theorem Inv.sqB_inj {X:Cx} {pins:List (Addr×Obj)} {σ:St} {H:Hp} {s:Shared} {a:Addr} {ys zs:List V} (I:Inv X pins σ H s) (x:SqB b X.K H a ys) (y:SqB b X.K H a zs):ys=zs:=by
 cases b
 ·exact I.tuple_inj x y
 ·exact I.list_inj x y
end
section
variable {prog:Program} {w:World} {A:Around} {E:Value->Shared->Prop} {s:Shared}
theorem K4 {b:Bool} {j tp:Addr} {i:Nat} {vs:Array Value} {x:Value} {Q:Value->Shared->Prop} (q1:ItB b s.heap j tp i) (q2:IsB b s.heap tp vs) (q3:vs[i]?=some x)
  (q:∀ h',ItB b h' j tp (i+1)->Heap.SameBut j s.heap h'->Q x { s with heap:=h' }):wpAny (model prog w) A (Builtin.SmallTypes.nextOf (.ref j)) Q E s:=by
 cases b
 ·exact b0y q1 q2 q3 q
 ·exact wpAny_nextOf_list_item q1 q2 q3 q
theorem a0b {b:Bool} {j tp:Addr} {i:Nat} {vs:Array Value} {Q:Value->Shared->Prop} (hh:A.handled=none) (q1:ItB b s.heap j tp i) (q2:IsB b s.heap tp vs) (q3:vs[i]?=none)
  (q:∀ h' e,Heap.ExtBut j s.heap h'->(∃ o,h'.get? e=some o/\o.cls=.type "StopIteration")->E (.ref e) { s with heap:=h' }):wpAny (model prog w) A (Builtin.SmallTypes.nextOf (.ref j)) Q E s:=by
 cases b
 ·exact b2i hh q1 q2 q3 q
 ·exact wpAny_nextOf_list_end hh q1 q2 q3 q
theorem b1v {b:Bool} {t:Addr} {xs:Array Value} {Q:Value->Shared->Prop} (m:IsB b s.heap t xs) (h:Q (.ref s.heap.objs.size) { s with heap:=s.heap.push { cls:=.type (itN b),data:=.fields #[.ref t,.int 0 0] } }):wpAny (model prog w) A (pyIter (.ref t)) Q E s:=by
 cases b
 ·exact iter_tuple m h
 ·exact wpAny_pyIter_list m h
theorem b0j {b1 b2:Bool} {z ti to j1 j2 t1 t2:Addr} {k1 k2:Nat} {xs ys:Array Value} {x y a b:Value} {Q:Value->Shared->Prop} (D:ZipApart z ti to j1 j2 t1 t2)
  (q0:IsZip s.heap z ti to .none) (p1:IsPair s.heap ti (.ref j1) (.ref j2)) (p2:IsPair s.heap to a b)
  (i1:ItB b1 s.heap j1 t1 k1) (i2:ItB b2 s.heap j2 t2 k2) (l1:IsB b1 s.heap t1 xs) (l2:IsB b2 s.heap t2 ys) (ex:xs[k1]?=some x) (ey:ys[k2]?=some y)
  (q:∀ h',IsZip h' z ti to (rawInt s.heap.objs.size)->IsPair h' to x y->ItB b1 h' j1 t1 (k1+1)->ItB b2 h' j2 t2 (k2+1)->IsPair h' s.heap.objs.size x y →
   (∀ c o,c≠z->c≠to->c≠j1->c≠j2->s.heap.get? c=some o->h'.get? c=some o)->Q (.ref s.heap.objs.size) { s with heap:=h' }) :
  wpAny (model prog w) A (Builtin.«zip.__next__» ⟨[.ref z],[]⟩) (λ fin s'=>∃ v,fin=.done (.ret v)/\Q v s') E s:=by
 show wpAny _ _ (field (.ref z) 2 >>= _) _ _ _
 refine wpAny_bind (wpAny_field q0 rfl (x:=.bool false) rfl (show wpAny _ _ (field (.ref z) 3 >>= _) _ _ _ from wpAny_bind (wpAny_field q0 rfl (x:=.ref ti) rfl (wpAny_bind (wpAny_seqItems p1 rfl ?_)))))
 show wpAny _ _ (do let free <- Builtin.SmallTypes.ownedTupleIsFree (.ref z); _) _ _ _
 unfold Builtin.SmallTypes.ownedTupleIsFree;refine wpAny_bind (wpAny_bind (wpAny_field q0 rfl (x:=.none) rfl (wpAny_pure ?_)));simp only [if_true];refine wpAny_bind (wpAny_rule (wpAny_bind (wpAny_field q0 rfl (x:=.ref to) rfl (wpAny_bind (wpAny_setField_rec q0 (by simp) λ u1 z1 s1=>?_)))));have z1':IsZip u1 z ti to .ellipsis:=z1;refine wpAny_bind ?_;simp only [gO,gP,eL,eZ];refine wpAny_bind (wpAny_bind (wpAny_onRaise (show wpAny _ _ (Builtin.SmallTypes.nextOf (.ref j1) >>= _) _ _ _ from wpAny_bind (K4 (i1.extBut s1.extBut D.i1z) (l1.extBut s1.extBut D.l1z) ex λ u2 j1' s2=>wpAny_pure ?_))));have to2:IsPair u2 to a b:=s2.extBut _ _ D.TOi1 (s1.extBut _ _ D.TOz p2);refine wpAny_bind (wpAny_seqItems to2 rfl (wpAny_bind (wpAny_updateSeq_pair to2 λ u3 to3 s3=>wpAny_bind (wpAny_letGo (wpAny_pure ?_)))));have to3':IsPair u3 to x b:=to3;refine wpAny_bind (wpAny_bind (wpAny_onRaise (show wpAny _ _ (Builtin.SmallTypes.nextOf (.ref j2) >>= _) _ _ _ from wpAny_bind (K4 (((i2.extBut s1.extBut D.i2z).extBut s2.extBut D.i12.symm).extBut s3.extBut D.TOi2.symm)
  (((l2.extBut s1.extBut D.l2z).extBut s2.extBut D.l2i1).extBut s3.extBut D.l2TO) ey λ u4 j2' s4=>wpAny_pure ?_))))
 have to4:IsPair u4 to x b:=s4.extBut _ _ D.TOi2 to3';refine wpAny_bind (wpAny_seqItems to4 rfl (wpAny_bind (wpAny_updateSeq_pair to4 λ u5 to5 s5=>wpAny_bind (wpAny_letGo (wpAny_pure (wpAny_pure ?_))))));have to5':IsPair u5 to x y:=to5;refine wpAny_bind (wpAny_seqItems to5' rfl (wpAny_bind (wpAny_newTuple ?_)));have sz:u5.objs.size=s.heap.objs.size:=by rw [s5.1,s4.1,s3.1,s2.1,s1.1]
 have z5:IsZip u5 z ti to .ellipsis:=s5.extBut _ _ D.TOz.symm (s4.extBut _ _ D.i2z.symm (s3.extBut _ _ D.TOz.symm (s2.extBut _ _ D.i1z.symm z1')));have kp:∀ c o,c≠z->c≠to->c≠j1->c≠j2->s.heap.get? c=some o->u5.get? c=some o:=λ c o n1 n2 n3 n4 e=>s5.extBut _ _ n2 (s4.extBut _ _ n4 (s3.extBut _ _ n2 (s2.extBut _ _ n3 (s1.extBut _ _ n1 e))));have a1:ItB b1 u5 j1 t1 (k1+1):=((j1'.extBut s3.extBut D.TOi1.symm).extBut s4.extBut D.i12).extBut s5.extBut D.TOi1.symm;have a2:ItB b2 u5 j2 t2 (k2+1):=j2'.extBut s5.extBut D.TOi2.symm;have zl:z<u5.objs.size:=Heap.lt_size z5
 show wpAny _ _ (do let r <- Builtin.SmallTypes.ownedTupleHandOut (.ref z) (.ref u5.objs.size); _) _ _ _
 unfold Builtin.SmallTypes.ownedTupleHandOut;have z6:IsZip (u5.push { cls:=.type "tuple",data:=.seq #[x,y] }) z ti to .ellipsis:=Heap.get?_push_of_some _ z5;refine wpAny_bind (wpAny_bind (wpAny_setField_rec z6 (by simp) λ u7 z7 s7=>?_));have z7':IsZip u7 z ti to (rawInt u5.objs.size):=z7;refine wpAny_setField_rec z7' (by simp) λ u8 z8 s8=>?_;have z8':IsZip u8 z ti to (rawInt u5.objs.size):=z8;have up:∀ c o,c≠z->u5.get? c=some o->u8.get? c=some o:=λ c o n1 e=>s8.extBut _ _ n1 (s7.extBut _ _ n1 (Heap.get?_push_of_some _ e));have nt8:IsPair u8 u5.objs.size x y:=s8.extBut _ _ (cP zl) (s7.extBut _ _ (cP zl) (Heap.get?_push_size _ rfl));rw [sz] at z8' nt8;refine wpAny_pure ⟨_,rfl,?_⟩
 show Q (.ref u5.objs.size) _
 rw [sz];exact q u8 z8' (up _ _ D.TOz to5') (ItB.at' a1 λ o e=>up _ o D.i1z e) (ItB.at' a2 λ o e=>up _ o D.i2z e) nt8 λ c o n1 n2 n3 n4 e=>up c o n1 (kp c o n1 n2 n3 n4 e)
theorem b2N {b1 b2:Bool} {z ti to j1 j2 t1 t2:Addr} {k1 k2:Nat} {xs ys:Array Value} {a b:Value} {Q:gA->Shared->Prop} (hh:A.handled=none) (D:ZipApart z ti to j1 j2 t1 t2)
  (q0:IsZip s.heap z ti to .none) (p1:IsPair s.heap ti (.ref j1) (.ref j2)) (p2:IsPair s.heap to a b)
  (i1:ItB b1 s.heap j1 t1 k1) (i2:ItB b2 s.heap j2 t2 k2) (l1:IsB b1 s.heap t1 xs) (l2:IsB b2 s.heap t2 ys) (en:xs[k1]?=none\/ys[k2]?=none)
  (q:∀ h' e,(∀ c o,c≠z->c≠to->c≠j1->c≠j2->s.heap.get? c=some o->h'.get? c=some o)->(∃ o,h'.get? e=some o/\o.cls=.type "StopIteration")->E (.ref e) { s with heap:=h' }) :
  wpAny (model prog w) A (Builtin.«zip.__next__» ⟨[.ref z],[]⟩) Q E s:=by
 show wpAny _ _ (field (.ref z) 2 >>= _) _ _ _
 refine wpAny_bind (wpAny_field q0 rfl (x:=.bool false) rfl (show wpAny _ _ (field (.ref z) 3 >>= _) _ _ _ from wpAny_bind (wpAny_field q0 rfl (x:=.ref ti) rfl (wpAny_bind (wpAny_seqItems p1 rfl ?_)))))
 show wpAny _ _ (do let free <- Builtin.SmallTypes.ownedTupleIsFree (.ref z); _) _ _ _
 unfold Builtin.SmallTypes.ownedTupleIsFree;refine wpAny_bind (wpAny_bind (wpAny_field q0 rfl (x:=.none) rfl (wpAny_pure ?_)));simp only [if_true];refine wpAny_bind (wpAny_rule (wpAny_bind (wpAny_field q0 rfl (x:=.ref to) rfl (wpAny_bind (wpAny_setField_rec q0 (by simp) λ u1 z1 s1=>?_)))));have z1':IsZip u1 z ti to .ellipsis:=z1;refine wpAny_bind ?_;simp only [gO,gP,eL,eZ]
 cases ex:xs[k1]? with
 | none =>
  refine wpAny_bind (wpAny_bind (wpAny_onRaise (show wpAny _ _ (Builtin.SmallTypes.nextOf (.ref j1) >>= _) _ _ _ from wpAny_bind (a0b hh (i1.extBut s1.extBut D.i1z) (l1.extBut s1.extBut D.l1z) ex λ u2 e s2 ⟨oe,e1,e2⟩=>?_))));have z2:IsZip u2 z ti to .ellipsis:=s2 _ _ D.i1z.symm z1';have ne:e≠z:=λ c=>by subst c; rw [z2] at e1; cases e1; simp at e2
  exact wpAny_setField_rec z2 (by simp) λ u3 _ s3=>q u3 e (λ c o n1 _ n3 _ m=>s3.extBut _ _ n1 (s2 _ _ n3 (s1.extBut _ _ n1 m))) ⟨oe,s3.extBut _ _ ne e1,e2⟩
 | some x =>
  have ey:ys[k2]?=none:=by
   rcases en with m | m
   ·rw [ex] at m; cases m
   ·exact m
  refine wpAny_bind (wpAny_bind (wpAny_onRaise (show wpAny _ _ (Builtin.SmallTypes.nextOf (.ref j1) >>= _) _ _ _ from wpAny_bind (K4 (i1.extBut s1.extBut D.i1z) (l1.extBut s1.extBut D.l1z) ex λ u2 j1' s2=>wpAny_pure ?_))));have to2:IsPair u2 to a b:=s2.extBut _ _ D.TOi1 (s1.extBut _ _ D.TOz p2);refine wpAny_bind (wpAny_seqItems to2 rfl (wpAny_bind (wpAny_updateSeq_pair to2 λ u3 to3 s3=>wpAny_bind (wpAny_letGo (wpAny_pure ?_)))));refine wpAny_bind (wpAny_bind (wpAny_onRaise (show wpAny _ _ (Builtin.SmallTypes.nextOf (.ref j2) >>= _) _ _ _ from wpAny_bind (a0b hh (((i2.extBut s1.extBut D.i2z).extBut s2.extBut D.i12.symm).extBut s3.extBut D.TOi2.symm)
   (((l2.extBut s1.extBut D.l2z).extBut s2.extBut D.l2i1).extBut s3.extBut D.l2TO) ey λ u4 e s4 ⟨oe,e1,e2⟩=>?_))))
  have z4:IsZip u4 z ti to .ellipsis:=s4 _ _ D.i2z.symm (s3.extBut _ _ D.TOz.symm (s2.extBut _ _ D.i1z.symm z1'));have ne:e≠z:=λ c=>by subst c; rw [z4] at e1; cases e1; simp at e2
  exact wpAny_setField_rec z4 (by simp) λ u5 _ s5=>q u5 e (λ c o n1 n2 n3 n4 m=>s5.extBut _ _ n1 (s4 _ _ n4 (s3.extBut _ _ n2 (s2.extBut _ _ n3 (s1.extBut _ _ n1 m))))) ⟨oe,s5.extBut _ _ ne e1,e2⟩
theorem b1a {b1 b2:Bool} {z ti to j1 j2 t1 t2:Addr} {k1 k2:Nat} {xs ys:Array Value} {x y a b:Value} {Q:Option Value->Shared->Prop} (D:ZipApart z ti to j1 j2 t1 t2)
  (q0:IsZip s.heap z ti to .none) (p1:IsPair s.heap ti (.ref j1) (.ref j2)) (p2:IsPair s.heap to a b)
  (i1:ItB b1 s.heap j1 t1 k1) (i2:ItB b2 s.heap j2 t2 k2) (l1:IsB b1 s.heap t1 xs) (l2:IsB b2 s.heap t2 ys) (ex:xs[k1]?=some x) (ey:ys[k2]?=some y)
  (q:∀ h',IsZip h' z ti to (rawInt s.heap.objs.size)->IsPair h' to x y->ItB b1 h' j1 t1 (k1+1)->ItB b2 h' j2 t2 (k2+1)->IsPair h' s.heap.objs.size x y →
   (∀ c o,c≠z->c≠to->c≠j1->c≠j2->s.heap.get? c=some o->h'.get? c=some o)->Q (some (.ref s.heap.objs.size)) { s with heap:=h' }) :
  wpAny (model prog w) A (pyNext (.ref z)) Q E s:=by
 have ty:s.TypeIs (.ref z) "zip":=⟨_,q0,rfl⟩;unfold pyNext;exact wpAny_bind (wpAny_attempt (wpAny_callSpecial?_slot (name:=Str.ofString "__next__") ty F.slot_zip_next (wpAny_call_entry F.slot_zip_next ty F.entry_zip_next
  (b0j D q0 p1 p2 i1 i2 l1 l2 ex ey λ h' b1 b2 b3 b4 b5 b6=>wpAny_pure (q h' b1 b2 b3 b4 b5 b6)) (F.args_zip_next_1 _))))
theorem b1h {b1 b2:Bool} {z ti to j1 j2 t1 t2:Addr} {k1 k2:Nat} {xs ys:Array Value} {a b:Value} {Q:Option Value->Shared->Prop} (hh:A.handled=none) (D:ZipApart z ti to j1 j2 t1 t2)
  (q0:IsZip s.heap z ti to .none) (p1:IsPair s.heap ti (.ref j1) (.ref j2)) (p2:IsPair s.heap to a b)
  (i1:ItB b1 s.heap j1 t1 k1) (i2:ItB b2 s.heap j2 t2 k2) (l1:IsB b1 s.heap t1 xs) (l2:IsB b2 s.heap t2 ys) (en:xs[k1]?=none\/ys[k2]?=none)
  (q:∀ h',(∀ c o,c≠z->c≠to->c≠j1->c≠j2->s.heap.get? c=some o->h'.get? c=some o)->Q none { s with heap:=h' }):wpAny (model prog w) A (pyNext (.ref z)) Q E s:=by
 have ty:s.TypeIs (.ref z) "zip":=⟨_,q0,rfl⟩;unfold pyNext;refine wpAny_bind (wpAny_attempt (wpAny_callSpecial?_slot (name:=Str.ofString "__next__") ty F.slot_zip_next (wpAny_call_entry F.slot_zip_next ty F.entry_zip_next
  (b2N hh D q0 p1 p2 i1 i2 l1 l2 en λ h' e kp ⟨o,e1,e2⟩=>wpAny_bind (wpAny_isInstance (T:="StopIteration") (b:=true) ⟨o,e1,e2⟩ isSubtype_stop (wpAny_pure (q _ kp)))) (F.args_zip_next_1 _))))
end
abbrev zg1 (b1:Bool) (h:Heap) (t1:Addr):Heap:=h.push { cls:=.type (itN b1),data:=.fields #[.ref t1,.int 0 0] }
abbrev zg2 (b1 b2:Bool) (h:Heap) (t1 t2:Addr):Heap:=(zg1 b1 h t1).push { cls:=.type (itN b2),data:=.fields #[.ref t2,.int 0 0] }
abbrev zg3 (b1 b2:Bool) (h:Heap) (t1 t2:Addr):Heap:=(zg2 b1 b2 h t1 t2).push { cls:=.type "tuple",data:=.seq #[.ref h.objs.size,.ref (zg1 b1 h t1).objs.size] }
abbrev zg4 (b1 b2:Bool) (h:Heap) (t1 t2:Addr):Heap:=(zg3 b1 b2 h t1 t2).push { cls:=.type "tuple",data:=.seq #[.none,.none] }
abbrev zg5 (b1 b2:Bool) (h:Heap) (t1 t2:Addr):Heap:=(zg4 b1 b2 h t1 t2).push { cls:=.type "zip",data:=.fields #[.none,.bool false,.bool false,.ref (zg2 b1 b2 h t1 t2).objs.size,.ref (zg3 b1 b2 h t1 t2).objs.size] }
theorem b2l (b1 b2:Bool) (t1 t2:Addr) (xs ys:Array Value) :
  Meets (Builtin.«zip.__new__» ⟨[.type "zip",.ref t1,.ref t2],[]⟩) (λ _ R s=>IsB b1 s.heap t1 xs/\IsB b2 s.heap t2 ys/\R (.ok (.ret (.ref (zg4 b1 b2 s.heap t1 t2).objs.size))) { s with heap:=zg5 b1 b2 s.heap t1 t2 }) :=
 .of_wp λ prog w A R s h=>by
  obtain ⟨hp,g,d,tk,os⟩:=s;obtain ⟨e1,e2,h⟩:=h;have hsub:=sub_zip;have m1:IsB b1 (Shared.heap ⟨hp,g,d,tk,os⟩) t1 xs:=e1;have m2:IsB b2 (Shared.heap ⟨hp.push { cls:=.type (itN b1),data:=.fields #[.ref t1,.int 0 0] },g,d,tk,os⟩) t2 ys:=IsB.push e2 _
  wp_walk using b1v m1,b1v m2
  exact ⟨_,rfl,h⟩
section
variable {prog:Program} {w:World} {A:Around} {E:Value->Shared->Prop} {s:Shared}
theorem a6f {b1 b2:Bool} {t1 t2:Addr} {xs ys:Array Value} {Q:Value->Shared->Prop} (l1:IsB b1 s.heap t1 xs) (l2:IsB b2 s.heap t2 ys)
  (q:∀ h',IsZip h' (s.heap.objs.size+4) (s.heap.objs.size+2) (s.heap.objs.size+3) .none->IsPair h' (s.heap.objs.size+2) (.ref s.heap.objs.size) (.ref (s.heap.objs.size+1))->IsPair h' (s.heap.objs.size+3) .none .none →
   ItB b1 h' s.heap.objs.size t1 0->ItB b2 h' (s.heap.objs.size+1) t2 0->(∀ c o,s.heap.get? c=some o->h'.get? c=some o)->Q (.ref (s.heap.objs.size+4)) { s with heap:=h' }) :
  wpAny (model prog w) A (call (.type "zip") [.ref t1,.ref t2]) Q E s:=by
 refine callType_new F.called_zip (by decide) (F.typeCall_zip_2 _ _) (F.newCall_zip_2 _ _) (λ ob=>F.args_object_init_3 ob _ _) F.entry_zip_new (b2l b1 b2 t1 t2 xs ys) ⟨l1,l2,?_⟩;have n1:(zg1 b1 s.heap t1).objs.size=s.heap.objs.size+1:=Heap.size_push ..;have n2:(zg2 b1 b2 s.heap t1 t2).objs.size=s.heap.objs.size+2:=by rw [Heap.size_push,n1]
 have n3:(zg3 b1 b2 s.heap t1 t2).objs.size=s.heap.objs.size+3:=by rw [Heap.size_push,n2]
 have n4:(zg4 b1 b2 s.heap t1 t2).objs.size=s.heap.objs.size+4:=by rw [Heap.size_push,n3]
 have p5:(zg5 b1 b2 s.heap t1 t2).get? (zg4 b1 b2 s.heap t1 t2).objs.size=some _:=Heap.get?_push_size _ rfl;have p4:(zg5 b1 b2 s.heap t1 t2).get? (zg3 b1 b2 s.heap t1 t2).objs.size=some _:=Heap.get?_push_of_some _ (Heap.get?_push_size _ rfl);have p3:(zg5 b1 b2 s.heap t1 t2).get? (zg2 b1 b2 s.heap t1 t2).objs.size=some _:=Heap.get?_push_of_some _ (Heap.get?_push_of_some _ (Heap.get?_push_size _ rfl));have p2:(zg5 b1 b2 s.heap t1 t2).get? (zg1 b1 s.heap t1).objs.size=some _:=Heap.get?_push_of_some _ (Heap.get?_push_of_some _ (Heap.get?_push_of_some _ (Heap.get?_push_size _ rfl)));have p1:(zg5 b1 b2 s.heap t1 t2).get? s.heap.objs.size=some _:=Heap.get?_push_of_some _ (Heap.get?_push_of_some _ (Heap.get?_push_of_some _ (Heap.get?_push_of_some _ (Heap.get?_push_size _ rfl))));rw [n2,n3,n4] at p5;rw [n1,n2] at p3;rw [n3] at p4;rw [n1] at p2
 show _/\_
 rw [n4];refine ⟨⟨_,p5,rfl⟩,q _ p5 p3 p4 (ItB.mk p1) (ItB.mk p2) λ c o m=>?_⟩;exact Heap.get?_push_of_some _ (Heap.get?_push_of_some _ (Heap.get?_push_of_some _ (Heap.get?_push_of_some _ (Heap.get?_push_of_some _ m))))
end
def Itg (b1 b2:Bool) (K:W.Frag) (l1 l2:Addr):It :=
  ⟨λ i H=>∃ xs ys x y,SqB b1 K H l1 xs/\SqB b2 K H l2 ys/\xs[i]?=some x/\ys[i]?=some y,
   λ i H x H'=>∃ p a b,H p=none/\x=.ref p/\H'=r6 H p (.tup [a,b])/\∀ xs ys,SqB b1 K H l1 xs->SqB b2 K H l2 ys->xs[i]?=some a/\ys[i]?=some b,
   λ i H=>∃ xs ys,SqB b1 K H l1 xs/\SqB b2 K H l2 ys/\(xs.length<=i\/ys.length<=i)⟩
theorem b1c {b1 b2:Bool} {P:Program} {w:World} {K:W.Frag} {elts:List Expr} {x1:Nat} {pos:Pos} {z ti to j1 j2 l1 l2:Addr} (D:ZipApart z ti to j1 j2 l1 l2) :
  a5A P w K (.Tuple elts x1 pos) (Itg b1 b2 K l1 l2) [z,ti,to,j1,j2] z (λ i h=>IsZip h z ti to .none/\IsPair h ti (.ref j1) (.ref j2)/\(∃ a b,IsPair h to a b)/\ItB b1 h j1 l1 i/\ItB b2 h j2 l2 i) where
 mem:=by simp
 obj:=λ i h st b hb=>by
  obtain ⟨hz,hti,⟨a,c,hto⟩,h1,h2⟩:=st;obtain ⟨o1,e1,v1,d1⟩:=h1.obj;obtain ⟨o2,e2,v2,d2⟩:=h2.obj;simp only [aJ,aZ,or_false] at hb;rcases hb with rfl | rfl | rfl | rfl | rfl
  ·exact ⟨_,hz,λ v q=>by cases q⟩
  ·exact ⟨_,hti,λ v q=>by cases q⟩
  ·exact ⟨_,hto,λ v q=>by cases q⟩
  ·exact ⟨o1,e1,λ v q=>by rw [d1] at q; cases q⟩
  ·exact ⟨o2,e2,λ v q=>by rw [d2] at q; cases q⟩
 keep:=λ i h h' st k=>by
  obtain ⟨hz,hti,⟨a,c,hto⟩,h1,h2⟩:=st;exact ⟨k z (by simp) _ hz,k ti (by simp) _ hti,⟨a,c,k to (by simp) _ hto⟩,ItB.at' h1 λ o e=>k j1 (by simp) o e,ItB.at' h2 λ o e=>k j2 (by simp) o e⟩
 item:=by
  intro X hP hw hK hc i pins s σ H E I hf st hg;subst hP hw hK;obtain ⟨xs,ys,x,y,hq1,hq2,hx,hy⟩:=hg;obtain ⟨hz,hti,⟨a,c,hto⟩,h1,h2⟩:=st;obtain ⟨its1,rv1,p1,_⟩:=I.sqB hq1;obtain ⟨its2,rv2,p2,_⟩:=I.sqB hq2;obtain ⟨u1,hu1,ru1⟩:=rv1.get hx;obtain ⟨u2,hu2,ru2⟩:=rv2.get hy;refine b1a D hz hti hto h1 h2 p1 p2 (x:=u1) (y:=u2) (by simpa using hu1) (by simpa using hu2) λ h' a1 a2 a3 a4 a5 a7=>?_;refine ⟨_,rfl,wpAny_letOwnedTupleGo_zip (s:={ s with heap:=h' }) a1 λ h'' hz'' hs''=>?_⟩;have neT:∀ b∈[z,ti,to,j1,j2],b≠s.heap.objs.size:=λ b hb e=>by
   have:∃ o,s.heap.get? b=some o:=by
    obtain ⟨o1,e1,_⟩:=h1.obj;obtain ⟨o2,e2,_⟩:=h2.obj;simp only [aJ,aZ,or_false] at hb;rcases hb with rfl | rfl | rfl | rfl | rfl
    ·exact ⟨_,hz⟩
    ·exact ⟨_,hti⟩
    ·exact ⟨_,hto⟩
    ·exact ⟨_,e1⟩
    ·exact ⟨_,e2⟩
   obtain ⟨o,ho⟩:=this;exact absurd (Heap.lt_size ho) (by rw [e]; exact bJ _)
  have kk:∀ b o,b ∉ [z,ti,to,j1,j2]->s.heap.get? b=some o->h''.get? b=some o:=λ b o hb e=>by
   simp only [aJ,aZ,or_false,not_or] at hb;exact hs''.extBut b o hb.1 (a7 b o hb.1 hb.2.2.1 hb.2.2.2.1 hb.2.2.2.2 e)
  have tti:h'.get? ti=_:=a7 ti _ D.TIz D.TITO D.TIi1 D.TIi2 hti;have st':IsZip h'' z ti to .none/\IsPair h'' ti (.ref j1) (.ref j2)/\(∃ a b,IsPair h'' to a b)/\ItB b1 h'' j1 l1 (i+1)/\ItB b2 h'' j2 l2 (i+1) :=
   ⟨hz'',hs''.extBut _ _ D.TIz tti,⟨_,_,hs''.extBut _ _ D.TOz a2⟩,a3.extBut hs''.extBut D.i1z,a4.extBut hs''.extBut D.i2z⟩
  have hoF:∀ b∈[z,ti,to,j1,j2],∃ o,h''.get? b=some o:=λ b hb=>by
   obtain ⟨q1,q2,⟨_,_,q3⟩,q4,q5⟩:=st';obtain ⟨o1,e1,_⟩:=q4.obj;obtain ⟨o2,e2,_⟩:=q5.obj;simp only [aJ,aZ,or_false] at hb;rcases hb with rfl | rfl | rfl | rfl | rfl
   ·exact ⟨_,q1⟩
   ·exact ⟨_,q2⟩
   ·exact ⟨_,q3⟩
   ·exact ⟨_,e1⟩
   ·exact ⟨_,e2⟩
  have zs:z≠s.heap.objs.size:=neT z (by simp);have tup:IsTup h'' s.heap.objs.size [u1,u2].toArray:=⟨_,hs''.extBut _ _ (aS zs) a5,rfl,0,rfl⟩;refine ⟨.ref s.heap.objs.size,r6 H s.heap.objs.size (.tup [x,y]),I.turnedLaid (h':=h'') hf kk hoF (aF _) (by show 2<=sizeLine; decide) (.cons ru1 (.cons ru2 .nil)) tup,rfl,⟨_,x,y,I.fresh,rfl,rfl,λ xs' ys' q1 q2=>?_⟩,st',λ b hb=>?_⟩
  ·rw [I.sqB_inj q1 hq1,I.sqB_inj q2 hq2]; exact ⟨hx,hy⟩
  ·rw [c9 (neT b hb)]; exact (hf b hb).1
 done:=by
  intro X hP hw hK hc i pins s σ H E I hf st hg;subst hP hw hK;obtain ⟨xs,ys,hq1,hq2,hend⟩:=hg;obtain ⟨hz,hti,⟨a,c,hto⟩,h1,h2⟩:=st;obtain ⟨its1,rv1,p1,_⟩:=I.sqB hq1;obtain ⟨its2,rv2,p2,_⟩:=I.sqB hq2;have hl1:=rv1.length;have hl2:=rv2.length;refine b1h (I.ok.hd hc) D hz hti hto h1 h2 p1 p2 (by
   rcases hend with q | q
   ·exact .inl (by simp; omega)
   ·exact .inr (by simp; omega)) λ h' k=>⟨rfl,I.turnedAll hf λ b o hb e=>?_⟩
  simp only [aJ,aZ,or_false,not_or] at hb;exact k b o hb.1 hb.2.2.1 hb.2.2.2.1 hb.2.2.2.2 e
 self:=λ _ _ _ _ _ st h=>wpAny_pyIter_zip st.1 h
def iZg (b1 b2:Bool) (K:W.Frag) (ta:TA):TI:=λ σ H R=>ta σ H λ vs H1=>∃ l1 l2,vs=[.ref l1,.ref l2]/\(∃ xs,SqB b1 K H1 l1 xs)/\(∃ ys,SqB b2 K H1 l2 ys)/\R (Itg b1 b2 K l1 l2) H1
theorem a8I (b1 b2:Bool) (K:W.Frag) {X:Cx} {a b:Expr} {ta:TA} {p pos pos':Pos} {elts:List Expr} {x1:Nat} (hK:X.K=K) (hg:Gl X "zip") (hm:X.mg "zip"=none) (ha:PA X [a,b] ta) (hs:starEach [a,b] X.env=[(false,eval a X.env),(false,eval b X.env)]:=by rfl) (hs2:starEach [b] X.env=[(false,eval b X.env)]:=by rfl) :
  PI X (.Tuple elts x1 pos') (.Call (.Name "zip" p) [a,b] [] pos) (iZg b1 b2 K ta):=by
 subst hK;intro pins s σ H R I h;refine Call_ (U5 I hg hm boot_zip (fJ (A8 (ha pos pins s σ H _ I h) λ us s1 ⟨vs,H1,I1,r1,q1⟩=>?_) (by rw [hs,hs2]) (by rw [hs2]; rfl)));obtain ⟨l1,l2,e,⟨xs,q1⟩,⟨ys,q2⟩,q⟩:=q1;subst e;obtain ⟨u1,u2,rfl,ru1,ru2⟩:=a2A r1
 cases ru1
 cases ru2;obtain ⟨its1,rv1,p1,_⟩:=I1.sqB q1;obtain ⟨its2,rv2,p2,_⟩:=I1.sqB q2;refine a6f p1 p2 λ h' z1 z2 z3 z4 z5 k=>?_;have I2:Inv X pins σ H1 { s1 with heap:=h' }:=I1.kept (t':=s1.toks) k;refine wpAny_pyIter_zip z1 ?_;have D:ZipApart (s1.heap.objs.size+4) (s1.heap.objs.size+2) (s1.heap.objs.size+3) s1.heap.objs.size (s1.heap.objs.size+1) l1 l2:=a9k _ _ _ p1.lt p2.lt;refine ⟨s1.heap.objs.size+4,[s1.heap.objs.size+4,s1.heap.objs.size+2,s1.heap.objs.size+3,s1.heap.objs.size,s1.heap.objs.size+1],_,_,H1,rfl,I2,b1c D,⟨z1,z2,⟨_,_,z3⟩,z4,z5⟩,λ b hb=>?_,q⟩;have hb':s1.heap.objs.size<=b:=by
  simp only [aJ,aZ,or_false] at hb;rcases hb with rfl | rfl | rfl | rfl | rfl
  ·exact dP _ _
  ·exact dP _ _
  ·exact dP _ _
  ·exact aF _
  ·exact dP _ _
 exact I1.fpOk hb' (I1.hok.fresh hb')
section
variable {b1 b2:Bool} {xs ys:List V} {K:W.Frag} {l1 l2:Addr} {fr:List Nat} {te:TE} {σ:St} {H1:Hp} {p:Addr} {D:Hp->Prop}
theorem a5w (h1:SqB b1 K H1 l1 xs) (h2:SqB b2 K H1 l2 ys) (hp:H1 p=none) (hz:xs.length<sizeLine) (R:Nat->V->Hp->Prop) (hR:∀ i y H H',R i y H->(∀ b o,b≠p->H b=some o->H' b=some o)->R i y H')
  (step:∀ (i:Nat) x y H zs (N:VK),xs[i]?=some x->ys[i]?=some y->Same H1 H->H p=some (.lst zs)->(∀ v H3,Same H H3->R i v H3->N v H3)->te (((blkσ 2 fr σ).set 0 (some x)).set 1 (some y)) H N)
  (hd:∀ zs H,Same H1 H->H p=some (.lst zs)->zs.length=min xs.length ys.length->(∀ i z,zs[i]?=some z->R i z H)->D H):lcW 2 fr (a5x K 2 (W8 (J8 0) (W8 (J8 1) a7A))) te σ (Itg b1 b2 K l1 l2) H1 p D:=by
 refine ⟨λ i m zs H=>m=min xs.length ys.length - i/\i<=min xs.length ys.length/\Same H1 H/\H p=some (.lst zs)/\zs.length=i/\∀ j y,zs[j]?=some y->R j y H,⟨_,rfl,bR _,Same.new hp _,upd_same,rfl,λ j y e=>by simp at e⟩,?_⟩;rintro i m zs H ⟨rfl,hi,e,hH,len,pr⟩
 by_cases hlt:i<min xs.length ys.length
 ·have hx:i<xs.length:=by omega
  have hy:i<ys.length:=by omega
  refine .inr ⟨⟨xs,ys,xs[i],ys[i],e.sqB h1,e.sqB h2,aH hx,aH hy⟩,λ u H' y=>?_⟩;obtain ⟨q,a,b,hq,rfl,rfl,hab⟩:=y;obtain ⟨ha,hb⟩:=hab xs ys (e.sqB h1) (e.sqB h2);have s1:=Same.new hq (.tup [a,b]);refine ⟨q,_,rfl,SqT.of upd_same,rfl,_,_,rfl,_,_,rfl,rfl,?_,?_⟩
  ·refine ⟨by simp,λ k w ek=>?_⟩
   have:¬ k<2:=λ hk=>by
    unfold blkσ at ek;rw [bO (by simpa using hk),dL] at ek
    split at ek <;> cases ek
   rw [bE (by omega),bE (by omega)]; exact ek
  ·refine step i a b _ zs _ ha hb (e.trans s1) (s1 _ _ hH) λ v H3 s3 r3=>⟨s3 _ _ (s1 _ _ hH),by omega,min xs.length ys.length - (i+1),by omega,rfl,hlt,λ b' o q'=>?_,upd_same,by rw [aM,len]; rfl,λ j y ey=>?_⟩
   ·rw [c9 (d7 q' hp)]; exact s3 _ _ (s1 _ _ (e _ _ q'))
   ·have up:∀ b o,b≠p->H3 b=some o->r6 H3 p (.lst (zs++[v])) b=some o:=λ b o hb q=>by rw [c9 hb]; exact q
    by_cases hj:j<zs.length
    ·rw [bO hj] at ey
     exact hR j y _ _ (pr j y ey) λ b o hb q=>up b o hb (s3 _ _ (s1 _ _ q))
    ·rw [bZ (by omega)] at ey
     have hj':j - zs.length=0:=by
      cases q:j - zs.length with
      | zero=>rfl
      | succ k=>rw [q] at ey; simp at ey
     rw [hj'] at ey;have:j=i:=by omega
     subst this;simp at ey;subst ey;exact hR j v _ _ r3 up
 ·have:i=min xs.length ys.length:=by omega
  subst this;exact .inl ⟨⟨xs,ys,e.sqB h1,e.sqB h2,by omega⟩,hd zs H e hH len pr⟩
theorem b3S (h1:SqB b1 K H1 l1 xs) (h2:SqB b2 K H1 l2 ys) (hp:H1 p=none) (hz:xs.length<sizeLine) (F:V->V->V)
  (step:∀ (i:Nat) x y H (N:VK),xs[i]?=some x->ys[i]?=some y->Same H1 H->N (F x y) H->te (((blkσ 2 fr σ).set 0 (some x)).set 1 (some y)) H N)
  (hd:∀ H,Same H1 H->H p=some (.lst (cF F xs ys))->D H):lcW 2 fr (a5x K 2 (W8 (J8 0) (W8 (J8 1) a7A))) te σ (Itg b1 b2 K l1 l2) H1 p D:=by
 refine a5w h1 h2 hp hz (λ i v _=>∀ x y,xs[i]?=some x->ys[i]?=some y->v=F x y) (λ _ _ _ _ r _=>r) (λ i x y H zs N hx hy e _ hN=>step i x y H N hx hy e (hN _ _ (Same.refl _) λ x' y' ex ey=>?_)) λ zs H e hH hl hr=>hd H e ?_
 ·rw [hx] at ex; rw [hy] at ey; cases ex; cases ey; rfl
 ·rw [hH]
  congr 2
  refine cK λ i=>?_
  by_cases hi:i<min xs.length ys.length
  ·have a1:i<zs.length:=by omega
   have a2:i<xs.length:=by omega
   have a3:i<ys.length:=by omega
   rw [aH a1,aH (by rw [fM]; exact hi),List.getElem_zipWith,hr i _ (aH a1) _ _ (aH a2) (aH a3)]
  ·rw [bK (by omega),bK (by rw [fM]; omega)]
end
def Ite (K:W.Frag) (l:Addr):It :=
  ⟨λ i H=>∃ xs x,SqL K H l xs/\xs[i]?=some x,
   λ i H x H'=>∃ p a,H p=none/\x=.ref p/\H'=r6 H p (.tup [.int (i:Int),a])/\∀ xs,SqL K H l xs->xs[i]?=some a,
   λ i H=>∃ xs,SqL K H l xs/\xs.length<=i⟩
theorem a7q {P:Program} {w:World} {K:W.Frag} {elts:List Expr} {x1:Nat} {pos:Pos} {e it l:Addr} (hne:e≠it) (hle:l≠e) (hli:l≠it) :
  a5A P w K (.Tuple elts x1 pos) (Ite K l) [e,it] e (λ i h=>(∃ old,IsEnum h e it (i:Int) old)/\h.IsListIter it l i) where
 mem:=by simp
 obj:=λ i h st b hb=>by
  obtain ⟨⟨old,he⟩,⟨o1,e1,c1,d1⟩⟩:=st;simp only [aJ,aZ,or_false] at hb;rcases hb with rfl | rfl
  ·exact ⟨_,he,λ v q=>by cases q⟩
  ·exact ⟨o1,e1,λ v q=>by rw [d1] at q; cases q⟩
 keep:=λ i h h' st k=>by
  obtain ⟨⟨old,he⟩,h1⟩:=st;exact ⟨⟨old,k e (by simp) _ he⟩,h1.at λ o q=>k it (by simp) o q⟩
 item:=by
  intro X hP hw hK hc i pins s σ H E I hf st hg;subst hP hw hK;obtain ⟨xs,x,hq,hx⟩:=hg;obtain ⟨⟨old,he⟩,h1⟩:=st;obtain ⟨its,rv,p,_⟩:=I.list hq;obtain ⟨u,hu,ru⟩:=rv.get hx;refine wpAny_pyNext_enum_item he h1 p.isList (x:=u) (by simpa using hu) hne λ h' a1 a2 a3 a4 a5=>?_;refine ⟨_,rfl,wpAny_letOwnedTupleGo_enum (s:={ s with heap:=h',toks:=s.toks+1 }) a1 λ h'' he'' hs''=>?_⟩;have ie:s.heap.get? e=_:=he;obtain ⟨o1,ei,_⟩:=id h1;have neT:∀ b∈[e,it],b≠s.heap.objs.size:=λ b hb q=>by
   have:∃ o,s.heap.get? b=some o:=by
    simp only [aJ,aZ,or_false] at hb;rcases hb with rfl | rfl
    ·exact ⟨_,ie⟩
    ·exact ⟨_,ei⟩
   obtain ⟨o,ho⟩:=this;exact absurd (Heap.lt_size ho) (by rw [q]; exact bJ _)
  have kk:∀ b o,b ∉ [e,it]->s.heap.get? b=some o->h''.get? b=some o:=λ b o hb q=>by
   simp only [aJ,aZ,or_false,not_or] at hb;exact hs''.extBut b o hb.1 (a5 b o hb.1 hb.2 q)
  have it'':h''.IsListIter it l (i+1):=a2.extBut hs''.extBut (aS hne);have hoF:∀ b∈[e,it],∃ o,h''.get? b=some o:=λ b hb=>by
   obtain ⟨o2,e2,_⟩:=it'';simp only [aJ,aZ,or_false] at hb;rcases hb with rfl | rfl
   ·exact ⟨_,he''⟩
   ·exact ⟨_,e2⟩
  have es:e≠s.heap.objs.size:=neT e (by simp);have tup:IsTup h'' s.heap.objs.size [Value.int (i:Int) s.toks,u].toArray:=⟨_,hs''.extBut _ _ (aS es) a3,rfl,0,rfl⟩;refine ⟨.ref s.heap.objs.size,r6 H s.heap.objs.size (.tup [.int (i:Int),x]),(I.turnedLaid (h':=h'') hf kk hoF (aF _) (by show 2<=sizeLine; decide) (show Vals [.int (i:Int),x] [Value.int (i:Int) s.toks,u] from .cons ⟨_,rfl⟩ (.cons ru .nil)) tup).tok _,rfl,⟨_,x,I.fresh,rfl,rfl,λ xs' q1=>?_⟩,⟨⟨_,he''⟩,it''⟩,λ b hb=>?_⟩
  ·rw [I.list_inj q1 hq]; exact hx
  ·rw [c9 (neT b hb)]; exact (hf b hb).1
 done:=by
  intro X hP hw hK hc i pins s σ H E I hf st hg;subst hP hw hK;obtain ⟨xs,hq,hend⟩:=hg;obtain ⟨⟨old,he⟩,h1⟩:=st;obtain ⟨its,rv,p,_⟩:=I.list hq;have hl:=rv.length;refine wpAny_pyNext_enum_end (I.ok.hd hc) he h1 p.isList (by simp; omega) λ h' k=>⟨rfl,I.turnedAll hf λ b o hb q=>?_⟩;simp only [aJ,aZ,or_false,not_or] at hb;exact k b o hb.2 q
 self:=λ _ _ _ _ _ st h=>by
  obtain ⟨⟨old,he⟩,_⟩:=st;exact wpAny_pyIter_enum he h
def b3B (K:W.Frag) (ta:TA):TI:=λ σ H R=>ta σ H λ vs H1=>∃ l,vs=[.ref l]/\(∃ xs,SqL K H1 l xs)/\R (Ite K l) H1
theorem a6h (K:W.Frag) {X:Cx} {a:Expr} {ta:TA} {p pos pos':Pos} {elts:List Expr} {x1:Nat} (hK:X.K=K) (hg:Gl X "enumerate") (hm:X.mg "enumerate"=none) (ha:PA X [a] ta) (hs:starEach [a] X.env=[(false,eval a X.env)]:=by rfl) (hs2:starEach ([]:List Expr) X.env=[]:=by rfl) :
  PI X (.Tuple elts x1 pos') (.Call (.Name "enumerate" p) [a] [] pos) (b3B K ta):=by
 subst hK;intro pins s σ H R I h;refine Call_ (U5 I hg hm boot_enumerate (fJ (A8 (ha pos pins s σ H _ I h) λ us s1 ⟨vs,H1,I1,r1,q1⟩=>?_) (by rw [hs,hs2]) (by rw [hs2]; rfl)));obtain ⟨l,e,⟨xs,q1⟩,q⟩:=q1;subst e;obtain ⟨u,rfl,ru⟩:=O4 r1
 cases ru;obtain ⟨its,rv,p,_⟩:=I1.list q1;have lt1:l<s1.heap.objs.size:=by obtain ⟨_,e,_⟩:=p.isList; exact Heap.lt_size e
 refine call_enumerate_list p.isList λ h' z1 z2 z3 k=>?_;have I2:Inv X pins σ H1 { s1 with heap:=h' }:=I1.kept (t':=s1.toks) k;refine wpAny_pyIter_enum z1 ?_;refine ⟨s1.heap.objs.size+1,[s1.heap.objs.size+1,s1.heap.objs.size],_,_,H1,rfl,I2,a7q (l:=l) (e:=s1.heap.objs.size+1) (it:=s1.heap.objs.size) (Nat.succ_ne_self _) (bI (fZ lt1)) (bI lt1),⟨⟨_,z1⟩,z2⟩,λ b hb=>?_,q⟩;have hb':s1.heap.objs.size<=b:=by
  simp only [aJ,aZ,or_false] at hb;rcases hb with rfl | rfl
  ·exact gG _
  ·exact aF _
 exact I1.fpOk hb' (I1.hok.fresh hb')
section
variable {xs ys:List V} {K:W.Frag} {l1 l2:Addr} {fr:List Nat} {te:TE} {σ:St} {H1:Hp} {p:Addr} {D:Hp->Prop}
theorem a4H {i1 i2:Nat} {tb:TS} {D:Ends} {H:Hp} (Pv:Nat->St->Hp->Prop) (h0:Pv 0 σ H) (hl:∀ i σ H,Pv i σ H->SqL K H l1 xs)
  (hs:∀ i x σ H q,xs[i]?=some x->Pv i σ H->H q=none->tb { D with nx:=Pv (i+1),ct:=Pv (i+1),bk:=D.nx } ((σ.set i1 (some (.int (i:Int)))).set i2 (some x)) (r6 H q (.tup [.int (i:Int),x]))) (hd:∀ σ H,Pv xs.length σ H->D.nx σ H) :
  ∃ W:Nat->Nat->St->Hp->Prop,(∃ m,W 0 m σ H)/\∀ i m σ H,W i m σ H →
   ((Ite K l1).stop i H/\D.nx σ H)\/((Ite K l1).go i H/\∃ N:St->Hp->Prop,(∀ σ' H',N σ' H'->∃ m',m'<m/\W (i+1) m' σ' H')/\∀ x H',(Ite K l1).yld i H x H'->a5x K 2 (W8 (J8 i1) (W8 (J8 i2) a7A)) x σ H' λ σ2 H2=>tb { D with nx:=N,ct:=N,bk:=D.nx } σ2 H2):=by
 refine ⟨λ i m σ H=>m=xs.length - i/\i<=xs.length/\Pv i σ H,⟨_,rfl,bR _,h0⟩,?_⟩;rintro i m σ H ⟨rfl,hi,p⟩;have q1:=hl i σ H p
 by_cases hlt:i<xs.length
 ·refine .inr ⟨⟨xs,xs[i],q1,aH hlt⟩,Pv (i+1),λ σ' H' p'=>⟨xs.length - (i+1),by omega,rfl,hlt,p'⟩,λ u H' y=>?_⟩
  obtain ⟨q,a,hq,rfl,rfl,hab⟩:=y;have ha:=hab xs q1;exact ⟨q,_,rfl,SqT.of upd_same,rfl,_,_,rfl,_,_,rfl,rfl,hs i a σ H q ha p hq⟩
 ·have:i=xs.length:=by omega
  subst this;exact .inl ⟨⟨xs,q1,by omega⟩,hd σ H p⟩
end
end L2
namespace Fr
abbrev Q2:=Int×Int
def gI (a b:Int):Int:=(iJ a b:Int)
def low (t b:Int):Q2:=(t / gI t b,b / gI t b)
def a8S (f:Q2):Prop:=0<f.2/\iJ f.1 f.2=1
theorem a0a (a b:Int):0<=gI a b:=Int.natCast_nonneg _
theorem M6 (a b:Int):gI a b∣a:=Int.gcd_dvd_left ..
theorem B8 (a b:Int):gI a b∣b:=Int.gcd_dvd_right ..
theorem a5g {a b:Int} (hb:0<b):0<gI a b:=by
 have h0:=a0a a b
 by_cases z:gI a b=0
 ·have:=B8 a b
  rw [z,Int.zero_dvd] at this;omega
 ·omega
theorem b3c {a b:Int} (hb:0<b):gI a b<=b:=Int.le_of_dvd hb (B8 a b)
theorem a5v {c a b:Int} (h1:c∣a) (h2:c∣b):c∣gI a b:=Int.dvd_coe_gcd h1 h2
theorem a0W {a b:Int} (ha:0<=a) (hb:0<=b) (h1:a∣b) (h2:b∣a):a=b:=Int.dvd_antisymm ha hb h1 h2
theorem b0x (a b:Int):gI b (a % b)=gI a b:=by
 refine a0W (a0a _ _) (a0a _ _) (a5v ?_ (M6 _ _)) (a5v (B8 _ _) ?_)
 ·have h1:=M6 b (a % b)
  have h2:=B8 b (a % b);have:=Int.dvd_add (jQ (c:=a / b) h1) h2;rw [Int.mul_ediv_add_emod] at this;exact this
 ·have h1:=M6 a b
  have h2:=B8 a b;have:=Int.dvd_sub h1 (jQ (c:=a / b) h2);rw [Int.emod_def];exact this
theorem a9R (a:Int):gI a 0=a.natAbs:=by unfold gI; rw [Int.gcd_zero_right]
theorem b0l {t b:Int} (hb:0<b):0<(low t b).2:=by
 have h:=a5g (a:=t) hb;obtain ⟨k,hk⟩:=B8 t b
 show 0<b / gI t b
 have e:b / gI t b=k:=by
  have:b / gI t b=(gI t b*k) / gI t b:=by rw [<- hk]
  rw [this,jR _ (by omega)]
 rw [e]
 by_cases z:0<k
 ·exact z
 ·have:=cN (bH h) (show 0 <= -k by omega)
  rw [dI] at this;omega
theorem a3g {t b:Int} (hb:0<b):t=gI t b*(low t b).1/\b=gI t b*(low t b).2 :=
 ⟨(jS (M6 t b)).symm,(jS (B8 t b)).symm⟩
theorem a3f {t b:Int} (hb:0<b):(low t b).1*b=t*(low t b).2:=by
 obtain ⟨h1,h2⟩:=a3g (t:=t) hb;generalize gI t b=g at h1 h2;generalize low t b=f at h1 h2;rw [h1,h2]
 ac_rfl
theorem a2R {t b:Int} (hb:0<b):a8S (low t b):=by
 refine ⟨b0l hb,?_⟩;obtain ⟨h1,h2⟩:=a3g (t:=t) hb;have hg:=a5g (a:=t) hb;have q:gI t b*gI (low t b).1 (low t b).2∣gI t b*1:=by
  rw [eR];refine a5v ?_ ?_
  ·have:=jT (gI t b) (M6 (low t b).1 (low t b).2)
   rw [<- h1] at this;exact this
  ·have:=jT (gI t b) (B8 (low t b).1 (low t b).2)
   rw [<- h2] at this;exact this
 have q2:gI (low t b).1 (low t b).2∣1:=Int.dvd_of_mul_dvd_mul_left (by omega) q;have q3:gI (low t b).1 (low t b).2=1:=a0W (a0a _ _) (by decide) q2 (Int.one_dvd _);unfold gI at q3;omega
theorem a1q {a b c:Int} (h:iJ a b=1) (d:b∣a*c):b∣c:=by
 have h':Nat.Coprime b.natAbs a.natAbs:=by
  rw [Nat.coprime_comm]; exact h
 have d':b.natAbs∣a.natAbs*c.natAbs:=by rw [<- iK]; exact jU.mpr d
 exact jU.mp (h'.dvd_of_dvd_mul_left d')
theorem a3D {f g:Q2} (hf:a8S f) (hg:a8S g) (h:f.1*g.2=g.1*f.2):f=g:=by
 have d1:f.2∣g.2:=a1q hf.2 ⟨g.1,by rw [h,aU]⟩;have d2:g.2∣f.2:=a1q hg.2 ⟨f.1,by rw [<- h,aU]⟩;have e2:f.2=g.2:=a0W (bH hf.1) (bH hg.1) d1 d2;have e1:f.1=g.1:=by
  rw [e2] at h;exact iL (by have:=hg.1; omega) h
 exact jH e1 e2
theorem b1M {t b t' b':Int} (hb:0<b) (hb':0<b') (h:t*b'=t'*b):low t b=low t' b':=by
 refine a3D (a2R hb) (a2R hb') ?_;have c1:=a3f (t:=t) hb;have c2:=a3f (t:=t') hb';generalize low t b=x at c1 ⊢;generalize low t' b'=y at c2 ⊢;refine iL (a:=b*b') (by have:=dY hb hb'; omega) ?_
 calc x.1*y.2*(b*b')=(x.1*b)*(y.2*b'):=by ac_rfl
  _=(t*b')*(x.2*y.2):=by rw [c1]; ac_rfl
  _=(t'*y.2)*(b*x.2):=by rw [h]; ac_rfl
  _=(y.1*b')*(b*x.2):=by rw [c2]
  _=y.1*x.2*(b*b'):=by ac_rfl
end Fr
namespace L2
open PySem PySem.Spec PyProof.Rows
abbrev a5f (X:Cx) (qual:Str) (scope:Scope) (f:Addr) (cd:Value) (C:Addr):Env:=W.envX qual scope C f cd (clo X.env scope.names [])
def a6W (X:Cx) (col:Str) (fr:List Nat) (qual:Str) (scope:Scope) (f:Addr) (cd:Value) (A':Around) (s₀:Shared) (H₀:Hp):Cx :=
  { X with N:=col::fr.map (λ j=>X.N.getD j ""),s₀:=s₀,H₀:=H₀,A:=A'.deeper (a5f X qual scope f cd s₀.heap.objs.size),env:=a5f X qual scope f cd s₀.heap.objs.size,outer:=X.stack,
           stack:=a5f X qual scope f cd s₀.heap.objs.size::X.stack,ex:=[],fn:=λ _=>false,pn:=[],xe:=λ _ _=>False }
section
variable {X:Cx} {pins:List (Addr×Obj)} {σ:St} {H:Hp} {s:Shared} {fr:List Nat} {scope:Scope} {col:Str} {qual:Str} {f:Addr} {cd:Value} {A':Around}
theorem X7 {env:Env} {l:List (Str×NameKind)} {x:Str} {c:Addr} (e:(clo env l []).lookup x=some c):env.cells.lookup x=some c:=a0H (cs:=[]) (λ _ _ z=>by simp at z) e
theorem Inv.lam {h₁:Heap} {t':Nat} {v:V} {u:Value} (I:Inv X pins σ H s) (hA:A'.frames=some X.stack) (hh:A'.handled=X.A.handled) (hk:scope.kind=.function) (h:a0G X.env.scope scope X.N fr=true)
  (hcell:∀ x∈scope.names,x.2≠.cell) (hcol:scope.names.lookup col=some .local) (hns:h₁.Ns s.heap.objs.size λ x=>[(col,u)].reverse.lookup x) (hkeep:∀ b o,s.heap.get? b=some o->h₁.get? b=some o) (r:RelV v u) :
  Inv (a6W X col fr qual scope f cd A' s H) [] (some v::frv fr σ) H { s with heap:=h₁,toks:=t' } where
 ok:={
  mod:=I.ok.mod
  kind:=hk
  glob:=rfl
  blt:=rfl
  above:=aF _
  inj:=λ x y c e1 e2=>I.ok.inj x y c (X7 e1) (X7 e2)
  has:=λ x hx=>by
   have hx':scope.names.lookup x=some .cell\/scope.names.lookup x=some .free:=hx;rcases hx' with e | e
   ·exact absurd rfl (hcell _ (G6 e))
   ·exact Z4 (U4 I h x (G6 e)) (G6 e)
  cab:=λ x c hx=>by cases (show false=true from hx)
  hd:=λ z=>by
   show A'.handled=none
   rw [hh];exact I.ok.hd z
  frames:=Around.frames_deeper hA
  stk:=.inr ⟨rfl,rfl⟩
  exf:=λ b hb=>by cases (show b∈([]:List Addr) from hb)
  bs:=I.bs
  bsz:=aW I.ok.bsz I.sz
  noex:=λ b o _ hb=>by cases (show b∈([]:List Addr) from hb)
  exfs:=λ b hb=>by cases (show b∈([]:List Addr) from hb)
  funs:=I.stack
  frf:=I.stkFree }
 os:=rfl
 bare:=I.bare
 base:=Un.kept hkeep
 loc:=by
  refine ⟨_,hns,λ i x w e1 e2 _=>?_⟩
  cases i with
  | zero =>
   have hx:col=x:=aL e1;have hv:v=w:=aL (aL e2);subst hx;subst hv;exact ⟨u,r,.inl ⟨hcol,by simp [eK]⟩⟩
  | succ i =>
   have e1':(fr.map λ j=>X.N.getD j "")[i]?=some x:=e1;have e2':(fr.map λ j=>(σ[j]?).join)[i]?=some (some w):=e2;rw [aD] at e1' e2'
   cases q:fr[i]? with
   | none=>rw [q] at e1'; cases e1'
   | some j =>
    rw [q] at e1' e2';have hj:j∈fr:=bS q;obtain ⟨hjl,hjc,hjf⟩:=b1w h j hj;have ex:X.N.getD j ""=x:=aL e1';have ev:(σ[j]?).join=some w:=aL e2';have hN:X.N[j]?=some x:=by
     rw [<- ex,aI,aH hjl]; rfl
    have hσ:σ[j]?=some (some w):=by
     cases r:σ[j]? with
     | none=>rw [r] at ev; cases ev
     | some y=>rw [r] at ev; exact congrArg some ev
    rw [ex] at hjc hjf;obtain ⟨m,_,hl⟩:=I.loc;obtain ⟨u',r',lk⟩:=hl j x w hN hσ (.inr (.inl hjc));refine ⟨u',r',?_⟩;have kc:Env.kindOf X.env x=some .cell:=hjc;rcases lk with ⟨k1,_⟩ | ⟨_,c,ec,o,ho',hd⟩
    ·rw [kc] at k1; cases k1
    ·obtain ⟨c',hc'⟩:=Z4 (env:=X.env) (cs:=[]) ⟨c,ec⟩ (G6 hjf)
     have e3:=X7 hc';rw [ec] at e3
     cases e3;exact .inr ⟨.inr hjf,c,hc',o,hkeep _ _ ho',hd⟩
 cell:=λ x c e=>by
  obtain ⟨v,o,ho',hd⟩:=I.cell x c (X7 e);exact ⟨v,o,hkeep _ _ ho',hd⟩
 free:=I.hok.fresh (aF _)
 freeC:=λ x c e=>I.freeC x c (X7 e)
 pin:=λ p hp=>by cases (show p∈([]:List (Addr×Obj)) from hp)
 hok:=I.hok.kept hkeep
 len:=by simp [frv,a6W]
def Quiet (X:Cx) (H:Hp) (s s':Shared):Prop:=∀ b o,s.heap.get? b=some o->H b=none->b≠X.env.locals->b ∉ X.fs->s'.heap.get? b=some o
theorem a8c {params:Arguments} {body:Expr} {pm ctv:Value} {c':Addr} {v k:V} {u:Value} {t:TE} {Q:Value->Shared->Prop} {E:Value->Shared->Prop} (I:Inv X pins σ H s) (hA:A'.frames=some X.stack) (hh:A'.handled=X.A.handled)
  (hroom:A'.depth<recursionLimit) (hk:scope.kind=.function) (h:a0G X.env.scope scope X.N fr=true)
  (hcell:∀ x∈scope.names,x.2≠.cell) (hcol:scope.names.lookup col=some .local) (hco:scope.isCoroutine=false) (hgen:scope.isGenerator=false)
  (hf:s.heap.get? f=some (W.kla_obj "<lambda>" qual params body scope (clo X.env scope.names []) pm c' ctv)) (hcd:s.heap.CodeRec (.ref c') qual)
  (hb:∀ u:Value,bindArgs (W.kla_fn "<lambda>" qual params body scope (clo X.env scope.names []) pm (.ref c') ctv) ⟨[u],[]⟩=pure [(col,u)])
  (hbody:PE (a6W X col fr qual scope f (.ref c') A' s H) body t) (r:RelV v u) (ht:t (some v::frv fr σ) H λ y H'=>y=k/\H'=H)
  (q:∀ y s',RelV k y->Inv X pins σ H s'->Quiet X H s s'->Q y s'):wpAny (model X.prog X.w) A' (call (.ref f) [u]) Q E s:=by
 refine wpAny_call (W.kla_callFunE hroom hf rfl hco hgen rfl hcd ?_);rw [hb u];refine wpAny_pure (wpAny_newFunctionEnv hcell (λ y hy=>?_) (λ h₁ hns hsb=>?_) hk)
 ·rw [bF.mp hy]; exact hcol
 ·have hk₁:∀ b o,s.heap.get? b=some o->h₁.get? b=some o:=λ b o e=>hsb.extBut b o (bI (Heap.lt_size e)) (Heap.get?_push_of_some _ e)
  refine ⟨I.nolimit.keeps hk₁,W.kla_codeExpr ?_⟩;have J:=I.lam (qual:=qual) (f:=f) (cd:=.ref c') (t':=s.toks+[(col,u)].length) hA hh hk h hcell hcol hns hk₁ r;refine wpAny_mono (hbody [] _ _ _ _ J ht) (λ y s' hy=>?_) λ e s' z=>bM z;obtain ⟨w,H',J',rw',rfl,rfl⟩:=hy;have J2:Inv X pins σ H' s':=I.call' (ch:=[]) J'.os J'.base J'.hok J'.bare λ b hb=>by cases hb
  refine q y s' rw' J2 λ b o e n n1 n2=>?_;refine J'.base.keep b o e n (λ z=>?_) (by intro z; cases z);rcases aJ.mp (I.stkSub b z) with w | w
  ·exact n1 w
  ·exact n2 w
end
def T9 (mg:Str->Option Value) (base:Heap):Prop:=∃ bm ob,mg "__builtins__"=some (.ref bm)/\bm≠builtinsNs/\base.get? bm=some ob/\ob.cls=.type "module"/\ob.dict=some builtinsNs/\ob.data=.plain
abbrev a2Z (c:Addr) (qual:Str):HO:=.ext λ h=>h.CodeRec (.ref c) qual
def LamTab (P:Addr) (pos:Pos) (qual:Str) (H:Hp):Prop :=
 H P=some (.tbl #[])\/∃ c',H P=some (.tbl #[rawInt pos.line,rawInt pos.col,.ref c'])/\H c'=some (a2Z c' qual)
def Same1 (P:Addr) (H H':Hp):Prop:=∀ b o,b≠P->H b=some o->H' b=some o
theorem LamTab.same {P:Addr} {pos:Pos} {qual:Str} {H H':Hp} (T:LamTab P pos qual H) (h:∀ b o,H b=some o->H' b=some o):LamTab P pos qual H':=by
 rcases T with e | ⟨c,e1,e2⟩
 ·exact .inl (h _ _ e)
 ·exact .inr ⟨c,h _ _ e1,h _ _ e2⟩
section
variable {X:Cx} {pins:List (Addr×Obj)} {σ:St} {H:Hp} {s:Shared} {fr:List Nat} {scope:Scope} {qual:Str} {c P:Addr} {params:Arguments} {body:Expr} {pos:Pos}
theorem a8U {K:Program} {w:World} {H:Hp} {h:Heap} {c:Addr} {o:Obj} (e:h.get? c=some o) (r:h.CodeRec (.ref c) qual):ObjOk K w H h c (a2Z c qual) :=
 ⟨r,⟨o,e⟩,λ h1 h2 ⟨c',o',vs,t,z,g,q⟩ k=>by
  have z':c=c':=Value.ref.inj z;subst z';exact ⟨c,o',vs,t,rfl,k _ g,q⟩⟩
theorem Inv.grown {h':Heap} {t':Nat} {ps more:Array Value} {c':Addr} (I:Inv X pins σ H s) (hP:H P=some (.tbl ps)) (hx:Heap.ExtBut P s.heap h') (hge:s.heap.objs.size<=c') (hcr:h'.CodeRec (.ref c') qual)
  (htb:h'.get? P=some { cls:=.none,data:=.fields (ps++more) }):Inv X pins σ (r6 (r6 H P (.tbl (ps++more))) c' (a2Z c' qual)) { s with heap:=h',toks:=t' }:=by
 have hPl:P<s.heap.objs.size:=I.hok.lt hP;have hPc:P≠c':=bI (aR hPl hge);have hcn:H c'=none:=I.hok.fresh hge;have atP:r6 (r6 H P (.tbl (ps++more))) c' (a2Z c' qual) P=some (.tbl (ps++more)):=by rw [c9 hPc,upd_same]
 have nP:∀ b o,H b=some o->(∀ qs,o≠.tbl qs)->r6 (r6 H P (.tbl (ps++more))) c' (a2Z c' qual) b=some o:=λ b o e n=>by
  rw [c9 (d7 e hcn),c9 (λ z=>by subst z; rw [e] at hP; exact n _ (aL hP))];exact e
 have neP:∀ b,H b=none->b≠P:=λ b n z=>by subst z; rw [hP] at n; cases n
 obtain ⟨cc,oc,vs,tt,z,gc,gr⟩:=id hcr;have z':c'=cc:=Value.ref.inj z;subst z';refine I.un ⟨λ b o e n _ _=>hx b o (neP b n) e,λ b o e n _ _=>⟨o.slots,hx b o (neP b n) e⟩,λ b o e n _=>?_,λ b o e _=>?_,λ b xs e=>nP b _ e (λ _=>nofun),λ b o u e=>nP b _ e (λ _=>nofun),λ b qs e=>?_⟩ λ b u e=>?_
 ·rw [c9 (bI (aR (Heap.lt_size e) hge)),c9 (neP b n)]; exact n
 ·by_cases hb:b=P
  ·subst hb; exact ⟨_,htb⟩
  ·exact ⟨o,hx b o hb e⟩
 ·by_cases hb:b=P
  ·subst hb
   rw [e] at hP
   cases hP;exact ⟨more,atP⟩
  ·refine ⟨#[],?_⟩
   rw [c9 (d7 e hcn),c9 hb,e]; simp
 ·by_cases hb:b=c'
  ·subst hb
   rw [upd_same] at e
   cases e;exact a8U gc hcr
  ·rw [c9 hb] at e
   by_cases hb2:b=P
   ·subst hb2
    rw [upd_same] at e
    cases e;exact htb
   ·rw [c9 hb2] at e
    refine (I.hok b u e).stay (λ d v hd g=>hx d v (λ z=>?_) g) (λ d g=>nP d _ g λ _=>nofun) λ d xs g=>nP d _ g λ _=>nofun;subst z;rcases hd with w | w
    ·exact hb2 w.symm
    ·rw [hP] at w; cases w
theorem a8W {Q:Value->Shared->Prop} {E:Value->Shared->Prop} (I:Inv X pins σ H s) (hcode:X.env.code=.ref c) (C:W.CodeHd X.base c P) (B:T9 X.mg X.base) (T:LamTab P pos (X.env.qual++"<lambda>") H)
  (h:a0G X.env.scope scope X.N fr=true) (hdef:defaultsOf params X.env=([],[]))
  (q:∀ f c' ctv pm H' s',Inv X ((f,W.kla_obj "<lambda>" (X.env.qual++"<lambda>") params body scope (clo X.env scope.names []) pm c' ctv)::pins) σ H' s'->LamTab P pos (X.env.qual++"<lambda>") H'->Same1 P H H' →
   H' c'=some (a2Z c' (X.env.qual++"<lambda>"))->(∀ b,b<s.heap.objs.size->H b=none->H' b=none)->Q (.ref f) s') :
  wpAny (model X.prog X.w) X.A (eval (.Lambda params body scope pos) X.env) Q E s:=by
 have hcl:=E6 (U4 I h);have hg:s.heap.Ns mainGlobals X.mg:=I.mod.glob.keeps I.bk;obtain ⟨bm,ob,b1,b2,b3,b4,b5,b6⟩:=B;have Pg:∀ ps,s.heap.get? P=some (W.tabObj ps)->mainGlobals≠P:=λ ps e z=>by
  obtain ⟨o,es,ep,e1,hd,_⟩:=hg;rw [z,e] at e1; cases e1; cases hd
 have Pb:∀ ps,s.heap.get? P=some (W.tabObj ps)->bm≠P:=λ ps e z=>by
  have e1:=I.bk _ _ b3;rw [z,e] at e1; cases e1; cases b4
 have bg:bm≠mainGlobals:=λ z=>by
  obtain ⟨o,es,ep,e1,hd,_⟩:=I.mod.glob;rw [z,e1] at b3; cases b3; rw [hd] at b6; cases b6
 refine W.kla_eval hdef ?_;rcases T with T | ⟨c',T,Tc⟩
 ·have hP:s.heap.get? P=some (W.tabObj #[]):=I.hok P _ T
  refine W.kla_makeFunction (mg:=X.mg) hcl I.ok.glob hg hcode (C.keeps I.bk) hP trivial rfl (Pg _ hP) ⟨bm,ob,b1,b2,bg,Pb _ hP,I.bk _ _ b3,b4,b5,b6⟩ λ c' ctv h' tk hx hge hlt hrec htb=>?_;have J:=I.grown (t':=tk) (more:=#[rawInt pos.line,rawInt pos.col,.ref c']) T hx hge hrec htb;have hsz:s.heap.objs.size<=h'.objs.size:=aW hge (cO hlt);have hPl:P<s.heap.objs.size:=I.hok.lt T;have J2:=J.kept (h':=h'.push (W.kla_obj "<lambda>" (X.env.qual++"<lambda>") params body scope (clo X.env scope.names []) ((X.mg "__name__").getD .none) c' ctv)) (t':=tk) λ b u e=>Heap.get?_push_of_some _ e;have hPc:P≠c':=bI (aR hPl hge);refine q _ c' ctv ((X.mg "__name__").getD .none) _ _ (J2.pins_of λ p hp=>?_) (.inr ⟨c',?_,upd_same⟩) (λ b o hb e=>?_) upd_same λ b hb e=>?_
  ·rcases aJ.mp hp with rfl | hp
   ·refine ⟨Heap.get?_push_size _ rfl,J.hok.fresh (aF _),cP (aR I.lt hsz),I.nofs hsz,λ v=>nofun⟩
   ·exact J2.pin p (bN _ hp)
  ·rw [c9 hPc,upd_same]; rfl
  ·rw [c9 (d7 e (I.hok.fresh hge)),c9 hb]; exact e
  ·rw [c9 (bI (aR hb hge)),c9 (λ z=>by rw [z,T] at e; cases e)]; exact e
 ·have hP:s.heap.get? P=some (W.tabObj #[rawInt pos.line,rawInt pos.col,.ref c']):=I.hok P _ T
  have hf:codeAmong pos (#[rawInt pos.line,rawInt pos.col,Value.ref c']).toList=some (.ref c'):=by
   show codeAmong pos ([]++[rawInt pos.line,rawInt pos.col,Value.ref c'])=_
   exact codeAmong_snoc [] trivial rfl
  refine W.kla_makeFunctionHit (mg:=X.mg) hcl I.ok.glob hg hcode (C.keeps I.bk) hP trivial hf ⟨bm,ob,b1,b2,bg,Pb _ hP,I.bk _ _ b3,b4,b5,b6⟩ λ ctv h' tk hk hsz=>?_;have J:=I.kept (h':=h') (t':=tk) hk;have J2:=J.kept (h':=h'.push (W.kla_obj "<lambda>" (X.env.qual++"<lambda>") params body scope (clo X.env scope.names []) ((X.mg "__name__").getD .none) c' ctv)) (t':=tk) λ b u e=>Heap.get?_push_of_some _ e;refine q _ c' ctv ((X.mg "__name__").getD .none) _ _ (J2.pins_of λ p hp=>?_) (.inr ⟨c',T,Tc⟩) (λ b o hb e=>e) Tc λ b hb e=>e;rcases aJ.mp hp with rfl | hp
  ·exact ⟨Heap.get?_push_size _ rfl,J.hok.fresh (aF _),cP (aR I.lt hsz),I.nofs hsz,λ v=>nofun⟩
  ·exact J2.pin p (bN _ hp)
end
section
variable {X:Cx} {pins:List (Addr×Obj)} {σ:St} {H:Hp} {l It S fq:Addr} {ns:List Int} {g:Int->Int} {R:Result->Shared->Prop}
theorem Quiet.fp {s s':Shared} {b:Addr} {o:Obj} (k:Quiet X H s s') (f:U7 X pins H b) (e:s.heap.get? b=some o):s'.heap.get? b=some o:=k b o e f.1 f.2.1 f.2.2.1
theorem Inv.fpTurn {s:Shared} {h':Heap} {t':Nat} {b:Addr} (I:Inv X pins σ H s) (f:U7 X pins H b) (k:∀ c o,c≠b->s.heap.get? c=some o->h'.get? c=some o):Inv X pins σ H { s with heap:=h',toks:=t' } :=
 I.turned k f.1 f.2.1 f.2.2.2.1 f.2.2.2.2.1 f.2.2.2.2.2
def b2v (ns:List Int) (g:Int->Int) (j:Nat) (cont:List Value):Prop :=
 (cont=[]/\j=0)\/∃ M vb kb,cont=[vb,kb]/\M∈ns/\RelV (.int M) vb/\RelV (.int (g M)) kb/\∀ a∈ns.take j,g M<=g a
abbrev a8x (X:Cx) (pins:List (Addr×Obj)) (σ:St) (H:Hp) (fq:Addr) (ns:List Int) (g:Int->Int):Prop :=
 ∀ n∈ns,∀ (u:Value) (s:Shared) (Q:Value->Shared->Prop) (E:Value->Shared->Prop),Inv X pins σ H s->RelV (.int n) u →
  (∀ y s',RelV (.int (g n)) y->Inv X pins σ H s'->Quiet X H s s'->Q y s')->wpAny (model X.prog X.w) X.A.in1 (call (.ref fq) [u]) Q E s
theorem b0t (hc:X.calm=true) (hl:SqL X.K H l (ns.map V.int)) (turn:a8x X pins σ H fq ns g) (fI:U7 X pins H It) (fS:U7 X pins H S) (hIS:It≠S) (hIl:l≠It)
  (hN:ns=[]->∀ s',Inv X pins σ H s'->R (.ok (.ret .none)) s') (hR:∀ M∈ns,(∀ a∈ns,g M<=g a)->∀ y s',RelV (.int M) y->Inv X pins σ H s'->R (.ok (.ret y)) s') :
  ∀ (r j:Nat) (s:Shared) (cont:List Value) (cn:Nat),ns.length - j=r->j<=ns.length->Inv X pins σ H s->s.heap.IsListIter It l j->s.heap.get? S=some (seqObj "list" cont.toArray cn)->b2v ns g j cont →
   codeAny (model X.prog X.w) X.A (.builtin "min.loop" ⟨[.ref It,.ref fq,.ref S],[("default",.none)]⟩) R s:=by
 have nm:(toString "min"++toString ".loop":String)="min.loop":=by decide
 have hh:∀ {s:Shared},Inv X pins σ H s->X.A.in1.handled=none:=λ I=>I.ok.hd hc;intro r
 induction r with
 | zero =>
  intro j s cont cn hr hj I hit hS hb;have hjn:j=ns.length:=by omega
  obtain ⟨its,rv,pl,hz⟩:=I.list hl;have W:=Walks.list (prog:=X.prog) (w:=X.w) (A:=X.A.in1) (hh I) It l hIl its.toArray;have hsz:its.toArray.size=ns.length:=by rw [aT,<- rv.length,aA]
  refine codeAny_builtin F.entry_min_loop ?_; rw [Around.under_plainId F.plain_min_loop _];refine wpAny_bind (wpAny_seqItems hS rfl ?_);rcases hb with ⟨rfl,rfl⟩ | ⟨M,vb,kb,rfl,hM,rM,rK,best⟩
  ·show wpAny _ X.A.in1 (tryCatch (pyNext (.ref It)) _ >>= _) _ _ _
   refine wpAny_bind (wpAny_tryCatch (W.done _ _ _ ⟨by rw [hsz,<- hjn]; exact hit,pl.isList⟩ λ h' tk' hk'=>?_));have J:=I.fpTurn (h':=h') (t':=tk') fI λ c o n e=>hk' c o (by simpa using n) e
   show wpAny _ X.A.in1 (rule _ >>= _) _ _ _
   exact wpAny_bind (wpAny_rule (wpAny_pure (hN (List.length_eq_zero_iff.mp hjn.symm) _ J)))
  ·show wpAny _ X.A.in1 (tryCatch (pyNext (.ref It)) _ >>= _) _ _ _
   refine wpAny_bind (wpAny_tryCatch (W.done _ _ _ ⟨by rw [hsz,<- hjn]; exact hit,pl.isList⟩ λ h' tk' hk'=>?_));have J:=I.fpTurn (h':=h') (t':=tk') fI λ c o n e=>hk' c o (by simpa using n) e;have hS':=hk' S _ (by simpa using hIS.symm) hS;have s1:=Heap.SameBut.update h' S (Obj.mapSeq λ _=>(#[]:Array Value))
   show wpAny _ X.A.in1 (updateSeq S (λ _=>#[]) >>= _) _ _ _
   refine wpAny_bind (wpAny_updateSeq hS' rfl (wpAny_bind (wpAny_letGo (wpAny_pure ?_))));exact hR M hM (λ a ha=>best a (by rw [hjn,List.take_length]; exact ha)) vb _ rM (J.fpTurn fS λ c o n e=>(s1.2 c n).trans e)
 | succ r ih =>
  intro j s cont cn hr hj I hit hS hb;have hlt:j<ns.length:=by omega
  obtain ⟨its,rv,pl,hz⟩:=I.list hl;have W:=Walks.list (prog:=X.prog) (w:=X.w) (A:=X.A.in1) (hh I) It l hIl its.toArray;have hsz:its.toArray.size=ns.length:=by rw [aT,<- rv.length,aA]
  refine codeAny_builtin F.entry_min_loop ?_; rw [Around.under_plainId F.plain_min_loop _];refine wpAny_bind (wpAny_seqItems hS rfl ?_);have go:∀ (old:List Value) (kx:Value->Sem (Option Value)) (B:Option Value->Sem gA) (Q:gA->Shared->Prop) (E:Value->Shared->Prop),
    (∀ v h' tk',RelV (.int ns[j]) v->Inv X pins σ H { s with heap:=h',toks:=tk' }->h'.IsListIter It l (j+1)->h'.get? S=some (seqObj "list" cont.toArray cn)->wpAny (model X.prog X.w) X.A.in1 (B (some v)) Q E { s with heap:=h',toks:=tk' }) →
    wpAny (model X.prog X.w) X.A.in1 (tryCatch (pyNext (.ref It)) kx >>= B) Q E s:=by
   intro old kx B Q E hB;refine wpAny_bind (wpAny_tryCatch (W.item j _ _ _ (by rw [hsz]; exact hlt) ⟨hit,pl.isList⟩ λ v h' tk' hP hst' hk'=>?_));have hv:(ns.map V.int)[j]?=some (V.int ns[j]):=by rw [aD,aH hlt]; rfl
   obtain ⟨u,hu,ru⟩:=rv.get hv;have hP':its[j]?=some v:=by simpa using hP
   rw [hu] at hP'
   cases hP';exact hB _ h' tk' ru (I.fpTurn fI λ c o n e=>hk' c o (by simpa using n) e) hst'.1 (hk' S _ (by simpa using hIS.symm) hS)
  have hn:ns[j]∈ns:=cU hlt;have tk1:∀ a∈ns.take (j+1),a∈ns.take j\/a=ns[j]:=λ a ha=>by
   rw [jM hlt] at ha;rcases aO.mp ha with z | z
   ·exact .inl z
   ·exact .inr (bF.mp z)
  rcases hb with ⟨rfl,rfl⟩ | ⟨M,vb,kb,rfl,hM,rM,rK,best⟩
  ·show wpAny _ X.A.in1 (tryCatch (pyNext (.ref It)) _ >>= _) _ _ _
   refine go [] _ _ _ _ λ v h' tk' rv' J hit' hS'=>?_
   show wpAny _ X.A.in1 (tryCatch (holding [v] (call (.ref fq) [v])) _ >>= _) _ _ _
   refine wpAny_bind (wpAny_tryCatch (wpAny_holding (turn _ hn v _ _ _ J rv' λ y s2 ry J2 qu=>?_)));have hS2:=qu.fp fS hS';obtain ⟨oI,hoI,hoc,hod⟩:=hit';have hI2:=qu.fp fI hoI;have s1:=Heap.SameBut.update s2.heap S (Obj.mapSeq λ _=>#[v,y]);obtain ⟨c2,hc2⟩:∃ c2,(s2.heap.update S (Obj.mapSeq λ _=>#[v,y])).get? S=some (seqObj "list" #[v,y] c2):=⟨_,get?_update_seq hS2 λ _=>#[v,y]⟩
   show wpAny _ X.A.in1 (updateSeq S (λ _=>#[v,y]) >>= _) _ _ _
   refine wpAny_bind (wpAny_updateSeq hS2 rfl ?_);rw [nm];refine wpAny_pure ⟨plainId_quiet F.plain_min_loop _,ih (0+1) _ [v,y] c2 (by omega) hlt (J2.fpTurn fS λ c o n e=>(s1.2 c n).trans e) ⟨oI,(s1.2 It hIS).trans hI2,hoc,hod⟩ hc2 (.inr ⟨ns[0],v,y,rfl,hn,rv',ry,λ a ha=>?_⟩)⟩;rcases tk1 a ha with z | z
   ·simp at z
   ·rw [z]; exact cD _
  ·show wpAny _ X.A.in1 (tryCatch (pyNext (.ref It)) _ >>= _) _ _ _
   refine go [] _ _ _ _ λ v h' tk' rv' J hit' hS'=>?_
   show wpAny _ X.A.in1 (tryCatch (holding [v] (call (.ref fq) [v])) _ >>= _) _ _ _
   refine wpAny_bind (wpAny_tryCatch (wpAny_holding (turn _ hn v _ _ _ J rv' λ y s2 ry J2 qu=>?_)));have hS2:=qu.fp fS hS';obtain ⟨oI,hoI,hoc,hod⟩:=hit';have hI2:=qu.fp fI hoI;obtain ⟨t2,rfl⟩:=ry;obtain ⟨tb,rfl⟩:=rK
   show wpAny _ X.A.in1 (tryCatch (holding [v,.int (g ns[j]) t2] (richCompare .Lt (.int (g ns[j]) t2) (.int (g M) tb) >>= _)) _ >>= _) _ _ _
   refine wpAny_bind (wpAny_tryCatch (wpAny_holding (wpAny_bind (CmpOf.ints_lt (prog:=X.prog) (w:=X.w) (A:=X.A.in1) (P:=λ i v=>∃ t,v=.int ([g ns[j],g M].getD i 0) t) (λ i=>[g ns[j],g M].getD i 0) (λ i v h=>h) 0 1 _ _ _ _ _ ⟨t2,rfl⟩ ⟨tb,rfl⟩ ?_))));refine wpAny_bind (wpAny_holding (wpAny_truthy_bool (wpAny_bind (wpAny_letGo (wpAny_pure ?_)))));have e01:(λ i j_1=>decide ([g ns[j],g M].getD i 0<[g ns[j],g M].getD j_1 0)) 0 1=decide (g ns[j]<g M):=rfl;rw [e01]
   by_cases hb':g ns[j]<g M
   ·have s1:=Heap.SameBut.update s2.heap S (Obj.mapSeq λ _=>#[v,.int (g ns[j]) t2])
    obtain ⟨c2,hc2⟩:∃ c2,(s2.heap.update S (Obj.mapSeq λ _=>#[v,.int (g ns[j]) t2])).get? S=some (seqObj "list" #[v,.int (g ns[j]) t2] c2):=⟨_,get?_update_seq hS2 λ _=>#[v,.int (g ns[j]) t2]⟩;simp only [hb',decide_true,if_true];refine wpAny_bind (wpAny_updateSeq hS2 rfl (wpAny_bind (wpAny_letGo ?_)));rw [nm];refine wpAny_pure ⟨plainId_quiet F.plain_min_loop _,ih (j+1) _ [v,.int (g ns[j]) t2] c2 (by omega) hlt (J2.fpTurn fS λ c o n e=>(s1.2 c n).trans e) ⟨oI,(s1.2 It hIS).trans hI2,hoc,hod⟩ hc2 (.inr ⟨ns[j],v,_,rfl,hn,rv',⟨t2,rfl⟩,λ a ha=>?_⟩)⟩;rcases tk1 a ha with z | z
    ·have:=best a z; omega
    ·rw [z]; exact cD _
   ·simp only [hb',decide_false,gL,if_false]
    refine wpAny_bind (wpAny_letGo ?_);rw [nm];refine wpAny_pure ⟨plainId_quiet F.plain_min_loop _,ih (j+1) _ [vb,.int (g M) tb] cn (by omega) hlt J2 ⟨oI,hI2,hoc,hod⟩ hS2 (.inr ⟨M,vb,_,rfl,hM,rM,⟨tb,rfl⟩,λ a ha=>?_⟩)⟩;rcases tk1 a ha with z | z
    ·exact best a z
    ·rw [z]; omega
theorem b0u {s:Shared} {Q:Value->Shared->Prop} {E:Value->Shared->Prop} (hc:X.calm=true) (I:Inv X pins σ H s) (hl:SqL X.K H l (ns.map V.int)) (turn:a8x X pins σ H fq ns g)
  (hN:ns=[]->∀ s',Inv X pins σ H s'->Q .none s') (hR:∀ M∈ns,(∀ a∈ns,g M<=g a)->∀ y s',RelV (.int M) y->Inv X pins σ H s'->Q y s') :
  wpAny (model X.prog X.w) X.A (call (.builtin "min") [.ref l] [("key",.ref fq),("default",.none)]) Q E s:=by
 have nm:(toString "min"++toString ".loop":String)="min.loop":=by decide
 have ha:argsOk "min" ⟨[.ref l],[("key",.ref fq),("default",.none)]⟩:=by unfold argsOk; rfl
 obtain ⟨its,rv,pl,hz⟩:=I.list hl;have hlt:l<s.heap.objs.size:=by obtain ⟨_,e,_⟩:=pl.isList; exact Heap.lt_size e
 refine kmk_tree F.kind_min F.plain_min F.entry_min ha ?_
 show wpAny _ X.A.in1 (Builtin.Builtins.bindParams "min" ["key","default"] 0 ⟨[],[("key",.ref fq),("default",.none)]⟩ >>= _) _ _ s
 refine wpAny_bind (wpAny_of_eq (show Builtin.Builtins.bindParams "min" ["key","default"] 0 ⟨[],[("key",.ref fq),("default",.none)]⟩=pure [some (.ref fq),some .none] from rfl) (wpAny_bind (wpAny_pure ?_)));refine wpAny_bind (wpAny_pyIter_list pl.isList (wpAny_bind (wpAny_newList ?_ (bR _))));rw [nm];have I1:=I.kept (h':=s.heap.push { cls:=.type "list_iterator",data:=.fields #[.ref l,.int 0 0] }) (t':=s.toks) λ b u e=>Heap.get?_push_of_some _ e;have I2:=I1.kept (h':=(s.heap.push { cls:=.type "list_iterator",data:=.fields #[.ref l,.int 0 0] }).push (seqObj "list" #[] 0)) (t':=s.toks) λ b u e=>Heap.get?_push_of_some _ e;have hS:(s.heap.push { cls:=.type "list_iterator",data:=.fields #[.ref l,.int 0 0] }).objs.size=s.heap.objs.size+1:=size_push' ..;have fI:U7 X pins H s.heap.objs.size:=I.fpOk (aF _) (I.hok.fresh (aF _));have fS:U7 X pins H (s.heap.push { cls:=.type "list_iterator",data:=.fields #[.ref l,.int 0 0] }).objs.size:=I.fpOk (by rw [hS]; omega) (I.hok.fresh (by rw [hS]; omega));refine wpAny_pure ⟨plainId_quiet F.plain_min_loop _,b0t hc hl turn fI fS (bI (by rw [hS]; exact eV _)) (bI hlt) hN hR _ 0 _ [] 0 rfl (bR _) I2 ⟨_,Heap.get?_push_of_some _ (Heap.get?_push_size _ rfl),rfl,rfl⟩ (Heap.get?_push_size _ rfl) (.inl ⟨rfl,rfl⟩)⟩
end
theorem SqL.same1 {K:W.Frag} {P:Addr} {pos:Pos} {qual:Str} {H H':Hp} {a:Addr} {xs:List V} (T:LamTab P pos qual H) (e:Same1 P H H') (h:SqL K H a xs):SqL K H' a xs:=by
 have ne:∀ o,H a=some o->(∀ ps,o≠.tbl ps)->a≠P:=λ o q n z=>by
  subst z;rcases T with t | ⟨c,t,_⟩
  ·rw [q] at t; exact n _ (aL t)
  ·rw [q] at t; exact n _ (aL t)
 rcases h with (h | ⟨o,h⟩) | h
 ·exact .inl (.inl (e _ _ (ne _ h λ _=>nofun) h))
 ·exact .inl (.inr ⟨o,e _ _ (ne _ h λ _=>nofun) h⟩)
 ·exact .inr h
def b1d (K:W.Frag) (P:Addr) (lpos:Pos) (qual:Str) (fr:List Nat) (t:TA) (tb:TE):TE:=λ σ H Q=>t σ H λ vs H1=>∃ (l:Addr) (ns:List Int) (g:Int->Int),vs=[.ref l]/\SqL K H1 l (ns.map V.int)/\LamTab P lpos qual H1 ∧
 ∀ H2,Same1 P H1 H2->LamTab P lpos qual H2->(∀ n∈ns,tb (some (.int n)::frv fr σ) H2 λ y H'=>y=.int (g n)/\H'=H2)/\(ns=[]->Q .non H2)/\∀ M∈ns,(∀ a∈ns,g M<=g a)->Q (.int M) H2
section
variable {X:Cx} {e body:Expr} {es:List Expr} {t:TA} {tb:TE} {fr:List Nat} {scope:Scope} {col:Str} {c P:Addr} {params:Arguments} {p pos lpos kp1 kp2 cp:Pos} {cj:Nat}
theorem a7C (hc:X.calm=true) (hr:Room 2 X.A) (hg:Gl X "min") (hm:X.mg "min"=none) (hcode:X.env.code=.ref c) (C:W.CodeHd X.base c P) (B:T9 X.mg X.base) (hlc:a0G X.env.scope scope X.N fr=true) (hk:scope.kind=.function)
  (hcell:∀ x∈scope.names,x.2≠.cell) (hcol:scope.names.lookup col=some .local) (hco:scope.isCoroutine=false) (hgen:scope.isGenerator=false)
  (hb:∀ (pm ctv:Value) (c':Addr) (u:Value),bindArgs (W.kla_fn "<lambda>" (X.env.qual++"<lambda>") params body scope (clo X.env scope.names []) pm (.ref c') ctv) ⟨[u],[]⟩=pure [(col,u)])
  (ha:PA X [e] t) (hbody:∀ (f:Addr) (cd:Value) (s:Shared) (H:Hp),PE (a6W X col fr (X.env.qual++"<lambda>") scope f cd X.A.in1 s H) body tb) (hdef:defaultsOf params X.env=([],[]):=by rfl)
  (he:backTo pos (starEach [e] X.env)=(false,eval e X.env)::backTo pos (starEach [] X.env):=by rfl) (hpl:(backTo pos (starEach [e] X.env)).any (·.1)=false:=by rfl) :
  PE X (.Call (.Name "min" p) [e] [⟨some "key",.Lambda params body scope lpos,kp1⟩,⟨some "default",.Constant .none cj cp,kp2⟩] pos) (b1d X.K P lpos (X.env.qual++"<lambda>") fr t tb):=by
 intro pins s σ H Q I h;refine wpAny_Call_Name_kw (U5 I hg hm (u:=.builtin "min") rfl ?_);refine mK (A8 (ha pos pins s σ H _ I h) λ us s1 ⟨vs,H1,I1,r,l,ns,g,ev,hl,T,q⟩=>?_) he hpl;subst ev;obtain ⟨u,rfl,ru⟩:=O4 r
 cases ru
 show wpAny _ _ (evalAll [(do let v <- eval (.Lambda params body scope lpos) X.env; standAt pos; pure v),(do let v <- eval (.Constant .none cj cp) X.env; standAt pos; pure v)]) _ _ s1
 refine wpAny_evalAll_cons (wpAny_bind (a8W I1 hcode C B T hlc hdef λ f c' ctv pm H2 s2 I2 T2 e2 Hc' _=>wpAny_bind (wpAny_standAt (wpAny_pure ?_))));refine wpAny_evalAll_cons (wpAny_bind (Constant_none (wpAny_bind (wpAny_standAt (wpAny_pure (wpAny_evalAll_nil ?_))))));obtain ⟨q1,q2,q3⟩:=q H2 e2 T2;have hl2:=hl.same1 T e2;have drop:∀ {po:Addr×Obj} {s'},Inv X (po::pins) σ H2 s'->Inv X pins σ H2 s':=λ J=>J.pins_of λ p hp=>J.pin p (bN _ (bL _ hp));have hd':X.A.in1.depth<recursionLimit:=by
  have z:X.A.in1.depth+3*1+5<recursionLimit:=hr.in1.dp;omega
 refine b0u (g:=g) hc I2 hl2 (λ n hn u s3 Q3 E3 I3 ru k3=>?_) (λ en s3 I3=>⟨.non,H2,drop I3,rfl,q2 en⟩) λ M hM hmin y s3 ry I3=>⟨.int M,H2,drop I3,ry,q3 M hM hmin⟩;obtain ⟨cr,_,_⟩:=I3.hok c' _ Hc';exact a8c (k:=.int (g n)) I3 I3.ok.frames rfl hd' hk hlc hcell hcol hco hgen (I3.pin _ (bN _ cG)).1 cr (hb pm ctv c') (hbody f (.ref c') s3 H2) ru (q1 n hn) k3
end
section
variable {X:Cx} {os:List Str} {fr:List Nat} {scope:Scope} {elt tg iter:Expr} {pos:Pos} {wi:TI} {g:TG} {te:TE}
theorem b2o {c:Expr} {tc:TT} {i:Nat} {x:Str} {pos' spos:Pos} (os:List Str) (fr:List Nat) (hN:X.N.Nodup) (hi':X.N[i]?=some x) (hx:X.env.scope.names.lookup x=some .local)
  (hc:X.calm=true) (hi:PI X tg iter wi) (hg:∀ C fp s₀ H₀,PG (blk X os fr scope C fp s₀ H₀) tg g) (ht:∀ C fp s₀ H₀,PT (blk X os fr scope C fp s₀ H₀) c tc) (he:∀ C fp s₀ H₀,PE (blk X os fr scope C fp s₀ H₀) elt te)
  (hsw:swapsWith (.ListComp elt [⟨tg,iter,[c],0⟩] scope pos) (some (.Name x pos')) spos.line X.env=pure true:=by rfl)
  (hk:scope.kind=.function:=by rfl) (hok:a0G X.env.scope scope X.N fr=true:=by rfl) (hs:∀ x,foldedSetIterable iter X.env x=pure x:=by intro _; rfl) :
  PS X (.Assign [.Name x pos'] (.ListComp elt [⟨tg,iter,[c],0⟩] scope pos) spos) (a7x (b3J os.length fr wi g tc te) (J8 i)):=by
 intro pins s σ H D I h;unfold a7x at h;rw [exec_Assign_Name_used _ _ _ _ hsw];refine wpAny_bind (wpAny_standAt (wpAny_bind ?_))
 show wpAny _ X.A (do let _ <- comprehension (.ListComp elt [⟨tg,iter,[c],0⟩] scope pos) scope X.env _ (newList []) false (eval iter X.env) (some (assign (.Name x pos') X.env))) _ _ s
 refine wpAny_bind (wpAny_mono (wpAny_comprehension_free (use:=some (assign (.Name x pos') X.env)) (Q:=λ _ s'=>SP X pins D .next s') rfl hs (E6 (U4 I hok)) hk (λ x hx hl=>by have:=(O8 hok x hx).1; rw [hl] at this; exact this)
  (A8 (hi pins s σ H _ I h) λ v s1 h1=>A8 h1 λ itv s2 h2=>?_)) (λ _ s' hq=>wpAny_pure (wpAny_pure hq)) λ _ _ e=>e)
 refine a0C (os:=os) (D:=λ p H'=>D.nx (σ.set i (some (.ref p))) H') (RR:=λ acc C=>compPost (model X.prog X.w) X.A X.xe (some (assign (.Name x pos') X.env)) (λ _ s'=>SP X pins D .next s') acc C) hc hg (λ _ _ _ _=>a4y (ht _ _ _ _)) he hk hok h2 ?_;intro p C s3 H3 s' H' I3 eC hn I' ⟨m,hm⟩ q
 show wpAny _ X.A (assign (.Name x pos') X.env (.ref p)) _ _ _
 refine wpAny_assign_Name (a0S (v:=.ref p) I' hN hi' (.inl hx) rfl (λ s'' I'' ⟨a,hsa,ha⟩=>?_) (.inr hx));have hCa:C≠a:=by
  rcases ha with e | e
  ·rw [e]; exact cP (by rw [<- eC]; exact I3.lt)
  ·obtain ⟨v,z⟩:=I3.cell x a e
   exact cP (by rw [<- eC]; exact z.lt)
 exact ⟨m,hm.sameBut hsa hCa,λ h' hs'=>⟨_,H',I3.letgo I'' hn (by omega) hs',q⟩⟩
theorem a1K (K:W.Frag) {e:Expr} {f:Str} {ta:TE} (h:X.K=K) (he:PE X e ta) (hb:attributeBase e f X.env (eval e X.env)=eval e X.env):PE X (.Attribute e f pos) (b4g K ta f):=by subst h; exact t7 he hb
end
section
variable {fr:List Nat} {tc:TT} {σ:St} {J:It} {H1:Hp} {p:Addr} {D:Hp->Prop} {xs:List V}
theorem a9O (hJ:a7P J H1 xs) (hp:H1 p=none) (hz:xs.length<sizeLine) (F:V->Bool)
  (step:∀ (i:Nat) x H (N:Bool->Hp->Prop),xs[i]?=some x->Same H1 H->N (F x) H->tc ((blkσ 1 fr σ).set 0 (some x)) H N)
  (hd:D (r6 H1 p (.lst (xs.filter F)))):lcI 1 fr (J8 0) tc (a4t 0) σ J H1 p D:=by
 refine ⟨λ i m ys H=>m=xs.length - i/\i<=xs.length/\ys=(xs.take i).filter F/\H=r6 H1 p (.lst ys),⟨xs.length,by simp,bR _,by simp,rfl⟩,?_⟩;rintro i m ys H ⟨rfl,hi,rfl,rfl⟩;have e:=Same.new (o:=.lst ((xs.take i).filter F)) hp
 by_cases hlt:i<xs.length
 ·refine .inr ⟨hJ.go i _ e hlt,λ x H' y=>?_⟩
  obtain ⟨rfl,hx⟩:=hJ.yld i _ x H' e hlt y;have tk:(xs.take (i+1)).filter F=(xs.take i).filter F++[x].filter F:=by rw [jN,hx,gQ]; rfl
  refine ⟨Wk.set (by decide),step i x _ _ hx e ?_⟩
  cases hq:F x with
  | false =>
   rw [if_neg bW];refine ⟨xs.length - (i+1),by omega,rfl,hlt,?_,rfl⟩;rw [tk]; simp [hq]
  | true =>
   rw [if_pos rfl];refine ⟨x,?_,upd_same,?_,xs.length - (i+1),by omega,rfl,hlt,?_,T7⟩
   ·show ((blkσ 1 fr σ).set 0 (some x))[0]?=some (some x)
    rw [bV (by simp [blkσ])]
   ·have h1:=gB F (xs.take i)
    rw [cI] at h1;omega
   ·rw [tk]; simp [hq]
 ·have:i=xs.length:=by omega
  subst this;refine .inl ⟨hJ.stop _ e,?_⟩;rw [fA (aF _)]; exact hd
end
section
variable {P:Program} {w:World} {K:W.Frag} {mg:Str->Option Value} {base:Heap}
theorem Fun.okC {x qual:Str} {st:Stmt} {f c:Addr} {fd:FuncData} {N ps:List Str} {k:Nat} {sp:Sp} (F:Fun K x qual st f fd) (hc:fd.code=.ref c) (S:m9 N ps (i8 st)) (len:∀ vs H Q E,sp vs H Q E->vs.length=ps.length)
  (hbody:∀ (A:Around) (outer:List Env) (s:Shared) (H:Hp) (vs:List V) (Q:VK) (E:XK),Room k (A.deeper (envOfC qual (i8 st) s.heap.objs.size f (.ref c)))->sp vs H Q E →
   ∃ t,PSs (K1 E4 P w K mg base N qual (i8 st) f (.ref c) A outer s H E).nox (w4 st) t/\t { nx:=λ _ H'=>Q .non H',rt:=Q } (N8 N vs) H):FnOk P w K mg base E4 (k+1) f fd ps sp:=by
 obtain ⟨oc,od,kV,doc,pm,an,cdv,ct,osl,rfl,lk,hcd⟩:=F.ex;have e:cdv=.ref c:=hc;subst e;refine a8M lk hcd S len λ A outer s H vs Q E hr hsp=>?_;obtain ⟨t,h,q⟩:=hbody A outer s H vs Q E hr hsp;exact ⟨t,h.nox,q⟩
end
end L2
namespace L2
open PySem
section
variable {xs ys:List V} {K:W.Frag} {l1 l2:Addr} {fr:List Nat} {te:TE} {σ:St} {H1:Hp} {p:Addr} {D:Hp->Prop}
end
theorem X1 {G0:St->Hp->Prop} {σ:St} {H:Hp} (h:∀ G:St->Hp->Prop,G=G0->G σ H):G0 σ H:=h G0 rfl
section
variable {X:Cx} {st:Stmt} {rest:List Stmt} {t u:TS}
def b5b (t u:TS):TS:=λ D σ H=>∃ M:St->Hp->Prop,t { D with nx:=M } σ H/\∀ σ' H',M σ' H'->u D σ' H'
theorem p7 (h1:PS X st t) (h2:PSs X rest u):PSs X (st::rest) (b5b t u):=by
 intro pins s σ H D I ⟨M,h,hM⟩;refine wpAny_execs_cons (A8 (h1 pins s σ H { D with nx:=M } I h) λ f s1 q=>?_)
 cases f with
 | next =>
  obtain ⟨σ',H',I',q⟩:=q;exact h2 pins s1 σ' H' D I' (hM _ _ q)
 | ret v=>exact q
 | brk=>exact q
 | cont=>exact q
end
end L2
namespace Rim
open PySem L2
theorem a3s (xs:List V) (k:Nat) (h:k<=xs.length):E8 xs none (some (k:Int))=xs.take k:=by
 unfold E8;rw [HT.sIx_none,HT.sIx_nat,jV]
 congr 1
 omega
theorem a0A (xs:List V) (k:Nat) (h:k<=xs.length):E8 xs (some (k:Int)) none=xs.drop k:=by
 unfold E8;rw [HT.sIx_none,HT.sIx_nat,fB h];exact fA (by rw [dE]; exact aF _)
end Rim
namespace L2
open PySem PySem.Spec PyProof.Rows
section
variable {X:Cx}
theorem a7N:G2 X (.type "range") (λ vs H Q=>∃ j:Int,vs=[.int j]/\∀ p,H p=none->Q (.ref p) (r6 H p (.rng 0 j))):=by
 intro pins s σ H vs us Q I r h;obtain ⟨j,rfl,q⟩:=h;obtain ⟨u,rfl,t,rfl⟩:=O4 r;refine call_range_1 ⟨.ref s.heap.objs.size,_,I.laid (o:=.rng 0 j) (λ b u e=>Heap.get?_push_of_some _ e) (aF _) ⟨_,_,_,Heap.get?_push_size _ rfl⟩,rfl,q _ (I.hok.fresh (aF _))⟩
theorem a7O:G2 X (.type "range") (λ vs H Q=>∃ i j:Int,vs=[.int i,.int j]/\∀ p,H p=none->Q (.ref p) (r6 H p (.rng i j))):=by
 intro pins s σ H vs us Q I r h;obtain ⟨i,j,rfl,q⟩:=h;obtain ⟨u,v,rfl,⟨t,rfl⟩,t',rfl⟩:=a2A r;refine call_range_2 ⟨.ref s.heap.objs.size,_,I.laid (o:=.rng i j) (λ b u e=>Heap.get?_push_of_some _ e) (aF _) ⟨_,_,_,Heap.get?_push_size _ rfl⟩,rfl,q _ (I.hok.fresh (aF _))⟩
theorem a2C:∀ (n:Nat) (acc:List Value) (F:Nat->Int),acc.length=n->(∀ j v,acc[j]?=some v->∃ t,v=Value.int (F j) t)->Vals ((aE n).map λ i=>V.int (F i)) acc
 | 0,[],_,_,_=>.nil
 | n+1,a::acc,F,hl,h=>by
  rw [jW,aV,aQ];refine .cons (h 0 a rfl) ?_;exact a2C n acc (λ i=>F (i+1)) (by simpa using hl) λ j v e=>h (j+1) v (by simpa using e)
theorem a0h (hc:X.calm=true):G2 X (.type "list") (λ vs H Q=>∃ (p:Addr) (lo:Int) (n:Nat),vs=[.ref p]/\H p=some (.rng lo (lo+n))/\-(2 ^ 60)<=lo/\lo<2 ^ 60/\n<=1000/\∀ l,H l=none->Q (.ref l) (r6 H l (.lst ((aE n).map λ (i:Nat)=>V.int (lo+(i:Int)))))):=by
 intro pins s σ H vs us Q I r h;obtain ⟨p,lo,n,rfl,hp,h1,h2,hn,q⟩:=h;obtain ⟨u,rfl,ru⟩:=O4 r
 cases ru;obtain ⟨t,u,v,e⟩:=I.hok p _ hp;have hsz:Builtin.Range.rangeSize lo (lo+n) 1=n:=by rw [rangeSize_one]; split <;> omega
 refine call_list_range (I.ok.hd hc) e (small_one (by omega) (by omega) (by omega) (by omega)) hsz (by omega) λ h' tk acc' c' hk hS hacc=>?_;have hv:Vals ((aE n).map λ (i:Nat)=>V.int (lo+(i:Int))) acc'.toList:=a2C n acc'.toList (λ i=>lo+(i:Int)) (by simpa using hacc.1) λ j v e=>by
  obtain ⟨t,et⟩:=hacc.2 j v (by simpa using e);exact ⟨t,by rw [et,eR]⟩
 have h9:n<=sizeLine:=aW hn (by decide);refine ⟨.ref s.heap.objs.size,_,I.laid (o:=.lst ((aE n).map λ (i:Nat)=>V.int (lo+(i:Int)))) (t':=tk) hk (aF _) ⟨by simpa using h9,acc'.toList,c',hv,by simpa using hS⟩,rfl,q _ (I.hok.fresh (aF _))⟩
end
end L2
namespace Lp
abbrev C3:=Nat->Int
def tl (v:C3):C3:=λ i=>v (i+1)
def U2 (a:Int) (u:C3) (b:Int) (v:C3):C3:=λ i=>a*u i+b*v i
def M7 (D:List C3->Int):List C3->List C3->Int
 | _,[]=>0
 | pre,c::rest=>c 0*D ((pre++rest).map tl) - M7 D (pre++[c]) rest
def B6:Nat->List C3->Int
 | 0,_=>1
 | n+1,cols=>M7 (B6 n) [] cols
def Lin (n:Nat) (D:List C3->Int):Prop:=∀ (a:Int) (u:C3) (b:Int) (v:C3) (xs ys:List C3),xs.length+ys.length+1=n->D (xs++U2 a u b v::ys)=a*D (xs++u::ys)+b*D (xs++v::ys)
theorem a6g (a:Int) (u:C3) (b:Int) (v:C3):tl (U2 a u b v)=U2 a (tl u) b (tl v):=rfl
theorem b3C (a b x y p q:Int) (c:Int):c*(a*x+b*y) - (a*p+b*q)=a*(c*x - p)+b*(c*y - q):=by
 rw [fN,fO,fO];have e1:c*(a*x)=a*(c*x):=by rw [<- aX,aU c a,aX]
 have e2:c*(b*y)=b*(c*y):=by rw [<- aX,aU c b,aX]
 rw [e1,e2];lia
theorem a6C {n:Nat} {D:List C3->Int} (h:Lin n D) (a:Int) (u:C3) (b:Int) (v:C3):∀ (rest p1 p2:List C3),p1.length+p2.length+rest.length=n →
  M7 D (p1++U2 a u b v::p2) rest=a*M7 D (p1++u::p2) rest+b*M7 D (p1++v::p2) rest
 | [],p1,p2,_=>by simp [M7]
 | c::rest,p1,p2,hl=>by
  have hl':p1.length+p2.length+(rest.length+1)=n:=hl;have ih:=a6C h a u b v rest p1 (p2++[c]) (by rw [aM,dA]; lia);have h0:=h a (tl u) b (tl v) (p1.map tl) ((p2++rest).map tl) (by rw [aA,aA,aM]; lia);unfold M7;simp only [dM,cQ,bC,aV,a6g] at h0 ih ⊢;rw [h0,ih];exact b3C ..
theorem b4E (a b x y p q D:Int):(a*x+b*y)*D - (a*p+b*q)=a*(x*D - p)+b*(y*D - q):=by
 rw [cV,fO,fO,aX,aX];lia
theorem a4g {n:Nat} {D:List C3->Int} (h:Lin n D) (a:Int) (u:C3) (b:Int) (v:C3):∀ (r1 pre r2:List C3),pre.length+r1.length+r2.length=n →
  M7 D pre (r1++U2 a u b v::r2)=a*M7 D pre (r1++u::r2)+b*M7 D pre (r1++v::r2)
 | [],pre,r2,hl=>by
  have hp:=a6C h a u b v r2 pre [] (by simp only [gC] at hl ⊢; lia);simp only [dW];unfold M7;rw [hp];exact b4E ..
 | c::r1,pre,r2,hl=>by
  have hl':pre.length+(r1.length+1)+r2.length=n:=hl;have ih:=a4g h a u b v r1 (pre++[c]) r2 (by rw [aM,dA]; lia);have h0:=h a (tl u) b (tl v) ((pre++r1).map tl) (r2.map tl) (by rw [aA,aA,aM]; lia);simp only [cQ];unfold M7;simp only [dM,cQ,bC,aV,a6g] at h0 ih ⊢;rw [h0,ih];exact b3C ..
theorem a3W:∀ n,Lin n (B6 n)
 | 0=>λ a u b v xs ys h=>by lia
 | n+1=>λ a u b v xs ys h=>a4g (a3W n) a u b v xs [] ys (by simp only [gC]; lia)
def Adj (n:Nat) (D:List C3->Int):Prop:=∀ (u:C3) (xs ys:List C3),xs.length+ys.length+2=n->D (xs++u::u::ys)=0
theorem a6i {n:Nat} {D:List C3->Int} (h:Adj n D) (u:C3):∀ (rest p1 p2:List C3),p1.length+p2.length+rest.length+1=n->M7 D (p1++u::u::p2) rest=0
 | [],_,_,_=>rfl
 | c::rest,p1,p2,hl=>by
  have hl':p1.length+p2.length+(rest.length+1)+1=n:=hl;have ih:=a6i h u rest p1 (p2++[c]) (by rw [aM,dA]; lia);have h0:=h (tl u) (p1.map tl) ((p2++rest).map tl) (by rw [aA,aA,aM]; lia);unfold M7;simp only [dM,cQ,bC,aV] at h0 ih ⊢;rw [h0,ih];lia
theorem a4J {n:Nat} {D:List C3->Int} (h:Adj n D) (u:C3):∀ (r1 pre r2:List C3),pre.length+r1.length+r2.length+1=n->M7 D pre (r1++u::u::r2)=0
 | [],pre,r2,hl=>by
  have hp:=a6i h u r2 pre [] (by simp only [gC] at hl ⊢; lia);simp only [dW];unfold M7;unfold M7;simp only [dM,cQ,dW] at hp ⊢;rw [hp];lia
 | c::r1,pre,r2,hl=>by
  have hl':pre.length+(r1.length+1)+r2.length+1=n:=hl;have ih:=a4J h u r1 (pre++[c]) r2 (by rw [aM,dA]; lia);have h0:=h (tl u) ((pre++r1).map tl) (r2.map tl) (by rw [aA,aA,aM]; lia);simp only [cQ];unfold M7;simp only [dM,cQ,bC,aV] at h0 ih ⊢;rw [h0,ih];lia
theorem a3x:∀ n,Adj n (B6 n)
 | 0=>λ u xs ys h=>by lia
 | n+1=>λ u xs ys h=>a4J (a3x n) u xs [] ys (by simp only [gC]; lia)
def Q8 (k:Nat):C3:=λ i=>if i=k then 1 else 0
theorem a9J {D:List C3->Int}:∀ (rest pre:List C3),(∀ c∈rest,c 0=0)->M7 D pre rest=0
 | [],_,_=>rfl
 | c::rest,pre,h=>by
  unfold M7;rw [h c cG,a9J rest (pre++[c]) λ x hx=>h x (bL _ hx)];lia
theorem a0E:∀ n,B6 n ((aE n).map Q8)=1
 | 0=>rfl
 | n+1=>by
  show M7 (B6 n) [] ((aE (n+1)).map Q8)=1
  rw [jW,aV,aQ];unfold M7;rw [a9J _ _ (λ c hc=>by
   obtain ⟨k,_,rfl⟩:=bA.mp hc;rfl)]
  have e:([]++(aE n).map (Q8 ∘ Nat.succ)).map tl=(aE n).map Q8:=by
   rw [dW,aQ];refine cW λ k _=>?_
   funext i
   show (if i+1=k+1 then (1:Int) else 0)=if i=k then 1 else 0
   by_cases c:i=k
   ·rw [if_pos (by lia),if_pos c]
   ·rw [if_neg (by lia),if_neg c]
  rw [e,a0E n];rfl
def bnd (M:Nat):Nat->Nat
 | 0=>1
 | n+1=>(n+1)*(M*bnd M n)
def Fits (M n:Nat) (v:C3):Prop:=∀ i,i<n->(v i).natAbs<=M
theorem a6B {D:List C3->Int} {M n B:Nat} (hD:∀ cols,cols.length=n->(∀ c∈cols,Fits M n c)->(D cols).natAbs<=B):∀ (rest pre:List C3),pre.length+rest.length=n+1->(∀ c∈pre,Fits M (n+1) c)->(∀ c∈rest,Fits M (n+1) c)->(M7 D pre rest).natAbs<=rest.length*(M*B)
 | [],_,_,_,_=>by simp [M7]
 | c::rest,pre,hl,hp,hr=>by
  have hl':pre.length+(rest.length+1)=n+1:=hl;have h1:=a6B hD rest (pre++[c]) (by rw [aM,dA]; lia) (λ x hx=>(aO.mp hx).elim (hp x) λ z=>by rw [bF.mp z]; exact hr c cG) λ x hx=>hr x (bL _ hx);have h2:=hD ((pre++rest).map tl) (by rw [aA,aM]; lia) λ x hx=>by
   obtain ⟨y,hy,rfl⟩:=bA.mp hx;intro i hi;rcases aO.mp hy with z | z
   ·exact hp y z (i+1) (by lia)
   ·exact hr y (bL _ z) (i+1) (by lia)
  have h3:=hr c cG 0 (by lia);unfold M7;rw [cY,gK];have h4:(c 0*D ((pre++rest).map tl)).natAbs<=M*B:=by rw [iK]; exact iM h3 h2
  have h5:=Int.natAbs_sub_le (c 0*D ((pre++rest).map tl)) (M7 D (pre++[c]) rest);lia
theorem a3Y {M:Nat}:∀ (n:Nat) (cols:List C3),cols.length=n->(∀ c∈cols,Fits M n c)->(B6 n cols).natAbs<=bnd M n
 | 0,_,_,_=>aF 1
 | n+1,cols,hl,hf=>by
  have:=a6B (a3Y (M:=M) n) cols [] (by simpa using hl) (λ c hc=>by cases hc) hf;rw [hl] at this;exact this
theorem a4o {α:Type} {C:List α} {i:Nat} {u:α} (h:C[i]?=some u):C=C.take i++u::C.drop (i+1):=by
 obtain ⟨hi,rfl⟩:=bQ.mp h;rw [<- List.drop_eq_getElem_cons hi,List.take_append_drop]
theorem a8P (n:Nat) (u v:C3) (xs ys:List C3) (hl:xs.length+ys.length+2=n):B6 n (xs++u::v::ys) = - B6 n (xs++v::u::ys):=by
 have L:=a3W n;have A:=a3x n;have h0:=A (U2 1 u 1 v) xs ys hl;have h1:=L 1 u 1 v xs (U2 1 u 1 v::ys) (by simp only [cY]; lia);have h2:=L 1 u 1 v (xs++[u]) ys (by simp only [aM,dA]; lia);have h3:=L 1 u 1 v (xs++[v]) ys (by simp only [aM,dA]; lia);have h4:=A u xs ys hl;have h5:=A v xs ys hl;simp only [dM,cQ,dW] at h2 h3;lia
theorem a6k (n:Nat) (u:C3):∀ (zs xs ys:List C3),xs.length+zs.length+ys.length+2=n->B6 n (xs++u::(zs++u::ys))=0
 | [],xs,ys,hl=>a3x n u xs ys (by simp only [gC] at hl; lia)
 | z::zs,xs,ys,hl=>by
  have hl':xs.length+(zs.length+1)+ys.length+2=n:=hl;rw [cQ,a8P n u z xs (zs++u::ys) (by simp only [aM,cY]; lia)];have:=a6k n u zs (xs++[z]) ys (by rw [aM,dA]; lia);simp only [dM,cQ,dW] at this;lia
theorem a6t {n:Nat} {C:List C3} {i k:Nat} {u:C3} (hl:C.length=n) (hik:i<k) (h1:C[i]?=some u) (h2:C[k]?=some u):B6 n C=0:=by
 have e1:=a4o h1;have hk:k<C.length:=(bQ.mp h2).1;have h3:(C.drop (i+1))[k - (i+1)]?=some u:=by rw [jX,show i+1+(k - (i+1))=k by lia]; exact h2
 have e2:=a4o h3;rw [e1,e2];refine a6k n u _ _ _ ?_;simp only [cI,dE];lia
theorem X4 {n:Nat} {C:List C3} {i k:Nat} {u:C3} (hl:C.length=n) (hik:i≠k) (h1:C[i]?=some u) (h2:C[k]?=some u):B6 n C=0:=by
 rcases Nat.lt_or_gt_of_ne hik with h | h
 ·exact a6t hl h h1 h2
 ·exact a6t hl h h2 h1
theorem a1k {α:Type} {C:List α} {k:Nat} (h:k<C.length) (u:α):C.set k u=C.take k++u::C.drop (k+1):=by
 rw [List.set_eq_take_append_cons_drop,if_pos h]
theorem T5 {n:Nat} {C:List C3} {k:Nat} (hl:C.length=n) (hk:k<n) (a:Int) (u:C3) (b:Int) (v:C3):B6 n (C.set k (U2 a u b v))=a*B6 n (C.set k u)+b*B6 n (C.set k v):=by
 have hk':k<C.length:=by lia
 rw [a1k hk',a1k hk',a1k hk'];refine a3W n a u b v _ _ ?_;simp only [cI,dE];lia
theorem a3z {n:Nat} {C:List C3} {i k:Nat} (hl:C.length=n) (hi:i<n) (hk:k<n) (hik:i≠k) (u:C3):B6 n ((C.set i u).set k u)=0:=by
 refine X4 (i:=i) (k:=k) (u:=u) (by rw [cA,cA]; exact hl) hik ?_ ?_
 ·rw [bE (aS hik),bV (by lia)]
 ·rw [bV (by rw [cA]; lia)]
theorem a4r {n:Nat} {C:List C3} {i k:Nat} (hl:C.length=n) (hi:i<n) (hk:k<n) (hik:i≠k) (u v:C3):B6 n ((C.set i u).set k v) = - B6 n ((C.set i v).set k u):=by
 have h0:=a3z hl hi hk hik (U2 1 u 1 v);have h1:=T5 (C:=C.set i (U2 1 u 1 v)) (by rw [cA]; exact hl) hk 1 u 1 v;have h2:=T5 (C:=C.set k u) (by rw [cA]; exact hl) hi 1 u 1 v;have h3:=T5 (C:=C.set k v) (by rw [cA]; exact hl) hi 1 u 1 v;have h4:=a3z hl hi hk hik u;have h5:=a3z hl hi hk hik v;rw [fH _ _ (aS hik),fH _ _ (aS hik),fH _ _ (aS hik)] at h2 h3;lia
def sumTo (g:Nat->Int):Nat->Int
 | 0=>0
 | n+1=>sumTo g n+g n
theorem sum_congr {g h:Nat->Int}:∀ {n:Nat},(∀ k,k<n->g k=h k)->sumTo g n=sumTo h n
 | 0,_=>rfl
 | n+1,e=>by
  show sumTo g n+g n=sumTo h n+h n
  rw [sum_congr λ k hk=>e k (by lia),e n (by lia)]
theorem sum_zero {g:Nat->Int} {n:Nat} (h:∀ k,k<n->g k=0):sumTo g n=0:=by
 induction n with
 | zero=>rfl
 | succ n ih =>
  show sumTo g n+g n=0
  rw [ih λ k hk=>h k (by lia),h n (by lia)];rfl
theorem sum_one {g:Nat->Int} {n r:Nat} (hr:r<n) (h:∀ k,k<n->k≠r->g k=0):sumTo g n=g r:=by
 induction n with
 | zero=>lia
 | succ n ih =>
  show sumTo g n+g n=g r
  by_cases c:r=n
  ·subst c
   rw [sum_zero λ k hk=>h k (by lia) (by lia)];lia
  ·rw [ih (by lia) λ k hk hn=>h k (by lia) hn,h n (by lia) (by lia)]
   lia
theorem P7 {g h:Nat->Int}:∀ n:Nat,sumTo (λ k=>g k+h k) n=sumTo g n+sumTo h n
 | 0=>rfl
 | n+1=>by
  show sumTo (λ k=>g k+h k) n+(g n+h n)=sumTo g n+g n+(sumTo h n+h n)
  rw [P7 n];lia
theorem A2 {g:Nat->Int} (a:Int):∀ n:Nat,sumTo (λ k=>a*g k) n=a*sumTo g n
 | 0=>(bD a).symm
 | n+1=>by
  show sumTo (λ k=>a*g k) n+a*g n=a*(sumTo g n+g n)
  rw [A2 a n,fN]
theorem b0q {g:Nat->Int} {n r i:Nat} (hr:r<n) (hi:i<n) (hne:r≠i) (h:∀ k,k<n->k≠r->k≠i->g k=0):sumTo g n=g r+g i:=by
 have e:sumTo g n=sumTo (λ k=>(if k=r then g k else 0)+(if k=i then g k else 0)) n:=sum_congr λ k hk=>by
  by_cases c1:k=r
  ·rw [if_pos c1,if_neg (by lia)]; lia
  ·by_cases c2:k=i
   ·rw [if_neg c1,if_pos c2]; lia
   ·rw [if_neg c1,if_neg c2,h k hk c1 c2]; lia
 rw [e,P7,sum_one hr λ k _ hn=>if_neg hn,sum_one hi λ k _ hn=>if_neg hn,if_pos rfl,if_pos rfl]
theorem a1G {n:Nat} {C:List C3} {k:Nat} (hl:C.length=n) (hk:k<n) (t:Nat->Int) (W:Nat->C3):∀ m:Nat,B6 n (C.set k (λ x=>sumTo (λ j=>t j*W j x) m))=sumTo (λ j=>t j*B6 n (C.set k (W j))) m
 | 0=>by
  have h:=T5 hl hk 0 (λ _=>0) 0 (λ _=>0);have e:U2 0 (λ _=>0) 0 (λ _=>0)=(λ x:Nat=>sumTo (λ j=>t j*W j x) 0):=by funext x; simp [U2,sumTo]
  rw [e] at h;rw [h];simp [sumTo]
 | m+1=>by
  have h:=T5 hl hk 1 (λ x=>sumTo (λ j=>t j*W j x) m) (t m) (W m);have e:U2 1 (λ x=>sumTo (λ j=>t j*W j x) m) (t m) (W m)=(λ x:Nat=>sumTo (λ j=>t j*W j x) (m+1)):=by funext x; simp [U2,sumTo]
  rw [e,a1G hl hk t W m] at h;rw [h]
  show 1*sumTo _ m+_=sumTo _ m+_
  rw [gD]
def zv:C3:=λ _=>0
def a4E (n:Nat) (B:List C3) (u:C3):Prop:=∀ x,B6 n B*u x=sumTo (λ k=>B6 n (B.set k u)*(B.getD k zv) x) n
theorem a3L {B:List C3} {k:Nat} (h:k<B.length):B[k]?=some (B.getD k zv):=by rw [aI,aH h]; rfl
theorem P3 {B:List C3} {k:Nat} (h:k<B.length):B.set k (B.getD k zv)=B:=by
 have e:B.getD k zv=B[k]:=by rw [aI,aH h]; rfl
 rw [e,List.set_getElem_self]
theorem plu {n:Nat} {B:List C3} {r i:Nat} (hl:B.length=n) (hr:r<n) (hi:i<n) (hne:i≠r) {u:C3} (v:C3) (hc:a4E n B u) :
  B6 n B*B6 n ((B.set r u).set i v)=B6 n (B.set r u)*B6 n (B.set i v) - B6 n (B.set i u)*B6 n (B.set r v):=by
 have hl':(B.set i v).length=n:=by rw [cA]; exact hl
 have e1:B6 n ((B.set i v).set r (U2 (B6 n B) u 0 u))=B6 n B*B6 n ((B.set i v).set r u):=by
  rw [T5 hl' hr]; lia
 have e2:U2 (B6 n B) u 0 u=(λ x:Nat=>sumTo (λ k=>B6 n (B.set k u)*(B.getD k zv) x) n):=by
  funext x
  rw [<- hc x];unfold U2;lia
 rw [e2,a1G hl' hr (λ k=>B6 n (B.set k u)) (λ k=>B.getD k zv) n] at e1;rw [fH _ _ (aS hne),<- e1];rw [b0q hr hi (aS hne) λ k hk n1 n2=>?_]
 ·have a1:(B.set i v).set r (B.getD r zv)=B.set i v:=by rw [fH _ _ hne,P3 (by lia)]
  have a2:B6 n ((B.set i v).set r (B.getD i zv)) = - B6 n (B.set r v):=by
   rw [a4r hl hi hr hne,P3 (by lia)]
  show B6 n (B.set r u)*B6 n ((B.set i v).set r (B.getD r zv))+B6 n (B.set i u)*B6 n ((B.set i v).set r (B.getD i zv))=_
  rw [a1,a2,dI];lia
 ·have:B6 n ((B.set i v).set r (B.getD k zv))=0:=by
   refine X4 (i:=k) (k:=r) (u:=B.getD k zv) (by rw [cA,cA]; exact hl) n1 ?_ ?_
   ·rw [bE (aS n1),bE (aS n2)]; exact a3L (by lia)
   ·rw [bV (by rw [cA]; lia)]
  show B6 n (B.set k u)*B6 n ((B.set i v).set r (B.getD k zv))=0
  rw [this,bD]
theorem b2T {d a b:Int} (hd:d≠0) (h:d*a=d*b):a=b:=Int.eq_of_mul_eq_mul_left hd h
theorem a2M {n:Nat} {B:List C3} {r:Nat} (hl:B.length=n) (hr:r<n) {u v:C3} (hd:B6 n B≠0) (hu:a4E n B u) (hv:a4E n B v):a4E n (B.set r u) v:=by
 intro x;refine b2T hd ?_;have e:∀ k,k<n->B6 n B*(B6 n ((B.set r u).set k v)*((B.set r u).getD k zv) x) =
   B6 n (B.set r u)*(B6 n (B.set k v)*(B.getD k zv) x)+(if k=r then B6 n B*(B6 n (B.set r v)*u x) else 0) - B6 n (B.set r v)*(B6 n (B.set k u)*(B.getD k zv) x):=λ k hk=>by
  by_cases c:k=r
  ·subst c
   rw [if_pos rfl,jY];have g:(B.set k u).getD k zv=u:=by rw [aI,bV (by lia)]; rfl
   rw [g];have:B6 n (B.set k u)*(B6 n (B.set k v)*B.getD k zv x)=B6 n (B.set k v)*(B6 n (B.set k u)*B.getD k zv x):=by rw [<- aX,<- aX,aU (B6 n (B.set k u))]
   lia
  ·rw [if_neg c]
   have g:(B.set r u).getD k zv=B.getD k zv:=by rw [aI,bE (aS c),<- aI]
   rw [g,<- aX,plu hl hr hk c v hu,jZ,aX,aX];have:B6 n (B.set k u)*(B6 n (B.set r v)*B.getD k zv x)=B6 n (B.set r v)*(B6 n (B.set k u)*B.getD k zv x):=by rw [<- aX,<- aX,aU (B6 n (B.set k u))]
   lia
 have s1:B6 n B*sumTo (λ k=>B6 n ((B.set r u).set k v)*((B.set r u).getD k zv) x) n =
   sumTo (λ k=>B6 n (B.set r u)*(B6 n (B.set k v)*(B.getD k zv) x)+(if k=r then B6 n B*(B6 n (B.set r v)*u x) else 0)+(- B6 n (B.set r v))*(B6 n (B.set k u)*(B.getD k zv) x)) n:=by
  rw [<- A2];refine sum_congr λ k hk=>?_;rw [e k hk,eN];lia
 rw [s1,P7,P7,A2,A2,<- hv x,<- hu x,sum_one hr λ k _ hn=>if_neg hn,if_pos rfl,eN];have a1:B6 n B*(B6 n (B.set r u)*v x)=B6 n (B.set r u)*(B6 n B*v x):=by rw [<- aX,<- aX,aU (B6 n B)]
 have a2:B6 n B*(B6 n (B.set r v)*u x)=B6 n (B.set r v)*(B6 n B*u x):=by rw [<- aX,<- aX,aU (B6 n B)]
 lia
theorem a7s {n:Nat} {B:List C3} {r:Nat} (hl:B.length=n) (hr:r<n):a4E n B (B.getD r zv):=by
 intro x;rw [sum_one hr λ k hk hn=>?_]
 ·rw [P3 (by lia)]
 ·have:B6 n (B.set k (B.getD r zv))=0:=by
   refine X4 (i:=r) (k:=k) (u:=B.getD r zv) (by rw [cA]; exact hl) (aS hn) ?_ ?_
   ·rw [bE hn]; exact a3L (by lia)
   ·rw [bV (by lia)]
  rw [this,dZ]
theorem b3Y {n:Nat} {B:List C3} (hl:B.length=n) (hd:B6 n B≠0) {t:Nat->Int} (h:∀ x,sumTo (λ k=>t k*(B.getD k zv) x) n=0) {i:Nat} (hi:i<n):t i=0:=by
 have h1:=a1G (C:=B) hl hi t (λ k=>B.getD k zv) n;have e:(λ x:Nat=>sumTo (λ k=>t k*(B.getD k zv) x) n)=zv:=by funext x; rw [h x]; rfl
 rw [e] at h1;have h0:B6 n (B.set i zv)=0:=by
  have:=T5 hl hi 0 zv 0 zv;have e:U2 0 zv 0 zv=zv:=by funext x; simp [U2,zv]
  rw [e] at this;lia
 rw [h0,sum_one hi λ k hk hn=>?_,P3 (by lia)] at h1
 ·exact (gR.mp h1.symm).resolve_right hd
 ·have:B6 n (B.set i (B.getD k zv))=0:=by
   refine X4 (i:=k) (k:=i) (u:=B.getD k zv) (by rw [cA]; exact hl) hn ?_ ?_
   ·rw [bE (aS hn)]; exact a3L (by lia)
   ·rw [bV (by lia)]
  rw [this,bD]
structure Bo where
 d:Int
 T:Nat->Nat->Int
 ins:Nat->Nat
 outs:Nat->Nat
def Z2 (g:Nat->Nat) (k v:Nat):Nat->Nat:=λ i=>if i=k then v else g i
theorem x6 {g:Nat->Nat} {k v:Nat}:Z2 g k v k=v:=if_pos rfl
theorem y6 {g:Nat->Nat} {k v i:Nat} (h:i≠k):Z2 g k v i=g i:=if_neg h
def piv (S:Bo) (r c:Nat):Bo where
 d:=S.T r c
 T:=λ i j=>if i=r then (if j=c then S.d else S.T r j) else (if j=c then - S.T i c else (S.T i j*S.T r c - S.T i c*S.T r j) / S.d)
 ins:=Z2 S.ins r (S.outs c)
 outs:=Z2 S.outs c (S.ins r)
def Bs (m:Nat) (V:Nat->C3) (ins:Nat->Nat):List C3:=(aE (m+1)).map λ i=>V (ins i)
theorem a1i (m:Nat) (V:Nat->C3) (ins:Nat->Nat):(Bs m V ins).length=m+1:=by unfold Bs; rw [aA,eD]
theorem a6x {m:Nat} {V:Nat->C3} {ins:Nat->Nat} {i:Nat} (h:i<m+1):(Bs m V ins).getD i zv=V (ins i):=by
 unfold Bs;rw [aI,aD,bG h];rfl
theorem a9I {m:Nat} {V:Nat->C3} {ins:Nat->Nat} {r v:Nat} (h:r<m+1):Bs m V (Z2 ins r v)=(Bs m V ins).set r (V v):=by
 refine cK λ i=>?_;unfold Bs
 by_cases c:i=r
 ·subst c
  rw [bV (by rw [aA,eD]; exact h),aD,bG h]
  show some (V (Z2 ins i v i))=_
  rw [x6]
 ·rw [bE (aS c),aD,aD]
  by_cases hi:i<m+1
  ·rw [bG hi]
   show some (V (Z2 ins r v i))=some (V (ins i))
   rw [y6 c]
  ·rw [bK (by rw [eD]; lia)]
   rfl
structure Wf (m q:Nat) (V:Nat->C3) (S:Bo):Prop where
 hd:S.d=B6 (m+1) (Bs m V S.ins)
 hT:∀ i j,i<m+1->j<q+1->S.T i j=B6 (m+1) ((Bs m V S.ins).set i (V (S.outs j)))
 cr:∀ j,j<q+1->a4E (m+1) (Bs m V S.ins) (V (S.outs j))
 pos:0<S.d
 feas:∀ i,i<m->0<=S.T i q
 im:S.ins m=q+m
 oq:S.outs q=q+m+1
 ib:∀ i,i<m->S.ins i<q+m
 ob:∀ j,j<q->S.outs j<q+m
 ii:∀ i k,i<m->k<m->S.ins i=S.ins k->i=k
 oo:∀ j k,j<q->k<q->S.outs j=S.outs k->j=k
 io:∀ i j,i<m->j<q->S.ins i≠S.outs j
 all:∀ v,v<q+m->(∃ i,i<m/\S.ins i=v)\/(∃ j,j<q/\S.outs j=v)
section
variable {m q:Nat} {V:Nat->C3} {S:Bo}
theorem Wf.exact (W:Wf m q V S) {r c i j:Nat} (hr:r<m) (hc:c<q) (hi:i<m+1) (hj:j<q+1) (hne:i≠r) :
  S.T i j*S.T r c - S.T i c*S.T r j=S.d*B6 (m+1) (((Bs m V S.ins).set r (V (S.outs c))).set i (V (S.outs j))):=by
 have h:=plu (a1i m V S.ins) (show r<m+1 by lia) hi hne (V (S.outs j)) (W.cr c (by lia));rw [W.hd,h,W.hT i j hi hj,W.hT r c (by lia) (by lia),W.hT i c hi (by lia),W.hT r j (by lia) hj];rw [aU (B6 (m+1) ((Bs m V S.ins).set i (V (S.outs j))))]
theorem Wf.pivT (W:Wf m q V S) {r c i j:Nat} (hr:r<m) (hc:c<q) (hi:i<m+1) (hj:j<q+1):(piv S r c).T i j=B6 (m+1) ((Bs m V (piv S r c).ins).set i (V ((piv S r c).outs j))):=by
 have hl:=a1i m V S.ins
 show (if i=r then (if j=c then S.d else S.T r j) else (if j=c then - S.T i c else (S.T i j*S.T r c - S.T i c*S.T r j) / S.d))=B6 (m+1) ((Bs m V (Z2 S.ins r (S.outs c))).set i (V (Z2 S.outs c (S.ins r) j)))
 rw [a9I (by lia)]
 by_cases c1:i=r
 ·subst c1
  rw [if_pos rfl,jY]
  by_cases c2:j=c
  ·subst c2
   rw [if_pos rfl,x6,W.hd,<- a6x (V:=V) (ins:=S.ins) hi,P3 (by lia)]
  ·rw [if_neg c2,y6 c2]
   exact W.hT i j hi hj
 ·rw [if_neg c1]
  by_cases c2:j=c
  ·subst c2
   rw [if_pos rfl,x6,a4r hl (by lia) hi (aS c1),<- a6x (V:=V) (ins:=S.ins) (show r<m+1 by lia),P3 (by lia),W.hT i j hi hj]
  ·rw [if_neg c2,y6 c2,W.exact hr hc hi hj c1]
   exact jR _ (by have:=W.pos; lia)
theorem Wf.mulT (W:Wf m q V S) {r c i j:Nat} (hr:r<m) (hc:c<q) (hi:i<m+1) (hj:j<q+1) (hne:i≠r) (hjc:j≠c):S.d*(piv S r c).T i j=S.T i j*S.T r c - S.T i c*S.T r j:=by
 have e:=W.pivT hr hc hi hj;have h:=W.exact hr hc hi hj hne;have e2:Bs m V (piv S r c).ins=(Bs m V S.ins).set r (V (S.outs c)):=a9I (by lia);have e3:(piv S r c).outs j=S.outs j:=y6 hjc;rw [e2,e3] at e;rw [h,e]
theorem Wf.pivot (W:Wf m q V S) {r c:Nat} (hr:r<m) (hc:c<q) (hp:0<S.T r c) (hq:∀ i,i<m->0<S.T i c->S.T r q*S.T i c<=S.T i q*S.T r c):Wf m q V (piv S r c):=by
 have hl:=a1i m V S.ins;have hd0:B6 (m+1) (Bs m V S.ins)≠0:=by have:=W.pos; rw [W.hd] at this; lia
 have hB:Bs m V (piv S r c).ins=(Bs m V S.ins).set r (V (S.outs c)):=a9I (by lia);refine ⟨?_,λ i j hi hj=>W.pivT hr hc hi hj,λ j hj=>?_,hp,λ i hi=>?_,?_,?_,λ i hi=>?_,λ j hj=>?_,λ i k hi hk e=>?_,λ j k hj hk e=>?_,λ i j hi hj e=>?_,λ v hv=>?_⟩
 ·rw [hB]; exact W.hT r c (by lia) (by lia)
 ·rw [hB]
  by_cases c2:j=c
  ·subst c2
   show a4E _ _ (V (Z2 S.outs j (S.ins r) j))
   rw [x6];have h:=a7s hl (show r<m+1 by lia);rw [a6x (by lia)] at h;exact a2M hl (by lia) hd0 (W.cr j hj) h
  ·show a4E _ _ (V (Z2 S.outs c (S.ins r) j))
   rw [y6 c2];exact a2M hl (by lia) hd0 (W.cr c (by lia)) (W.cr j hj)
 ·by_cases c1:i=r
  ·subst c1
   show 0<=(if i=i then (if q=c then S.d else S.T i q) else _)
   rw [if_pos rfl,if_neg (by lia)];exact W.feas i hi
  ·have e:=W.mulT hr hc (show i<m+1 by lia) (show q<q+1 by lia) c1 (show q≠c by lia)
   have f1:=W.feas i hi;have f2:=W.feas r hr;have hpos:=W.pos;have nn:0<=S.T i q*S.T r c - S.T i c*S.T r q:=by
    have a1:0<=S.T i q*S.T r c:=cN f1 (bH hp)
    by_cases z:0<S.T i c
    ·have:=hq i hi z
     rw [aU (S.T i c)];lia
    ·have a2:0 <= - (S.T i c)*S.T r q:=cN (by lia) f2
     rw [eN] at a2;lia
   rw [<- e] at nn
   by_cases z:0<=(piv S r c).T i q
   ·exact z
   ·have:=dY hpos (show 0 < - (piv S r c).T i q by lia)
    rw [dI] at this;lia
 ·show Z2 S.ins r (S.outs c) m=q+m
  rw [y6 (by lia)]; exact W.im
 ·show Z2 S.outs c (S.ins r) q=q+m+1
  rw [y6 (by lia)]; exact W.oq
 ·show Z2 S.ins r (S.outs c) i<q+m
  by_cases c1:i=r
  ·rw [c1,x6]; exact W.ob c hc
  ·rw [y6 c1]; exact W.ib i hi
 ·show Z2 S.outs c (S.ins r) j<q+m
  by_cases c1:j=c
  ·rw [c1,x6]; exact W.ib r hr
  ·rw [y6 c1]; exact W.ob j hj
 ·replace e:Z2 S.ins r (S.outs c) i=Z2 S.ins r (S.outs c) k:=e
  by_cases c1:i=r
  ·by_cases c2:k=r
   ·lia
   ·rw [c1,x6,y6 c2] at e
    exact absurd e.symm (W.io k c hk hc)
  ·by_cases c2:k=r
   ·rw [c2,x6,y6 c1] at e
    exact absurd e (W.io i c hi hc)
   ·rw [y6 c1,y6 c2] at e
    exact W.ii i k hi hk e
 ·replace e:Z2 S.outs c (S.ins r) j=Z2 S.outs c (S.ins r) k:=e
  by_cases c1:j=c
  ·by_cases c2:k=c
   ·lia
   ·rw [c1,x6,y6 c2] at e
    exact absurd e (W.io r k hr hk)
  ·by_cases c2:k=c
   ·rw [c2,x6,y6 c1] at e
    exact absurd e.symm (W.io r j hr hj)
   ·rw [y6 c1,y6 c2] at e
    exact W.oo j k hj hk e
 ·replace e:Z2 S.ins r (S.outs c) i=Z2 S.outs c (S.ins r) j:=e
  by_cases c1:i=r
  ·by_cases c2:j=c
   ·rw [c1,c2,x6,x6] at e
    exact absurd e.symm (W.io r c hr hc)
   ·rw [c1,x6,y6 c2] at e
    exact c2 (W.oo c j hc hj e).symm
  ·by_cases c2:j=c
   ·rw [c2,x6,y6 c1] at e
    exact c1 (W.ii i r hi hr e)
   ·rw [y6 c1,y6 c2] at e
    exact W.io i j hi hj e
 ·show (∃ i,i<m/\Z2 S.ins r (S.outs c) i=v)\/(∃ j,j<q/\Z2 S.outs c (S.ins r) j=v)
  rcases W.all v hv with ⟨i,hi,e⟩ | ⟨j,hj,e⟩
  ·by_cases c1:i=r
   ·exact .inr ⟨c,hc,by rw [x6,<- c1]; exact e⟩
   ·exact .inl ⟨i,hi,by rw [y6 c1]; exact e⟩
  ·by_cases c1:j=c
   ·exact .inl ⟨r,hr,by rw [x6,<- c1]; exact e⟩
   ·exact .inr ⟨j,hj,by rw [y6 c1]; exact e⟩
def Ker (m q:Nat) (V:Nat->C3) (S:Bo) (z:Nat->Int):Prop:=∀ x,sumTo (λ k=>z (S.ins k)*V (S.ins k) x) (m+1)+sumTo (λ j=>z (S.outs j)*V (S.outs j) x) (q+1)=0
theorem a6J {g h:Nat->Int} {n r:Nat} (hr:r<n) (e:∀ k,k<n->k≠r->g k=h k):sumTo g n=sumTo h n+(g r - h r):=by
 have e1:sumTo g n=sumTo (λ k=>h k+(if k=r then g k - h k else 0)) n:=sum_congr λ k hk=>by
  by_cases c:k=r
  ·rw [if_pos c]; lia
  ·rw [if_neg c,e k hk c]; lia
 rw [e1,P7,sum_one hr λ k _ hn=>if_neg hn,if_pos rfl]
theorem Ker.piv {r c:Nat} (hr:r<m) (hc:c<q) {z:Nat->Int}:Ker m q V (piv S r c) z ↔ Ker m q V S z:=by
  have e:∀ x,sumTo (λ k=>z ((Lp.piv S r c).ins k)*V ((Lp.piv S r c).ins k) x) (m+1)+sumTo (λ j=>z ((Lp.piv S r c).outs j)*V ((Lp.piv S r c).outs j) x) (q+1)
     =sumTo (λ k=>z (S.ins k)*V (S.ins k) x) (m+1)+sumTo (λ j=>z (S.outs j)*V (S.outs j) x) (q+1):=λ x=>by
    have h1:=a6J (g:=λ k=>z ((Lp.piv S r c).ins k)*V ((Lp.piv S r c).ins k) x) (h:=λ k=>z (S.ins k)*V (S.ins k) x) (n:=m+1) (r:=r) (by lia) λ k hk hn=>by
      show z (Z2 S.ins r (S.outs c) k)*V (Z2 S.ins r (S.outs c) k) x=_
      rw [y6 hn]
    have h2:=a6J (g:=λ j=>z ((Lp.piv S r c).outs j)*V ((Lp.piv S r c).outs j) x) (h:=λ j=>z (S.outs j)*V (S.outs j) x) (n:=q+1) (r:=c) (by lia) λ k hk hn=>by
      show z (Z2 S.outs c (S.ins r) k)*V (Z2 S.outs c (S.ins r) k) x=_
      rw [y6 hn]
    rw [h1,h2]
    show _+(z (Z2 S.ins r (S.outs c) r)*V (Z2 S.ins r (S.outs c) r) x - _)+(_+(z (Z2 S.outs c (S.ins r) c)*V (Z2 S.outs c (S.ins r) c) x - _))=_
    rw [x6,x6];lia
  exact ⟨λ h x=>(e x).symm.trans (h x),λ h x=>(e x).trans (h x)⟩
def a1U (q:Nat) (S:Bo) (z:Nat->Int) (i:Nat):Int:=S.d*z (S.ins i)+sumTo (λ j=>S.T i j*z (S.outs j)) (q+1)
theorem W9 {g:Nat->Nat->Int} (n:Nat):∀ k:Nat,sumTo (λ i=>sumTo (λ j=>g i j) k) n=sumTo (λ j=>sumTo (λ i=>g i j) n) k
 | 0=>sum_zero λ _ _=>rfl
 | k+1=>by
  show sumTo (λ i=>sumTo (λ j=>g i j) k+g i k) n=sumTo (λ j=>sumTo (λ i=>g i j) n) k+sumTo (λ i=>g i k) n
  rw [P7,W9 n k]
theorem Wf.rows (W:Wf m q V S) (z:Nat->Int) (x:Nat):S.d*(sumTo (λ k=>z (S.ins k)*V (S.ins k) x) (m+1)+sumTo (λ j=>z (S.outs j)*V (S.outs j) x) (q+1))=sumTo (λ k=>a1U q S z k*((Bs m V S.ins).getD k zv) x) (m+1):=by
 have e1:S.d*sumTo (λ j=>z (S.outs j)*V (S.outs j) x) (q+1)=sumTo (λ k=>sumTo (λ j=>S.T k j*z (S.outs j)) (q+1)*((Bs m V S.ins).getD k zv) x) (m+1):=by
  rw [<- A2];have h1:∀ j,j<q+1->S.d*(z (S.outs j)*V (S.outs j) x)=sumTo (λ k=>S.T k j*z (S.outs j)*((Bs m V S.ins).getD k zv) x) (m+1):=λ j hj=>by
   have h:=W.cr j hj x;rw [<- W.hd] at h;rw [aU (z (S.outs j)),<- aX,h,aU,<- A2];refine sum_congr λ k hk=>?_;rw [W.hT k j hk hj,<- aX,aU (z (S.outs j))]
  rw [sum_congr h1,<- W9];refine sum_congr λ k hk=>?_;rw [aU (sumTo _ _),<- A2];exact sum_congr λ j _=>aU _ _
 rw [fN,e1,<- A2,<- P7];refine sum_congr λ k hk=>?_
 show _=(S.d*z (S.ins k)+_)*_
 rw [cV,a6x hk,aX]
theorem Wf.row_of (W:Wf m q V S) {z:Nat->Int} (h:Ker m q V S z) {i:Nat} (hi:i<m+1):a1U q S z i=0:=by
 refine b3Y (a1i m V S.ins) (by have:=W.pos; rw [W.hd] at this; lia) (λ x=>?_) hi;rw [<- W.rows z x,h x,bD]
theorem Wf.ker_of (W:Wf m q V S) {z:Nat->Int} (h:∀ i,i<m+1->a1U q S z i=0):Ker m q V S z:=λ x=>by
 have e:=W.rows z x;have e0:sumTo (λ k=>a1U q S z k*((Bs m V S.ins).getD k zv) x) (m+1)=0:=sum_zero λ k hk=>by rw [h k hk,dZ]
 rw [e0] at e;exact (gR.mp e).resolve_left (by have:=W.pos; lia)
end
structure Choice (m q:Nat) (S:Bo) (r c:Nat):Prop where
 hc:c<q
 neg:S.T m c<0
 minc:∀ j,j<q->S.T m j<0->S.outs c<=S.outs j
 hr:r<m
 pos:0<S.T r c
 ratio:∀ i,i<m->0<S.T i c->S.T r q*S.T i c<=S.T i q*S.T r c
 tie:∀ i,i<m->0<S.T i c->S.T r q*S.T i c=S.T i q*S.T r c->S.ins r<=S.ins i
theorem a6S {g:Nat->Int}:∀ {n:Nat},sumTo g n<0->∃ k,k<n/\g k<0
 | 0,h=>absurd h (by show ¬ (0:Int)<0; lia)
 | n+1,h=>by
  have h':sumTo g n+g n<0:=h
  by_cases c:g n<0
  ·exact ⟨n,by lia,c⟩
  ·obtain ⟨k,hk,hg⟩:=a6S (g:=g) (n:=n) (by lia)
   exact ⟨k,by lia,hg⟩
section
variable {m q:Nat} {V:Nat->C3} {S S':Bo}
theorem Wf.inj (W:Wf m q V S) {i k:Nat} (hi:i<m+1) (hk:k<m+1) (e:S.ins i=S.ins k):i=k:=by
 by_cases c1:i=m
 ·by_cases c2:k=m
  ·lia
  ·have:=W.ib k (by lia)
   rw [c1,W.im] at e;lia
 ·by_cases c2:k=m
  ·have:=W.ib i (by lia)
   rw [c2,W.im] at e;lia
  ·exact W.ii i k (by lia) (by lia) e
theorem Wf.apart (W:Wf m q V S) {i j:Nat} (hi:i<m+1) (hj:j<q+1):S.ins i≠S.outs j:=by
 intro e;have hI:S.ins i<=q+m:=by
  by_cases c1:i=m
  ·rw [c1,W.im]; exact aF _
  ·have:=W.ib i (by lia); lia
 by_cases c2:j=q
 ·rw [c2,W.oq] at e; lia
 ·have:=W.ob j (by lia)
  by_cases c1:i=m
  ·rw [c1,W.im] at e; lia
  ·exact W.io i j (by lia) (by lia) e
theorem Wf.injo (W:Wf m q V S) {j k:Nat} (hj:j<q+1) (hk:k<q+1) (e:S.outs j=S.outs k):j=k:=by
 by_cases c1:j=q
 ·by_cases c2:k=q
  ·lia
  ·have:=W.ob k (by lia)
   rw [c1,W.oq] at e;lia
 ·by_cases c2:k=q
  ·have:=W.ob j (by lia)
   rw [c2,W.oq] at e;lia
  ·exact W.oo j k (by lia) (by lia) e
def ray (m:Nat) (S:Bo) (c:Nat) (v:Nat):Int:=if v=S.outs c then S.d else sumTo (λ i=>if S.ins i=v then - S.T i c else 0) (m+1)
theorem Wf.ray_in (W:Wf m q V S) {c k:Nat} (hc:c<q+1) (hk:k<m+1):ray m S c (S.ins k) = - S.T k c:=by
 unfold ray;rw [if_neg (W.apart hk hc),sum_one hk λ i hi hn=>if_neg λ e=>hn (W.inj hi hk e),if_pos rfl]
theorem Wf.ray_out (W:Wf m q V S) {c j:Nat} (hc:c<q+1) (hj:j<q+1) (hn:j≠c):ray m S c (S.outs j)=0:=by
 unfold ray;rw [if_neg λ e=>hn (W.injo hj hc e)];exact sum_zero λ i hi=>if_neg (W.apart hi hj)
theorem Wf.ray_c {c:Nat}:ray m S c (S.outs c)=S.d:=if_pos rfl
theorem Wf.ray_ker (W:Wf m q V S) {c:Nat} (hc:c<q+1):Ker m q V S (ray m S c):=W.ker_of λ i hi=>by
 unfold a1U;rw [W.ray_in hc hi,sum_one hc λ j hj hn=>by rw [W.ray_out hc hj hn,bD],Wf.ray_c,dI,aU];lia
theorem b1r (W:Wf m q V S) (W':Wf m q V S') (hk:∀ z,Ker m q V S z->Ker m q V S' z) {r c r' c':Nat} (C:Choice m q S r c) (C':Choice m q S' r' c') (ht:S.ins r=S'.outs c') (hst:S.outs c<S.ins r)
  (stat:∀ v,S.ins r<v->(∃ i,i<m/\S.ins i=v)->∃ i,i<m/\S'.ins i=v) (zero:∀ k j,k<m->j<q->S.ins k=S'.outs j->S.T k q=0):False:=by
 have hc1:c<q+1:=by have:=C.hc; lia
 have R:=W'.row_of (hk _ (W.ray_ker hc1)) (show m<m+1 by lia);have zobj:ray m S c (S'.ins m) = - S.T m c:=by rw [W'.im,<- W.im]; exact W.ray_in hc1 (by lia)
 have zcon:ray m S c (S'.outs q)=0:=by rw [W'.oq,<- W.oq]; exact W.ray_out hc1 (by lia) (by have:=C.hc; lia)
 unfold a1U at R
 replace R:S'.d*ray m S c (S'.ins m)+(sumTo (λ j=>S'.T m j*ray m S c (S'.outs j)) q+S'.T m q*ray m S c (S'.outs q))=0:=R
 rw [zobj,zcon,bD,dI] at R;have hneg:0<S'.d*(- S.T m c):=dY W'.pos (by have:=C.neg; lia);rw [dI] at hneg;obtain ⟨j,hj,hg⟩:=a6S (g:=λ j=>S'.T m j*ray m S c (S'.outs j)) (n:=q) (by lia)
 replace hg:S'.T m j*ray m S c (S'.outs j)<0:=hg
 rcases W.all (S'.outs j) (W'.ob j hj) with ⟨k,hk1,e⟩ | ⟨j2,hj2,e⟩
 ·rw [<- e,W.ray_in hc1 (by lia)] at hg
  rcases Nat.lt_trichotomy (S'.outs j) (S.ins r) with h | h | h
  ·have h1:0<=S'.T m j:=by
    by_cases z:S'.T m j<0
    ·have:=C'.minc j hj z
     lia
    ·lia
   have h2:0<S.T k c:=by
    by_cases z:0<S.T k c
    ·exact z
    ·have:=cN h1 (show 0 <= - S.T k c by lia)
     lia
   have h3:=zero k j hk1 hj e;have h4:=C.ratio k hk1 h2;rw [h3,dZ] at h4;have h5:0<=S.T r q*S.T k c:=cN (W.feas r C.hr) (bH h2);have h6:=C.tie k hk1 h2 (by rw [h3,dZ]; omega);lia
  ·have e1:j=c':=W'.oo j c' hj C'.hc (by rw [h,ht])
   have e2:k=r:=W.ii k r hk1 C.hr (by rw [e,h]);rw [e1,e2] at hg;have:=dY (show 0 < - S'.T m c' by have:=C'.neg; lia) C.pos;rw [eN] at this;rw [dI] at hg;lia
  ·obtain ⟨i,hi,e3⟩:=stat _ h ⟨k,hk1,e⟩
   exact W'.io i j hi hj e3
 ·by_cases c2:j2=c
  ·rw [<- e,c2,Wf.ray_c] at hg
   have h1:S'.T m j<0:=by
    by_cases z:S'.T m j<0
    ·exact z
    ·have:=cN (show 0<=S'.T m j by lia) (bH W.pos)
     lia
   have:=C'.minc j hj h1;rw [c2] at e;lia
  ·rw [<- e,W.ray_out hc1 (by lia) c2,bD] at hg
   lia
def Zr (m q:Nat) (S:Bo) (v:Nat):Prop:=∀ i,i<m->S.ins i=v->S.T i q=0
def Bas (m:Nat) (S:Bo) (v:Nat):Prop:=∃ i,i<m/\S.ins i=v
theorem Bas.piv (W:Wf m q V S) {r c v:Nat} (hr:r<m) (hc:c<q) (h1:v≠S.ins r) (h2:v≠S.outs c):Bas m (Lp.piv S r c) v ↔ Bas m S v:=by
 constructor
 ·rintro ⟨i,hi,e⟩
  replace e:Z2 S.ins r (S.outs c) i=v:=e
  by_cases z:i=r
  ·rw [z,x6] at e; exact absurd e.symm h2
  ·rw [y6 z] at e; exact ⟨i,hi,e⟩
 ·rintro ⟨i,hi,e⟩
  have z:i≠r:=λ z=>h1 (by rw [<- e,z]);exact ⟨i,hi,(y6 z).trans e⟩
theorem Zr.piv (W:Wf m q V S) {r c:Nat} (C:Choice m q S r c) (h0:S.T r q=0) (v:Nat):Zr m q (Lp.piv S r c) v ↔ Zr m q S v:=by
 have key:∀ i,i<m->i≠r->((Lp.piv S r c).T i q=0 ↔ S.T i q=0):=λ i hi hn=>by
  have e:=W.mulT C.hr C.hc (show i<m+1 by lia) (show q<q+1 by lia) hn (show q≠c by have:=C.hc; lia);rw [h0,bD,Int.sub_zero] at e;constructor
  ·intro z
   rw [z,bD] at e;exact (gR.mp e.symm).resolve_right (by have:=C.pos; lia)
  ·intro z
   rw [z,dZ] at e;exact (gR.mp e).resolve_left (by have:=W.pos; lia)
 have kr:(Lp.piv S r c).T r q=0:=by
  show (if r=r then (if q=c then S.d else S.T r q) else _)=0
  rw [if_pos rfl,if_neg (by have:=C.hc; lia)]; exact h0
 constructor
 ·intro h i hi e
  by_cases z:i=r
  ·rw [z]; exact h0
  ·exact (key i hi z).mp (h i hi ((y6 z).trans e))
 ·intro h i hi e
  by_cases z:i=r
  ·rw [z]; exact kr
  ·exact (key i hi z).mpr (h i hi ((y6 z).symm.trans e))
end
structure Seq (m q:Nat) (V:Nat->C3) (S:Nat->Bo) (R C:Nat->Nat):Prop where
 w:Wf m q V (S 0)
 ch:∀ k,Choice m q (S k) (R k) (C k)
 st:∀ k,S (k+1)=piv (S k) (R k) (C k)
section
variable {m q:Nat} {V:Nat->C3} {S:Nat->Bo} {R C:Nat->Nat}
theorem Seq.wf (Q:Seq m q V S R C):∀ k,Wf m q V (S k)
 | 0=>Q.w
 | k+1=>by rw [Q.st k]; exact (Q.wf k).pivot (Q.ch k).hr (Q.ch k).hc (Q.ch k).pos (Q.ch k).ratio
theorem Seq.ker (Q:Seq m q V S R C) (z:Nat->Int) (a:Nat):∀ n,Ker m q V (S (a+n)) z ↔ Ker m q V (S a) z
 | 0=>gS
 | n+1=>by
  show Ker m q V (S (a+n+1)) z ↔ _
  rw [Q.st,Ker.piv (Q.ch _).hr (Q.ch _).hc];exact Q.ker z a n
def Dg (q:Nat) (S:Nat->Bo) (R:Nat->Nat) (k:Nat):Prop:=(S k).T (R k) q=0
theorem Seq.zr (Q:Seq m q V S R C) (v a:Nat):∀ n,(∀ k,a<=k->k<a+n->Dg q S R k)->(Zr m q (S (a+n)) v ↔ Zr m q (S a) v)
 | 0,_=>gS
 | n+1,h=>by
  show Zr m q (S (a+n+1)) v ↔ _
  rw [Q.st,Zr.piv (Q.wf _) (Q.ch _) (h (a+n) (by lia) (by lia))];exact Q.zr v a n λ k h1 h2=>h k h1 (by lia)
def a4s (S:Nat->Bo) (R C:Nat->Nat) (k v:Nat):Prop:=v=(S k).ins (R k)\/v=(S k).outs (C k)
theorem Seq.bas (Q:Seq m q V S R C) (v a:Nat):∀ n,(∀ k,a<=k->k<a+n->¬ a4s S R C k v)->(Bas m (S (a+n)) v ↔ Bas m (S a) v)
 | 0,_=>gS
 | n+1,h=>by
  have hp:=h (a+n) (by lia) (by lia)
  show Bas m (S (a+n+1)) v ↔ _
  rw [Q.st,Bas.piv (Q.wf _) (Q.ch _).hr (Q.ch _).hc (λ z=>hp (.inl z)) λ z=>hp (.inr z)];exact Q.bas v a n λ k h1 h2=>h k h1 (by lia)
theorem Seq.once (Q:Seq m q V S R C) {a b t:Nat} (hd:∀ k,a<=k->k<b->Dg q S R k) (ht:∀ k,a<=k->k<b->∀ v,a4s S R C k v->v<=t):∀ (g k0 k1:Nat),k1=k0+1+g->a<=k0->k1<b->a4s S R C k0 t->a4s S R C k1 t->False:=by
 intro g
 induction g using Nat.strongRecOn with
 | _ g ih =>
  intro k0 k1 hk ha hb p0 p1
  by_cases hm:∃ k,k0<k/\k<k1/\a4s S R C k t
  ·obtain ⟨k,h1,h2,h3⟩:=hm
   exact ih (k - k0 - 1) (by lia) k0 k (by lia) ha (by lia) p0 h3
  have W0:=Q.wf k0;have W1:=Q.wf k1;have C0:=Q.ch k0;have C1:=Q.ch k1;have bmid:Bas m (S k1) t ↔ Bas m (S (k0+1)) t:=by
   have:=Q.bas t (k0+1) g λ k h1 h2=>λ z=>hm ⟨k,by lia,by lia,z⟩;rw [show k0+1+g=k1 by lia] at this;exact this
  have stat:∀ v,t<v->(Bas m (S k1) v ↔ Bas m (S k0) v):=λ v hv=>by
   have:=Q.bas v k0 (g+1) λ k h1 h2=>λ z=>by have:=ht k (by lia) (by lia) v z; lia
   rw [show k0+(g+1)=k1 by lia] at this;exact this
  have ker:∀ z,Ker m q V (S k1) z ↔ Ker m q V (S k0) z:=λ z=>by
   have:=Q.ker z k0 (g+1);rw [show k0+(g+1)=k1 by lia] at this;exact this
  have zrr:∀ v,Zr m q (S k1) v ↔ Zr m q (S k0) v:=λ v=>by
   have:=Q.zr v k0 (g+1) λ k h1 h2=>hd k (by lia) (by lia);rw [show k0+(g+1)=k1 by lia] at this;exact this
  rcases p0 with e0 | e0
  ·-- it goes out at k0,so it comes in at k1
   have nb:¬ Bas m (S (k0+1)) t:=by
    rintro ⟨i,hi,e⟩;rw [Q.st k0] at e
    replace e:Z2 (S k0).ins (R k0) ((S k0).outs (C k0)) i=t:=e
    by_cases z:i=R k0
    ·rw [z,x6,e0] at e
     exact W0.io _ _ C0.hr C0.hc e.symm
    ·rw [y6 z,e0] at e
     exact z (W0.ii i (R k0) hi C0.hr e)
   rcases p1 with e1 | e1
   ·exact nb (bmid.mp ⟨_,C1.hr,e1.symm⟩)
   ·have hst:(S k0).outs (C k0)<(S k0).ins (R k0):=by
     have h1:=ht k0 ha (by lia) _ (.inr rfl);rw [e0] at h1;have:=W0.io (R k0) (C k0) C0.hr C0.hc;lia
    refine b1r W0 W1 (λ z h=>(ker z).mpr h) C0 C1 (by rw [<- e0,<- e1]) hst (λ v hv hb'=>(stat v (by rw [e0]; exact hv)).mpr hb') λ k j hk1 hj e=>?_;refine ((zrr ((S k0).ins k)).mp λ i hi e2=>?_) k hk1 rfl;rw [e] at e2;exact absurd e2 (W1.io i j hi hj)
  ·-- it comes in at k0,so it goes out at k1
   have ba:Bas m (S (k0+1)) t:=⟨R k0,C0.hr,by rw [Q.st k0]; show Z2 (S k0).ins (R k0) ((S k0).outs (C k0)) (R k0)=t; rw [x6]; exact e0.symm⟩;rcases p1 with e1 | e1
   ·have hst:(S k1).outs (C k1)<(S k1).ins (R k1):=by
     have h1:=ht k1 (by lia) hb _ (.inr rfl);rw [e1] at h1;have:=W1.io (R k1) (C k1) C1.hr C1.hc;lia
    refine b1r W1 W0 (λ z h=>(ker z).mp h) C1 C0 (by rw [<- e0,<- e1]) hst (λ v hv hb'=>(stat v (by rw [e1]; exact hv)).mp hb') λ k j hk1 hj e=>?_;refine ((zrr ((S k1).ins k)).mpr λ i hi e2=>?_) k hk1 rfl;rw [e] at e2;exact absurd e2 (W0.io i j hi hj)
   ·obtain ⟨i,hi,e⟩:=bmid.mpr ba
    rw [e1] at e;exact W1.io i (C k1) hi C1.hc e
theorem Seq.short (Q:Seq m q V S R C):∀ (t a b:Nat),a<=b->(∀ k,a<=k->k<b->Dg q S R k)->(∀ k,a<=k->k<b->∀ v,a4s S R C k v->v<t)->b+1<=a+2 ^ t
 | 0,a,b,hab,hd,hp=>by
  by_cases c:a<b
  ·have:=hp a (aF _) c _ (.inl rfl)
   lia
  ·rw [Nat.pow_zero]; lia
 | t+1,a,b,hab,hd,hp=>by
  rw [Nat.pow_succ]
  by_cases h:∃ k,a<=k/\k<b/\a4s S R C k t
  ·obtain ⟨k,h1,h2,h3⟩:=h
   have once:=Q.once hd (t:=t) λ k h1 h2 v hv=>by have:=hp k h1 h2 v hv; lia
   have i1:=Q.short t a k h1 (λ j j1 j2=>hd j j1 (by lia)) λ j j1 j2 v hv=>by
    have:=hp j j1 (by lia) v hv
    by_cases z:v=t
    ·subst z
     exact (once (k - j - 1) j k (by lia) j1 h2 hv h3).elim
    ·lia
   have i2:=Q.short t (k+1) b (by lia) (λ j j1 j2=>hd j (by lia) j2) λ j j1 j2 v hv=>by
    have:=hp j (by lia) j2 v hv
    by_cases z:v=t
    ·subst z
     exact (once (j - k - 1) k j (by lia) h1 j2 h3 hv).elim
    ·lia
   lia
  ·have:=Q.short t a b hab hd λ j j1 j2 v hv=>by
    have h4:=hp j j1 j2 v hv
    by_cases z:v=t
    ·subst z; exact absurd ⟨j,j1,j2,hv⟩ h
    ·lia
   have:0<2 ^ t:=Nat.two_pow_pos t;lia
end
section
variable {m q:Nat} {V:Nat->C3} {S:Bo}
theorem Wf.bndB {M:Nat} (hM:∀ v,Fits M (m+1) (V v)):∀ c∈Bs m V S.ins,Fits M (m+1) c:=λ c hc=>by
 obtain ⟨i,_,rfl⟩:=bA.mp hc;exact hM _
theorem Wf.bndd (W:Wf m q V S) {M:Nat} (hM:∀ v,Fits M (m+1) (V v)):S.d.natAbs<=bnd M (m+1):=by
 rw [W.hd];exact a3Y (m+1) _ (a1i m V S.ins) (Wf.bndB hM)
theorem Wf.bndT (W:Wf m q V S) {M:Nat} (hM:∀ v,Fits M (m+1) (V v)) {i j:Nat} (hi:i<m+1) (hj:j<q+1):(S.T i j).natAbs<=bnd M (m+1):=by
 rw [W.hT i j hi hj];refine a3Y (m+1) _ (by rw [cA]; exact a1i m V S.ins) λ c hc=>?_;rcases iN hc with h | h
 ·exact Wf.bndB hM c h
 ·rw [h]; exact hM _
def phi (m q:Nat) (M:Int) (S:Bo):Int:=M*M*S.T m q / S.d
theorem Wf.gain (W:Wf m q V S) {r c:Nat} (C:Choice m q S r c) {M:Int} (h1:S.d<=M) (h2:S.T r c<=M):phi m q M S+(if S.T r q=0 then 0 else 1)<=phi m q M (piv S r c):=by
 have hcq:c<q:=C.hc;have hrm:r<m:=C.hr;have e:=W.mulT hrm hcq (show m<m+1 by lia) (show q<q+1 by lia) (show m≠r by lia) (show q≠c by lia);have hp:=C.pos;have hd:=W.pos;have hn:=C.neg;have hf:=W.feas r hrm;unfold phi
 show _<=M*M*(piv S r c).T m q / S.T r c
 generalize (piv S r c).T m q=N' at *;generalize S.T m q=N at *;generalize S.T r c=p at *;generalize S.d=d at *;generalize S.T m c=g at *;generalize S.T r q=b at *;rw [Int.le_ediv_iff_mul_le hp];have hfl:M*M*N / d*d<=M*M*N:=Int.ediv_mul_le _ (by lia);generalize M*M*N / d=f at *;have hM:0<M:=by lia
 have hMM:d*p<=M*M:=kA h1 h2 (bH hp) (bH hM);have key:(f+(if b=0 then 0 else 1))*p*d<=M*M*N'*d:=by
  have a1:M*M*N'*d=M*M*N*p+M*M*(-(g*b)):=by
   have:N'*d=N*p - g*b:=by rw [aU N' d]; exact e
   rw [aX (M*M),this,fO,aX (M*M),dI];lia
  have a2:f*d*p<=M*M*N*p:=dQ hfl (bH hp);have a3:f*p*d=f*d*p:=by rw [aX,aU p d,<- aX]
  by_cases c0:b=0
  ·rw [if_pos c0,dR,a1,a3,c0]
   simp only [bD,Int.neg_zero,dR];exact a2
  ·rw [if_neg c0]
   have a4:1 <= -(g*b):=by
    have:=dY (show 0 < -g by lia) (show 0<b by lia);rw [eN] at this;lia
   have a5:M*M*1<=M*M*(-(g*b)):=fP a4 (cN (bH hM) (bH hM));rw [cV,cV,gD,a3,a1];rw [aU d p] at hMM;lia
 exact iO key hd
theorem Wf.phi_le (W:Wf m q V S) {M:Int} (h1:S.T m q<=M) (h0:0<M):phi m q M S<=M*M*M:=by
 unfold phi;refine Int.ediv_le_of_le_mul W.pos ?_;have a1:M*M*S.T m q<=M*M*M:=fP h1 (cN (bH h0) (bH h0));have a2:M*M*M*1<=M*M*M*S.d:=fP (by have:=W.pos; lia) (cN (cN (bH h0) (bH h0)) (bH h0));lia
end
section
variable {m q:Nat} {V:Nat->C3} {S:Nat->Bo} {R C:Nat->Nat}
theorem Seq.part_lt (Q:Seq m q V S R C) (k v:Nat) (h:a4s S R C k v):v<q+m:=by
 rcases h with h | h
 ·rw [h]; exact (Q.wf k).ib _ (Q.ch k).hr
 ·rw [h]; exact (Q.wf k).ob _ (Q.ch k).hc
theorem Seq.never (Q:Seq m q V S R C) {M:Nat} (hM:∀ v,Fits M (m+1) (V v)):False:=by
 obtain ⟨B,hB⟩:∃ B:Int,B=(bnd M (m+1):Int):=⟨_,rfl⟩;have bT:∀ k i j,i<m+1->j<q+1->(S k).T i j<=B:=λ k i j hi hj=>by
  have:=(Q.wf k).bndT hM hi hj;lia
 have bd:∀ k,(S k).d<=B:=λ k=>by
  have:=(Q.wf k).bndd hM;lia
 have B0:0<B:=by have:=bd 0; have:=(Q.wf 0).pos; lia
 have up:∀ k,phi m q B (S k)+(if (S k).T (R k) q=0 then 0 else 1)<=phi m q B (S (k+1)):=λ k=>by
  rw [Q.st k];exact (Q.wf k).gain (Q.ch k) (bd k) (bT k _ _ (by have:=(Q.ch k).hr; lia) (by have:=(Q.ch k).hc; lia))
 have mono:∀ n k,phi m q B (S k)<=phi m q B (S (k+n)):=λ n=>by
  induction n with
  | zero=>intro k; exact cD _
  | succ n ih =>
   intro k;have h1:=ih k;have h2:=up (k+n);have h3:phi m q B (S (k+n))<=phi m q B (S (k+n+1)):=by
    split at h2 <;> lia
   exact gT h1 h3
 have Y6:∀ k,phi m q B (S k)<=B*B*B:=λ k=>(Q.wf k).phi_le (bT k m q (by lia) (by lia)) B0;have gap:∀ (g:Nat) (k:Nat),B*B*B - phi m q B (S k)<=(g:Int)->False:=by
  intro g
  induction g with
  | zero =>
   intro k hk;have:∃ j,k<=j/\j<k+2 ^ (q+m)/\¬ Dg q S R j:=by
    refine fC λ hn=>?_;have:=Q.short (q+m) k (k+2 ^ (q+m)) (dP _ _) (λ j h1 h2=>fC λ z=>hn ⟨j,h1,h2,z⟩) λ j _ _ v hv=>Q.part_lt j v hv;lia
   obtain ⟨j,h1,h2,h3⟩:=this;have u:=up j;rw [if_neg (show ¬ (S j).T (R j) q=0 from h3)] at u;have m1:=mono (j - k) k;rw [show k+(j - k)=j by lia] at m1;have:=Y6 (j+1);lia
  | succ g ih =>
   intro k hk;have:∃ j,k<=j/\j<k+2 ^ (q+m)/\¬ Dg q S R j:=by
    refine fC λ hn=>?_;have:=Q.short (q+m) k (k+2 ^ (q+m)) (dP _ _) (λ j h1 h2=>fC λ z=>hn ⟨j,h1,h2,z⟩) λ j _ _ v hv=>Q.part_lt j v hv;lia
   obtain ⟨j,h1,h2,h3⟩:=this;have u:=up j;rw [if_neg (show ¬ (S j).T (R j) q=0 from h3)] at u;have m1:=mono (j - k) k;rw [show k+(j - k)=j by lia] at m1;exact ih (j+1) (by lia)
 exact gap (B*B*B - phi m q B (S 0)).toNat 0 (by lia)
end
inductive Ends (m q:Nat):Bo->Nat->Prop
 | stop {S:Bo}:(¬ ∃ r c,Choice m q S r c)->Ends m q S 0
 | go {S:Bo} {r c k:Nat}:Choice m q S r c->Ends m q (piv S r c) k->Ends m q S (k+1)
theorem Choice.uniq {m q:Nat} {V:Nat->C3} {S:Bo} (W:Wf m q V S) {r c r' c':Nat} (h:Choice m q S r c) (h':Choice m q S r' c'):r=r'/\c=c':=by
 have ec:c=c':=W.oo c c' h.hc h'.hc (kC (h.minc c' h'.hc h'.neg) (h'.minc c h.hc h.neg));subst ec;have e1:=h.ratio r' h'.hr h'.pos;have e2:=h'.ratio r h.hr h.pos;have e:S.T r q*S.T r' c=S.T r' q*S.T r c:=by lia
 exact ⟨W.ii r r' h.hr h'.hr (kC (h.tie r' h'.hr h'.pos e) (h'.tie r h.hr h.pos e.symm)),rfl⟩
theorem Ends.next {m q:Nat} {V:Nat->C3} {S:Bo} (W:Wf m q V S) {k r c:Nat} (h:Ends m q S k) (C:Choice m q S r c):∃ j,j<k/\Ends m q (piv S r c) j:=by
 cases h with
 | stop hn=>exact absurd ⟨r,c,C⟩ hn
 | go C' h' =>
  obtain ⟨rfl,rfl⟩:=C.uniq W C';exact ⟨_,eV _,h'⟩
theorem Wf.ends {m q:Nat} {V:Nat->C3} {M:Nat} (hM:∀ v,Fits M (m+1) (V v)) {S:Bo} (W:Wf m q V S):∃ k,Ends m q S k:=by
 refine fC λ hn=>?_;have ch:∀ S',Wf m q V S'->(¬ ∃ k,Ends m q S' k)->∃ p:Nat×Nat,Choice m q S' p.1 p.2:=λ S' _ h'=>by
  refine fC λ z=>h' ⟨0,.stop λ ⟨r,c,C⟩=>z ⟨(r,c),C⟩⟩
 let St:={ S':Bo // Wf m q V S'/\¬ ∃ k,Ends m q S' k }
 let pk:(X:St)->Nat×Nat:=λ X=>(ch X.1 X.2.1 X.2.2).choose
 have pc:∀ X:St,Choice m q X.1 (pk X).1 (pk X).2:=λ X=>(ch X.1 X.2.1 X.2.2).choose_spec
 let nx:St->St:=λ X=>⟨piv X.1 (pk X).1 (pk X).2,X.2.1.pivot (pc X).hr (pc X).hc (pc X).pos (pc X).ratio,λ ⟨k,e⟩=>X.2.2 ⟨k+1,.go (pc X) e⟩⟩
 let sq:Nat->St:=λ k=>Nat.rec ⟨S,W,hn⟩ (λ _ X=>nx X) k
 exact Seq.never (S:=λ k=>(sq k).1) (R:=λ k=>(pk (sq k)).1) (C:=λ k=>(pk (sq k)).2) ⟨W,λ k=>pc (sq k),λ k=>rfl⟩ hM
def Vv (m q:Nat) (A:Nat->Nat->Int) (b c:Nat->Int):Nat->C3:=λ v x =>
 if v<q then (if x<m then A x v else if x=m then - c v else 0) else if v<q+m+1 then (if x=v - q then 1 else 0) else (if x<m then b x else 0)
def S0 (m q:Nat) (A:Nat->Nat->Int) (b c:Nat->Int):Bo where
 d:=1
 T:=λ i j=>if j<q then (if i<m then A i j else - c j) else (if i<m then b i else 0)
 ins:=λ i=>q+i
 outs:=λ j=>if j<q then j else q+m+1
section
variable {m q:Nat} {A:Nat->Nat->Int} {b c:Nat->Int}
theorem b2H {v x:Nat} (h:v<q):Vv m q A b c v x=if x<m then A x v else if x=m then - c v else 0:=by unfold Vv; rw [if_pos h]
theorem b3n {i:Nat} (h:i<m+1):Vv m q A b c (q+i)=Q8 i:=by
 funext x
 unfold Vv Q8;rw [if_neg (by lia),if_pos (by lia),show q+i - q=i by lia]
theorem b4c {x:Nat}:Vv m q A b c (q+m+1) x=if x<m then b x else 0:=by unfold Vv; rw [if_neg (by lia),if_neg (by lia)]
theorem b1i {v x:Nat} (h:m<x):Vv m q A b c v x=0:=by
 unfold Vv
 by_cases h1:v<q
 ·rw [if_pos h1,if_neg (by lia),if_neg (by lia)]
 ·rw [if_neg h1]
  by_cases h2:v<q+m+1
  ·rw [if_pos h2,if_neg (by lia)]
  ·rw [if_neg h2,if_neg (by lia)]
theorem Bs0:Bs m (Vv m q A b c) (S0 m q A b c).ins=(aE (m+1)).map Q8:=by
 unfold Bs;exact cW λ i hi=>b3n (cS.mp hi)
theorem a4c {n k:Nat} (h:k<n):((aE n).map Q8).getD k zv=Q8 k:=by rw [aI,aD,bG h]; rfl
theorem a2U {n:Nat} {u:C3} (hu:∀ x,n<=x->u x=0) (x:Nat):sumTo (λ k=>u k*Q8 k x) n=u x:=by
 by_cases h:x<n
 ·rw [sum_one h λ k _ hn=>by show u k*(if x=k then 1 else 0)=0; rw [if_neg (aS hn),bD]]
  show u x*(if x=x then 1 else 0)=u x
  rw [if_pos rfl,eR]
 ·rw [hu x (by lia)]
  refine sum_zero λ k hk=>?_
  show u k*(if x=k then 1 else 0)=0
  rw [if_neg (by lia),bD]
theorem a0F {n i:Nat} (hi:i<n) {u:C3} (hu:∀ x,n<=x->u x=0):B6 n (((aE n).map Q8).set i u)=u i:=by
 have hl:((aE n).map Q8).length=n:=by rw [aA,eD]
 have h:=a1G hl hi u Q8 n;have e:(λ x:Nat=>sumTo (λ k=>u k*Q8 k x) n)=u:=by funext x; exact a2U hu x
 rw [e,sum_one hi λ k hk hn=>?_] at h
 ·rw [h,<- a4c hi,P3 (by lia),a0E,eR]
 ·have:B6 n (((aE n).map Q8).set i (Q8 k))=0:=by
   refine X4 (i:=k) (k:=i) (u:=Q8 k) (by rw [cA]; exact hl) hn ?_ ?_
   ·rw [bE (aS hn),aD,bG hk]; rfl
   ·rw [bV (by lia)]
  rw [this,bD]
theorem wf0 (hb:∀ i,i<m->0<=b i):Wf m q (Vv m q A b c) (S0 m q A b c):=by
 have far:∀ v x,m+1<=x->Vv m q A b c v x=0:=λ v x h=>b1i (by lia);refine ⟨?_,λ i j hi hj=>?_,λ j hj x=>?_,Int.one_pos,λ i hi=>?_,rfl,?_,λ i hi=>?_,λ j hj=>?_,λ i k hi hk e=>?_,λ j k hj hk e=>?_,λ i j hi hj e=>?_,λ v hv=>?_⟩
 ·rw [Bs0,a0E]; rfl
 ·rw [Bs0,a0F hi (far _)]
  show (if j<q then (if i<m then A i j else - c j) else (if i<m then b i else 0))=Vv m q A b c (if j<q then j else q+m+1) i
  by_cases h:j<q
  ·rw [if_pos h,if_pos h,b2H h]
   by_cases h2:i<m
   ·rw [if_pos h2,if_pos h2]
   ·rw [if_neg h2,if_neg h2,if_pos (by lia)]
  ·rw [if_neg h,if_neg h,b4c]
 ·rw [Bs0,a0E,gD]
  have e:sumTo (λ k=>B6 (m+1) (((aE (m+1)).map Q8).set k (Vv m q A b c ((S0 m q A b c).outs j)))*(((aE (m+1)).map Q8).getD k zv) x) (m+1)=sumTo (λ k=>Vv m q A b c ((S0 m q A b c).outs j) k*Q8 k x) (m+1) :=
   sum_congr λ k hk=>by rw [a0F hk (far _),a4c hk]
  rw [e,a2U (far _)]
 ·show 0<=(if q<q then _ else (if i<m then b i else 0))
  rw [if_neg (bJ _),if_pos hi]; exact hb i hi
 ·show (if q<q then q else q+m+1)=q+m+1
  rw [if_neg (bJ _)]
 ·show q+i<q+m; lia
 ·show (if j<q then j else q+m+1)<q+m
  rw [if_pos hj]; lia
 ·replace e:q+i=q+k:=e
  lia
 ·replace e:(if j<q then j else q+m+1)=(if k<q then k else q+m+1):=e
  rw [if_pos hj,if_pos hk] at e;exact e
 ·replace e:q+i=(if j<q then j else q+m+1):=e
  rw [if_pos hj] at e;lia
 ·by_cases h:v<q
  ·exact .inr ⟨v,h,if_pos h⟩
  ·exact .inl ⟨v - q,by lia,by show q+(v - q)=v; lia⟩
theorem ker0 {z:Nat->Int}:Ker m q (Vv m q A b c) (S0 m q A b c) z ↔ (∀ i,i<m->z (q+i)+sumTo (λ j=>A i j*z j) q+b i*z (q+m+1)=0)/\z (q+m)=sumTo (λ j=>c j*z j) q:=by
  have e:∀ x,sumTo (λ k=>z ((S0 m q A b c).ins k)*Vv m q A b c ((S0 m q A b c).ins k) x) (m+1)+sumTo (λ j=>z ((S0 m q A b c).outs j)*Vv m q A b c ((S0 m q A b c).outs j) x) (q+1)
     =(if x<m+1 then z (q+x) else 0)+(sumTo (λ j=>z j*Vv m q A b c j x) q+z (q+m+1)*(if x<m then b x else 0)):=λ x=>by
    have e1:sumTo (λ k=>z ((S0 m q A b c).ins k)*Vv m q A b c ((S0 m q A b c).ins k) x) (m+1)=if x<m+1 then z (q+x) else 0:=by
      have:sumTo (λ k=>z ((S0 m q A b c).ins k)*Vv m q A b c ((S0 m q A b c).ins k) x) (m+1)=sumTo (λ k=>z (q+k)*Q8 k x) (m+1):=sum_congr λ k hk=>by
        show z (q+k)*Vv m q A b c (q+k) x=_
        rw [b3n hk]
      rw [this]
      by_cases h:x<m+1
      . rw [if_pos h,sum_one h λ k _ hn=>by show z (q+k)*(if x=k then 1 else 0)=0; rw [if_neg (aS hn),bD]]
        show z (q+x)*(if x=x then 1 else 0)=_
        rw [if_pos rfl,eR]
      . rw [if_neg h]
        refine sum_zero λ k hk=>?_
        show z (q+k)*(if x=k then 1 else 0)=0
        rw [if_neg (by lia),bD]
    have e2:sumTo (λ j=>z ((S0 m q A b c).outs j)*Vv m q A b c ((S0 m q A b c).outs j) x) (q+1)=sumTo (λ j=>z j*Vv m q A b c j x) q+z (q+m+1)*(if x<m then b x else 0):=by
      show sumTo (λ j=>z (if j<q then j else q+m+1)*Vv m q A b c (if j<q then j else q+m+1) x) q+z (if q<q then q else q+m+1)*Vv m q A b c (if q<q then q else q+m+1) x=_
      rw [if_neg (bJ _),b4c];have:sumTo (λ j=>z (if j<q then j else q+m+1)*Vv m q A b c (if j<q then j else q+m+1) x) q=sumTo (λ j=>z j*Vv m q A b c j x) q:=sum_congr λ j hj=>by rw [if_pos hj]
      rw [this]
    rw [e1,e2]
  have am:∀ i,i<m->sumTo (λ j=>z j*Vv m q A b c j i) q=sumTo (λ j=>A i j*z j) q:=λ i hi=>sum_congr λ j hj=>by rw [b2H hj,if_pos hi,aU]
  have ob:sumTo (λ j=>z j*Vv m q A b c j m) q = - sumTo (λ j=>c j*z j) q:=by
    rw [show - sumTo (λ j=>c j*z j) q=(-1)*sumTo (λ j=>c j*z j) q by lia,<- A2];refine sum_congr λ j hj=>?_;rw [b2H hj,if_neg (bJ _),if_pos rfl,dI,aU];lia
  constructor
  . intro h
    refine ⟨λ i hi=>?_,?_⟩
    . have:=h i
      rw [e i,if_pos (by lia),if_pos hi,am i hi,aU (z (q+m+1))] at this;lia
    . have:=h m
      rw [e m,if_pos (by lia),if_neg (bJ _),ob,bD] at this;lia
  . rintro ⟨h1,h2⟩ x
    rw [e x]
    by_cases c1:x<m
    . have:=h1 x c1
      rw [if_pos (by lia),if_pos c1,am x c1,aU (z (q+m+1))];lia
    . by_cases c2:x=m
      . subst c2
        rw [if_pos (by lia),if_neg (bJ _),ob,bD];lia
      . rw [if_neg (by lia),if_neg c1,bD,sum_zero λ j hj=>by rw [b1i (by lia),bD]]
        rfl
end
def valIn (m:Nat) (S:Bo) (q v:Nat):Int:=sumTo (λ i=>if S.ins i=v then S.T i q else 0) m
def valOut (m q:Nat) (S:Bo) (v:Nat):Int:=sumTo (λ j=>if S.outs j=v then S.T m j else 0) q
theorem a5L {g:Nat->Int}:∀ {n:Nat},(∀ k,k<n->0<=g k)->0<=sumTo g n
 | 0,_=>cD 0
 | n+1,h=>by
  have h1:=a5L (g:=g) (n:=n) λ k hk=>h k (by lia);have h2:=h n (by lia)
  show 0<=sumTo g n+g n
  lia
section
variable {m q:Nat} {A:Nat->Nat->Int} {b c:Nat->Int} {S:Bo}
structure Of (m q:Nat) (A:Nat->Nat->Int) (b c:Nat->Int) (S:Bo):Prop where
 w:Wf m q (Vv m q A b c) S
 k:∀ z,Ker m q (Vv m q A b c) S z ↔ Ker m q (Vv m q A b c) (S0 m q A b c) z
theorem of0 (hb:∀ i,i<m->0<=b i):Of m q A b c (S0 m q A b c):=⟨wf0 hb,λ _=>gS⟩
theorem Of.piv (O:Of m q A b c S) {r cc:Nat} (C:Choice m q S r cc):Of m q A b c (Lp.piv S r cc) :=
 ⟨O.w.pivot C.hr C.hc C.pos C.ratio,λ z=>(Ker.piv C.hr C.hc).trans (O.k z)⟩
theorem Of.valIn_nn (O:Of m q A b c S) (v:Nat):0<=valIn m S q v:=a5L λ i hi=>by
 split
 ·exact O.w.feas i hi
 ·exact cD 0
theorem Of.ray_val (O:Of m q A b c S) {v:Nat} (hv:v<q+m):ray m S q v = - valIn m S q v:=by
 unfold ray;rw [if_neg (by rw [O.w.oq]; lia)]
 show sumTo _ m+(if S.ins m=v then - S.T m q else 0)=_
 rw [if_neg (by rw [O.w.im]; lia),dR];unfold valIn;rw [show - sumTo (λ i=>if S.ins i=v then S.T i q else 0) m=(-1)*sumTo (λ i=>if S.ins i=v then S.T i q else 0) m by lia,<- A2];refine sum_congr λ i _=>?_
 split <;> lia
theorem Of.primal (O:Of m q A b c S):(∀ i,i<m->sumTo (λ j=>A i j*valIn m S q j) q+valIn m S q (q+i)=b i*S.d)/\sumTo (λ j=>c j*valIn m S q j) q=S.T m q:=by
 have K:=(ker0.mp ((O.k _).mp (O.w.ray_ker (show q<q+1 by lia))));have co:ray m S q (q+m+1)=S.d:=by rw [<- O.w.oq]; exact Wf.ray_c
 have oo:ray m S q (q+m) = - S.T m q:=by rw [<- O.w.im]; exact O.w.ray_in (by lia) (by lia)
 have am:∀ g:Nat->Int,sumTo (λ j=>g j*ray m S q j) q = - sumTo (λ j=>g j*valIn m S q j) q:=λ g=>by
  rw [show - sumTo (λ j=>g j*valIn m S q j) q=(-1)*sumTo (λ j=>g j*valIn m S q j) q by lia,<- A2];refine sum_congr λ j hj=>?_;rw [O.ray_val (by lia),dI];lia
 refine ⟨λ i hi=>?_,?_⟩
 ·have:=K.1 i hi
  rw [O.ray_val (by lia),am,co] at this;lia
 ·have:=K.2
  rw [oo,am] at this;lia
theorem Of.valOut_nn (h:∀ j,j<q->0<=S.T m j) (v:Nat):0<=valOut m q S v:=a5L λ j hj=>by
 split
 ·exact h j hj
 ·exact cD 0
theorem a8a (O:Of m q A b c S) (z:Nat->Int):sumTo (λ j=>S.T m j*z (S.outs j)) q=sumTo (λ v=>valOut m q S v*z v) (q+m):=by
 have e:∀ v,v<q+m->valOut m q S v*z v=sumTo (λ j=>(if S.outs j=v then S.T m j else 0)*z v) q:=λ v _=>by
  unfold valOut;rw [aU,<- A2];exact sum_congr λ j _=>aU _ _
 rw [sum_congr e,W9];refine sum_congr λ j hj=>?_;rw [sum_one (O.w.ob j hj) λ v _ hn=>by rw [if_neg (aS hn),dZ],if_pos rfl]
theorem Of.row_goal (O:Of m q A b c S) {z:Nat->Int} (h:Ker m q (Vv m q A b c) (S0 m q A b c) z):S.d*z (q+m)+sumTo (λ v=>valOut m q S v*z v) (q+m)+S.T m q*z (q+m+1)=0:=by
 have R:=O.w.row_of ((O.k z).mpr h) (show m<m+1 by lia);unfold a1U at R
 replace R:S.d*z (S.ins m)+(sumTo (λ j=>S.T m j*z (S.outs j)) q+S.T m q*z (S.outs q))=0:=R
 rw [O.w.im,O.w.oq,a8a O] at R;lia
theorem a0V {g:Nat->Int} (n:Nat):∀ k:Nat,sumTo g (n+k)=sumTo g n+sumTo (λ i=>g (n+i)) k
 | 0=>(dR _).symm
 | k+1=>by
  show sumTo g (n+k)+g (n+k)=sumTo g n+(sumTo (λ i=>g (n+i)) k+g (n+k))
  rw [a0V n k];lia
theorem Of.dual (O:Of m q A b c S):(∀ j,j<q->sumTo (λ i=>A i j*valOut m q S (q+i)) m=c j*S.d+valOut m q S j)/\sumTo (λ i=>b i*valOut m q S (q+i)) m=S.T m q:=by
 constructor
 ·intro j hj
  have hk:Ker m q (Vv m q A b c) (S0 m q A b c) (λ v=>if v<q then (if v=j then 1 else 0) else if v<q+m then - A (v - q) j else if v=q+m then c j else 0):=by
   refine ker0.mpr ⟨λ i hi=>?_,?_⟩
   ·rw [if_neg (by lia),if_pos (by lia),show q+i - q=i by lia,if_neg (by lia),if_neg (by lia),if_neg (by lia),bD,sum_one hj λ k hk hn=>by rw [if_pos hk,if_neg hn,bD],if_pos hj,if_pos rfl]
    lia
   ·rw [if_neg (by lia),if_neg (by lia),if_pos rfl,sum_one hj λ k hk hn=>by rw [if_pos hk,if_neg hn,bD],if_pos hj,if_pos rfl]
    lia
  have R:=O.row_goal hk;rw [if_neg (by lia),if_neg (by lia),if_pos rfl,if_neg (by lia),if_neg (by lia),if_neg (by lia),bD,a0V,sum_one hj λ k hk hn=>by rw [if_pos hk,if_neg hn,bD],if_pos hj,if_pos rfl] at R;have e:sumTo (λ i=>valOut m q S (q+i)*(if q+i<q then (if q+i=j then 1 else 0) else if q+i<q+m then - A (q+i - q) j else if q+i=q+m then c j else 0)) m = - sumTo (λ i=>A i j*valOut m q S (q+i)) m:=by
   rw [show - sumTo (λ i=>A i j*valOut m q S (q+i)) m=(-1)*sumTo (λ i=>A i j*valOut m q S (q+i)) m by lia,<- A2];refine sum_congr λ i hi=>?_;rw [if_neg (by lia),if_pos (by lia),show q+i - q=i by lia,dI,aU];lia
  rw [e,aU S.d] at R;lia
 ·have hk:Ker m q (Vv m q A b c) (S0 m q A b c) (λ v=>if v<q then 0 else if v<q+m then b (v - q) else if v=q+m then 0 else -1):=by
   refine ker0.mpr ⟨λ i hi=>?_,?_⟩
   ·rw [if_neg (by lia),if_pos (by lia),show q+i - q=i by lia,if_neg (by lia),if_neg (by lia),if_neg (by lia),sum_zero λ k hk=>by rw [if_pos hk,bD]]
    lia
   ·rw [if_neg (by lia),if_neg (by lia),if_pos rfl,sum_zero λ k hk=>by rw [if_pos hk,bD]]
  have R:=O.row_goal hk;rw [if_neg (by lia),if_neg (by lia),if_pos rfl,if_neg (by lia),if_neg (by lia),if_neg (by lia),bD,a0V,sum_zero λ k hk=>by rw [if_pos hk,bD]] at R;have e:sumTo (λ i=>valOut m q S (q+i)*(if q+i<q then 0 else if q+i<q+m then b (q+i - q) else if q+i=q+m then 0 else -1)) m=sumTo (λ i=>b i*valOut m q S (q+i)) m :=
   sum_congr λ i hi=>by rw [if_neg (by lia),if_pos (by lia),show q+i - q=i by lia,aU]
  rw [e] at R;lia
end
end Lp
namespace Rim
open PySem L2
def Y6 (i:Nat):Stmt:=PySem.Challenge.pw_rimhouse_k12_whole_kept.main.body.getD i (.Pass ⟨0,0,0,0⟩)
abbrev b2c:Stmt:=Y6 10
abbrev b1Q:Stmt:=Y6 11
abbrev b2M:Stmt:=Y6 18
abbrev a5M:Stmt:=Y6 24
abbrev M0:Stmt:=Y6 26
abbrev O5:Stmt:=Y6 29
abbrev Z7:Stmt:=Y6 30
abbrev a9A:Stmt:=Y6 35
abbrev a5y:Stmt:=Y6 36
abbrev a2v:Stmt:=Y6 22
abbrev a1j:Stmt:=Y6 31
abbrev a5c:Stmt:=Y6 33
abbrev a8R:Stmt:=Y6 41
abbrev a5i:Stmt:=Y6 42
abbrev a8o:Stmt:=Y6 43
abbrev a0n:Stmt:=Y6 52
abbrev a0r:Stmt:=Y6 15
abbrev R3:Stmt:=Y6 16
abbrev a0m:Stmt:=Y6 17
abbrev P0:Stmt:=Y6 20
abbrev N1:Stmt:=Y6 21
abbrev a1a:Stmt:=Y6 38
abbrev a0x:Stmt:=Y6 39
abbrev U0:Stmt:=Y6 44
abbrev O7:Stmt:=Y6 45
abbrev E7:Stmt:=Y6 46
abbrev C8:Stmt:=Y6 47
abbrev O9:Stmt:=Y6 48
abbrev P1:Stmt:=Y6 49
abbrev A5:Stmt:=Y6 50
abbrev A7:Stmt:=Y6 51
abbrev N0:Stmt:=E2 a0x 0
abbrev C7:Stmt:=E2 a0x 1
abbrev X6:Stmt:=E2 a0x 2
abbrev a1m:Stmt:=E2 a0x 3
abbrev Q5:Stmt:=E2 a0x 6
abbrev Q7:Stmt:=E2 a0x 7
abbrev a0w:Stmt:=E2 a0x 8
abbrev a0v:Stmt:=Y6 25
abbrev a4L:Stmt:=E2 a0v 0
abbrev a3Q:Stmt:=E2 a0v 1
abbrev a5z:Stmt:=E2 a0v 2
abbrev a5t:Stmt:=E2 a0v 3
abbrev O3:Stmt:=E2 a0v 4
abbrev a9u:Stmt:=E2 a0v 5
abbrev b2r:Stmt:=E2 a0v 6
abbrev a5J:Pos:=⟨82,32,82,64⟩
structure x5 (mg:Str->Option Value):Prop where
 len:mg "len"=none
 all:mg "all"=none
 any:mg "any"=none
 max:mg "max"=none
 min:mg "min"=none
 sum:mg "sum"=none
 tuple:mg "tuple"=none
 list:mg "list"=none
 int:mg "int"=none
 bool:mg "bool"=none
 range:mg "range"=none
 isi:mg "isinstance"=none
 abs:mg "abs"=none
 zip:mg "zip"=none
 enum:mg "enumerate"=none
 ve:mg "ValueError"=none
 so:mg "sorted"=none
theorem N3 (K:W.Frag) {X:Cx} (h:X.K=K):IxR X (b3s K):=by subst h; exact j5
theorem T4 (K:W.Frag) {X:Cx} {es:List Expr} {k:Nat} {t:TGs} {n:Nat} {pos:Pos} (h:X.K=K) (hc:X.calm=true) (hp:PGs X es t) (hn:(assignEach es X.env).length=n:=by rfl) (hst:(assignEach es X.env).findIdx? (·.1)=none:=by rfl):PG X (.Tuple es k pos) (a5x K n t):=by subst h; exact T8 hc hp hn hst
def b3L (K:W.Frag):List V->Hp->VK->Prop:=λ xs H Q=>∃ p ys,xs=[.ref p]/\(SqL K H p ys\/SqT K H p ys)/\∀ l,H l=none->Q (.ref l) (r6 H l (.lst ys))
theorem a6c (K:W.Frag) {X:Cx} (h:X.K=K):G2 X (.type "list") (b3L K):=by subst h; exact B7
def vI:V->Int
 | .int i=>i
 | _=>0
theorem L8 {ns:List Int} {i:Nat} {x:V} (h:(ns.map V.int)[i]?=some x):∃ k,x=.int k:=by
 rw [aD] at h
 cases hn:ns[i]? with
 | none=>rw [hn] at h; cases h
 | some k=>rw [hn] at h; cases h; exact ⟨k,rfl⟩
theorem b3E {N:VK} {b b':Bool} {H:Hp} (h:N (.bl b) H) (e:b'=b):N (.bl b') H:=by rw [e]; exact h
abbrev j0:=List Int×List Int
def HS (K:W.Frag) (H:Hp) (v:V) (h:j0):Prop:=∃ a t g,v=.ref a/\SqT K H a [.ref t,.ref g]/\SqT K H t (h.1.map V.int)/\SqT K H g (h.2.map V.int)
abbrev Bk (K:W.Frag) (H:Hp):List V->List j0->Prop:=aN (HS K H)
theorem HS.same {K:W.Frag} {H H':Hp} {v:V} {h:j0} (e:Same H H') (x:HS K H v h):HS K H' v h:=by
 obtain ⟨a,t,g,h0,h1,h2,h3⟩:=x;exact ⟨a,t,g,h0,e.tseq h1,e.tseq h2,e.tseq h3⟩
theorem Bk.same {K:W.Frag} {H H':Hp} {vs:List V} {hs:List j0} (e:Same H H') (x:Bk K H vs hs):Bk K H' vs hs:=Paired.imp' (λ _ _ r=>HS.same e r) x
theorem Paired.at {α β:Type} {F:α->β->Prop}:∀ {l₁:List α} {l₂:List β},aN F l₁ l₂->∀ {i:Nat} {x:α},l₁[i]?=some x->∃ y,l₂[i]?=some y/\F x y
 | _,_,.nil,_,_,e=>by simp at e
 | _,_,.cons r _,0,_,e=>by simp at e; subst e; exact ⟨_,rfl,r⟩
 | _,_,.cons _ t,i+1,x,e=>by
  obtain ⟨y,h1,h2⟩:=Paired.at t (i:=i) (x:=x) (by simpa using e);exact ⟨y,by simpa using h1,h2⟩
def y8 (q:Nat) (S:Lp.Bo) (i:Nat):List Int:=(aE (q+1)).map (S.T i)
def K8 (q:Nat) (S:Lp.Bo):List Int:=(aE q).map λ j=>(S.outs j:Int)
def P5 (m:Nat) (S:Lp.Bo):List Int:=(aE m).map λ i=>(S.ins i:Int)
abbrev bdF (q:Nat) (d:Int) (ca oa ia:Addr):List (Str×V):=[("many",.int q),("scale",.int d),("cells",.ref ca),("outs",.ref oa),("ins",.ref ia)]
structure Bd (C:Addr) (H:Hp) (p dx ca oa ia:Addr) (rs:List Addr) (m q:Nat) (S:Lp.Bo):Prop where
 obj:H p=some (.ins C dx (bdF q S.d ca oa ia))
 cel:H ca=some (.lst (rs.map V.ref))
 len:rs.length=m+1
 row:∀ i r,rs[i]?=some r->H r=some (.lst ((y8 q S i).map V.int))
 out:H oa=some (.lst ((K8 q S).map V.int))
 inn:H ia=some (.lst ((P5 m S).map V.int))
 ne:oa≠ia
structure TB (K:W.Frag) (C:Addr):Prop where
 cl:Cls K C
 nM:NoAttr K C "many"
 nS:NoAttr K C "scale"
 nC:NoAttr K C "cells"
 nO:NoAttr K C "outs"
 nI:NoAttr K C "ins"
section
variable {C:Addr} {H H':Hp} {p dx ca oa ia:Addr} {rs:List Addr} {m q:Nat} {S:Lp.Bo}
theorem Bd.rs_at (B:Bd C H p dx ca oa ia rs m q S) {i:Nat} (h:i<m+1):∃ r,rs[i]?=some r/\Y8 (rs.map V.ref) (i:Int)=some (.ref r):=by
 have h':i<rs.length:=by rw [B.len]; exact h
 refine ⟨rs[i],aH h',D9 ?_⟩;rw [aD,aH h']; rfl
theorem Y4 {i j:Nat} (h:j<q+1):Y8 ((y8 q S i).map V.int) (j:Int)=some (.int (S.T i j)):=D9 (by
 unfold y8;rw [aD,aD,bG h]; rfl)
theorem a6m {α:Type} {xs:List α} {n:Nat} {v:α} (hl:xs.length=n+1) (h:xs[n]?=some v):Y8 xs (-1)=some v:=by
 have e:ixN xs.length (-1)=some n:=by
  unfold ixN;rw [hl,if_neg (by decide),if_pos (by lia)]
  congr 1
  lia
 unfold Y8; rw [e]; exact h
theorem Y9 {i:Nat}:Y8 ((y8 q S i).map V.int) (-1)=some (.int (S.T i q)):=a6m (n:=q) (by unfold y8; simp) (by
 unfold y8;rw [aD,aD,bG (eV _)]; rfl)
theorem Bd.rs_last (B:Bd C H p dx ca oa ia rs m q S):∃ r,rs[m]?=some r/\Y8 (rs.map V.ref) (-1)=some (.ref r):=by
 have h':m<rs.length:=by rw [B.len]; exact eV _
 refine ⟨rs[m],aH h',a6m (n:=m) (by simpa using B.len) ?_⟩;rw [aD,aH h']; rfl
theorem a1z {i:Nat} (h:i<m):Y8 ((P5 m S).map V.int) (i:Int)=some (.int (S.ins i)):=D9 (by
 unfold P5;rw [aD,aD,bG h]; rfl)
theorem a2y {j:Nat} (h:j<q):Y8 ((K8 q S).map V.int) (j:Int)=some (.int (S.outs j)):=D9 (by
 unfold K8;rw [aD,aD,bG h]; rfl)
theorem Bd.same1 {P:Addr} (B:Bd C H p dx ca oa ia rs m q S) (e:∀ b o,H b=some o->(∀ ps,o≠.tbl ps)->H' b=some o):Bd C H' p dx ca oa ia rs m q S :=
 ⟨e _ _ B.obj λ _=>nofun,e _ _ B.cel λ _=>nofun,B.len,λ i r h=>e _ _ (B.row i r h) λ _=>nofun,e _ _ B.out λ _=>nofun,e _ _ B.inn λ _=>nofun,B.ne⟩
def Sz (n m q:Nat) (S:Lp.Bo):Prop:=(∀ i j,i<m+1->j<q+1->Big n (S.T i j))/\Big n S.d
end
section
variable {P:Program} {w:World} {K:W.Frag} {mg:Str->Option Value} {base:Heap} {f:Addr} {fd:FuncData} {n:Nat} {C:Addr}
theorem a7U {a b:Nat} {x:Int} (h:Big a x) (hab:a<=b):Big b x:=aR h (gU (by decide) hab)
def a1g (q:Nat) (S:Lp.Bo) (i o c:Nat):Bool:=if S.T i q*S.T o c=S.T o q*S.T i c then decide (S.ins i<S.ins o) else decide (S.T i q*S.T o c<S.T o q*S.T i c)
def a5Z (C:Addr):Sp:=λ vs H Q _=>∃ (p dx ca oa ia:Addr) (rs:List Addr) (m q:Nat) (S:Lp.Bo) (i o c:Nat),vs=[.ref p,.int i,.int o,.int c]/\Bd C H p dx ca oa ia rs m q S/\Sz 4000 m q S/\i<m/\o<m/\c<q+1/\Q (.bl (a1g q S i o c)) H
theorem scAhead:m9 ["self","row","other","column","left","right"] ["self","row","other","column"] (i8 a5t):=⟨rfl,rfl,rfl,by decide +kernel,rfl,by decide +kernel,by decide +kernel⟩
theorem a7Y (F:Fun K "is_ahead" "Board.is_ahead" a5t f fd) (T:TB K C):FnOk P w K mg base E4 (n+1) f fd ["self","row","other","column"] (a5Z C):=by
 refine F.ok scAhead (λ vs H Q E h=>?_) (λ cdv A outer s H vs Q E hr h=>?_)
 ·obtain ⟨p,dx,ca,oa,ia,rs,m,q,S,i,o,c,rfl,_⟩:=h
  rfl
 obtain ⟨p,dx,ca,oa,ia,rs,m,q,S,i,o,c,rfl,B,hz,hi,ho,hc,k⟩:=h;refine ⟨_,i9 (o4 (i:=4) scAhead.nd rfl (aC rfl) (j4 a1B (j9 j5 (j9 j5 (t7 (pv 0) rfl) (pv 1) (λ _ _=>rfl)) (O6 J1 h8) (λ _ _=>rfl)) (j9 j5 (j9 j5 (t7 (pv 0) rfl) (pv 2) (λ _ _=>rfl)) (pv 3) (λ _ _=>rfl))))
  (i9 (o4 (i:=5) scAhead.nd rfl (aC rfl) (j4 a1B (j9 j5 (j9 j5 (t7 (pv 0) rfl) (pv 2) (λ _ _=>rfl)) (O6 J1 h8) (λ _ _=>rfl)) (j9 j5 (j9 j5 (t7 (pv 0) rfl) (pv 1) (λ _ _=>rfl)) (pv 3) (λ _ _=>rfl))))
  (i9 (A4 (t9 N6 (pv 4) (pv 5) (p6 _)) (j3 (r9 (A9 a1p (j9 j5 (t7 (pv 0) rfl) (pv 1) (λ _ _=>rfl)) (j9 j5 (t7 (pv 0) rfl) (pv 2) (λ _ _=>rfl)) (p6 _)))) v8)
  (j3 (r9 (A9 a1p (pv 4) (pv 5) (p6 _)))))),?_⟩
 obtain ⟨ri,ei,ai⟩:=B.rs_at (i:=i) (by lia);obtain ⟨ro,eo,ao⟩:=B.rs_at (i:=o) (by lia);have bi:=SqL.of (K:=K) (B.row i ri ei);have bo:=SqL.of (K:=K) (B.row o ro eo);have z:∀ i j,i<m+1->j<q+1->Big 1000000 (S.T i j):=λ i j h1 h2=>a7U (hz.1 i j h1 h2) (by decide);refine ⟨_,rfl,p,C,dx,_,_,rfl,B.obj,T.cl,T.nC,rfl,_,rfl,ca,_,_,_,rfl,rfl,SqL.of B.cel,ai,_,rfl,ri,_,_,_,rfl,rfl,bi,Y9,?_⟩;refine ⟨_,rfl,p,C,dx,_,_,rfl,B.obj,T.cl,T.nC,rfl,_,rfl,ca,_,_,_,rfl,rfl,SqL.of B.cel,ao,_,rfl,ro,_,_,_,rfl,rfl,bo,Y4 hc,_,_,rfl,rfl,⟨z _ _ (by lia) (by lia),z _ _ (by lia) (by lia)⟩,?_⟩;refine ⟨_,rfl,p,C,dx,_,_,rfl,B.obj,T.cl,T.nC,rfl,_,rfl,ca,_,_,_,rfl,rfl,SqL.of B.cel,ao,_,rfl,ro,_,_,_,rfl,rfl,bo,Y9,?_⟩;refine ⟨_,rfl,p,C,dx,_,_,rfl,B.obj,T.cl,T.nC,rfl,_,rfl,ca,_,_,_,rfl,rfl,SqL.of B.cel,ai,_,rfl,ri,_,_,_,rfl,rfl,bi,Y4 hc,_,_,rfl,rfl,⟨z _ _ (by lia) (by lia),z _ _ (by lia) (by lia)⟩,?_⟩;refine ⟨_,rfl,_,rfl,rfl,_,rfl,?_⟩;unfold a1g at k;refine D0 (λ e=>?_) (λ e=>?_)
 ·have e':S.T i q*S.T o c=S.T o q*S.T i c:=by simpa using e
  rw [if_pos e'] at k;refine ⟨_,rfl,p,C,dx,_,_,rfl,B.obj,T.cl,T.nI,rfl,_,rfl,ia,_,_,_,rfl,rfl,SqL.of B.inn,a1z hi,_,rfl,p,C,dx,_,_,rfl,B.obj,T.cl,T.nI,rfl,_,rfl,ia,_,_,_,rfl,rfl,SqL.of B.inn,a1z ho,_,_,rfl,rfl,?_⟩;refine b3E k ?_;simp
 ·have e':¬ S.T i q*S.T o c=S.T o q*S.T i c:=by simpa using e
  rw [if_neg e'] at k;exact ⟨_,rfl,_,rfl,_,_,rfl,rfl,k⟩
end
structure a7E (P:Program) (w:World) (K:W.Frag) (mg:Str->Option Value) (base:Heap) (n:Nat) (C:Addr) (m:Str) (ps:List Str) (sp:Sp) (f:Addr) (fd:FuncData):Prop where
 ok:FnOk P w K mg base E4 n f fd ps sp
 bd:Binds K fd ps []
 me:a7j K C m f
def Bet (q:Nat) (S:Lp.Bo) (c r i:Nat):Prop:=S.T r q*S.T i c<=S.T i q*S.T r c/\(S.T r q*S.T i c=S.T i q*S.T r c->S.ins r<=S.ins i)
theorem a7v {ar cr ab cb ai ci:Int} (h1:ar*cb<=ab*cr) (h2:ab*ci<=ai*cb) (pr:0<cr) (pb:0<cb) (pi:0<ci):ar*ci<=ai*cr/\(ar*ci=ai*cr->ar*cb=ab*cr/\ab*ci=ai*cb):=by
 have e1:ar*cb*ci<=ab*cr*ci:=dQ h1 (bH pi);have e2:ab*ci*cr<=ai*cb*cr:=dQ h2 (bH pr);have x1:ar*cb*ci=ar*ci*cb:=by rw [aX,aU cb ci,<- aX]
 have x2:ab*cr*ci=ab*ci*cr:=by rw [aX,aU cr ci,<- aX]
 have x3:ai*cb*cr=ai*cr*cb:=by rw [aX,aU cb cr,<- aX]
 rw [x1] at e1;rw [x3] at e2;refine ⟨Int.le_of_mul_le_mul_right (a:=cb) (by lia) pb,λ e=>?_⟩;rw [e] at e1;refine ⟨Int.eq_of_mul_eq_mul_right (a:=ci) (by omega) (by rw [x1,e]; omega),iL (a:=cr) (by omega) (by rw [x3]; omega)⟩
theorem Bet.trans {q:Nat} {S:Lp.Bo} {c r b i:Nat} (h1:Bet q S c r b) (h2:Bet q S c b i) (pr:0<S.T r c) (pb:0<S.T b c) (pi:0<S.T i c):Bet q S c r i:=by
 obtain ⟨a,t⟩:=a7v h1.1 h2.1 pr pb pi;exact ⟨a,λ e=>aW (h1.2 (t e).1) (h2.2 (t e).2)⟩
theorem a7b {q:Nat} {S:Lp.Bo} {c r b:Nat} (h:a1g q S r b c=true):Bet q S c r b:=by
 unfold a1g at h
 by_cases e:S.T r q*S.T b c=S.T b q*S.T r c
 ·rw [if_pos e] at h
  exact ⟨Int.le_of_eq e,λ _=>cO (of_decide_eq_true h)⟩
 ·rw [if_neg e] at h
  have:=of_decide_eq_true h;exact ⟨Int.le_of_lt this,λ z=>absurd z e⟩
theorem b0J {q:Nat} {S:Lp.Bo} {c r b:Nat} (h:a1g q S r b c=false):Bet q S c b r:=by
 unfold a1g at h
 by_cases e:S.T r q*S.T b c=S.T b q*S.T r c
 ·rw [if_pos e] at h
  exact ⟨Int.le_of_eq e.symm,λ _=>iA (of_decide_eq_false h)⟩
 ·rw [if_neg e] at h
  have:=of_decide_eq_false h;exact ⟨by lia,λ z=>absurd z.symm e⟩
section
variable {P:Program} {w:World} {K:W.Frag} {mg:Str->Option Value} {base:Heap} {f g:Addr} {fd gd:FuncData} {n:Nat} {C:Addr}
def a6N (C:Addr):Sp:=λ vs H Q _=>∃ (p dx ca oa ia:Addr) (rs:List Addr) (m q:Nat) (S:Lp.Bo) (c:Nat),vs=[.ref p,.int c]/\Bd C H p dx ca oa ia rs m q S/\Sz 4000 m q S/\m<1000/\c<q+1 ∧
 ((∀ i,i<m->¬ 0<S.T i c)->Q .non H)/\∀ r,r<m->0<S.T r c->(∀ i,i<m->0<S.T i c->Bet q S c r i)->Q (.int r) H
theorem scGoing:m9 ["self","column","best","row"] ["self","column"] (i8 a5z):=⟨rfl,rfl,rfl,by decide +kernel,rfl,by decide +kernel,by decide +kernel⟩
theorem a8L (F:Fun K "going" "Board.going" a5z f fd) (N:x5 mg) (T:TB K C) (A1:a7E P w K mg base n C "is_ahead" ["self","row","other","column"] (a5Z C) g gd):FnOk P w K mg base E4 (n+1) f fd ["self","column"] (a6N C):=by
 refine F.ok scGoing (λ vs H Q E h=>?_) (λ cdv A outer s H vs Q E hr h=>?_)
 ·obtain ⟨p,dx,ca,oa,ia,rs,m,q,S,c,rfl,_⟩:=h
  rfl
 obtain ⟨p,dx,ca,oa,ia,rs,m,q,S,c,rfl,B,hz,hm,hc,kN,kI⟩:=h;refine ⟨_,i9 (o4 (i:=2) scGoing.nd rfl (aC rfl) W5)
  (i9 (W3 PassesOwn.never rfl (A3 rfl N.range (a0 (j6 j7 rfl N.len bB (a0 (t7 (pv 0) rfl) e9)) e9)) (j8 (i:=3) scGoing.nd rfl (aC rfl))
   (j3 (A4 (PW.pt (a3B (t9 a0D (j9 j5 (j9 j5 (t7 (pv 0) rfl) (pv 3) (λ _ _=>rfl)) (pv 1) (λ _ _=>rfl)) h8 (p6 _))
     (a1J (PW.pt (a4A (t9 a5K (pv 2) W5 (p6 _)) (a2t (U9 (Y5 (pv 0) T.cl A1.me A1.ok hr A1.bd .nil w6 (a0 (pv 3) (a0 (pv 2) (a0 (pv 1) e9)))))))))))
    (j3 (o4 (i:=2) scGoing.nd rfl (aC rfl) (pv 3))) v8)))
  (j3 (r9 (pv 2)))),?_⟩
 have lm:((P5 m S).map V.int).length=m:=by unfold P5; simp
 refine ⟨_,rfl,p,C,dx,_,_,rfl,B.obj,T.cl,T.nI,rfl,ia,_,rfl,.inl (SqL.of B.inn),_,rfl,(by rw [lm]; lia),(by rw [lm]; lia),?_⟩;rw [lm,aY];refine Z8 (n:=m) (λ k σ H'=>∃ (b o3:Option V),σ=[some (.ref p),some (.int c),b,o3]/\H'=H/\((b=some .non/\∀ i,i<k->¬ 0<S.T i c)\/∃ r:Nat,b=some (.int r)/\r<k/\0<S.T r c/\∀ i,i<k->0<S.T i c->Bet q S c r i))
  ⟨_,_,rfl,rfl,.inl ⟨rfl,λ i hi=>absurd hi (Nat.not_lt_zero _)⟩⟩ (λ k σ H' hk hP=>?_) λ σ H' hP=>?_
 ·obtain ⟨b,o3,rfl,rfl,hb⟩:=hP
  obtain ⟨rk,ek,ak⟩:=B.rs_at (i:=k) (by lia);have zk:(0:Int)+(k:Int)=(k:Int):=eO _;rw [zk];refine ⟨_,rfl,p,C,dx,_,_,rfl,B.obj,T.cl,T.nC,rfl,_,rfl,ca,_,_,_,rfl,rfl,SqL.of B.cel,ak,_,rfl,rk,_,_,_,rfl,rfl,SqL.of (B.row k rk ek),Y4 hc,_,_,rfl,rfl,_,rfl,?_⟩;have keep:¬ 0<S.T k c->((b=some .non/\∀ i,i<k+1->¬ 0<S.T i c)\/∃ r:Nat,b=some (.int r)/\r<k+1/\0<S.T r c/\∀ i,i<k+1->0<S.T i c->Bet q S c r i):=λ hn=>by
   rcases hb with ⟨e,hb⟩ | ⟨r,e,h1,h2,h3⟩
   ·refine .inl ⟨e,λ i hi=>?_⟩
    by_cases z:i=k
    ·subst z; exact hn
    ·exact hb i (by lia)
   ·refine .inr ⟨r,e,by lia,h2,λ i hi hp=>?_⟩
    by_cases z:i=k
    ·subst z; exact absurd hp hn
    ·exact h3 i (by lia) hp
  refine D0 (λ d=>?_) (λ d=>?_)
  ·have d':0<S.T k c:=of_decide_eq_true d
   rcases hb with ⟨rfl,hb⟩ | ⟨r,rfl,h1,h2,h3⟩
   ·refine ⟨_,rfl,rfl,_,rfl,?_⟩
    refine D0 (λ _=>?_) (λ z=>absurd (decide_eq_true rfl) z);refine Q9 ?_;refine ⟨_,rfl,⟨_,_,rfl,rfl,.inr ⟨k,rfl,by lia,d',λ i hi hp=>?_⟩⟩⟩
    by_cases z:i=k
    ·subst z; exact ⟨Int.le_refl _,λ _=>aF _⟩
    ·exact absurd hp (hb i (by lia))
   ·refine ⟨_,rfl,rfl,_,rfl,?_⟩
    refine D0 (λ z=>absurd (of_decide_eq_true z) (by nofun)) (λ _=>?_);refine ⟨_,rfl,p,dx,_,rfl,B.obj,rfl,_,rfl,_,rfl,_,rfl,?_⟩;refine ⟨p,dx,ca,oa,ia,rs,m,q,S,k,r,c,rfl,B,hz,hk,by lia,hc,_,rfl,?_⟩;refine D0 (λ e=>?_) (λ e=>?_)
    ·have bt:=a7b e
     refine ⟨_,rfl,⟨_,_,rfl,rfl,.inr ⟨k,rfl,by lia,d',λ i hi hp=>?_⟩⟩⟩
     by_cases z:i=k
     ·subst z; exact ⟨Int.le_refl _,λ _=>aF _⟩
     ·exact bt.trans (h3 i (by lia) hp) d' h2 hp
    ·have bt:=b0J (eM.mpr e)
     refine ⟨_,_,rfl,rfl,.inr ⟨r,rfl,by lia,h2,λ i hi hp=>?_⟩⟩
     by_cases z:i=k
     ·subst z; exact bt
     ·exact h3 i (by lia) hp
  ·have d':¬ 0<S.T k c:=λ z=>d (decide_eq_true z)
   exact ⟨_,_,rfl,rfl,keep d'⟩
 ·obtain ⟨b,o3,rfl,rfl,hb⟩:=hP
  rcases hb with ⟨rfl,hb⟩ | ⟨r,rfl,h1,h2,h3⟩
  ·exact ⟨_,rfl,kN hb⟩
  ·exact ⟨_,rfl,kI r h1 h2 h3⟩
end
abbrev b1V:Str:=("Board.coming"++".<locals>.")++"<lambda>"
abbrev LT (Pt:Addr) (H:Hp):Prop:=LamTab Pt a5J b1V H
section
variable {P:Program} {w:World} {K:W.Frag} {mg:Str->Option Value} {base:Heap} {f g c Pt:Addr} {fd gd:FuncData} {n:Nat} {C:Addr}
def a2w (C Pt:Addr):Sp:=λ vs H Q _=>∃ (p dx ca oa ia:Addr) (rs:List Addr) (m q:Nat) (S:Lp.Bo),vs=[.ref p]/\Bd C H p dx ca oa ia rs m q S/\q<1000/\LT Pt H ∧
 ∀ H',Same1 Pt H H'->LT Pt H'->((∀ j,j<q->¬ S.T m j<0)->Q .non H')/\∀ j,j<q->S.T m j<0->(∀ i,i<q->S.T m i<0->S.outs j<=S.outs i)->Q (.int j) H'
theorem scComing:m9 ["self","columns"] ["self"] (i8 a3Q):=⟨rfl,rfl,rfl,by decide +kernel,rfl,by decide +kernel,by decide +kernel⟩
theorem b3f:(["column","self"]:List Str).Nodup:=by decide +kernel
theorem LamTab.new {Pt a:Addr} {pos:Pos} {qual:Str} {H:Hp} {o:HO} (T:LamTab Pt pos qual H) (h:H a=none):LamTab Pt pos qual (r6 H a o):=T.same λ b u e=>by rw [c9 (d7 e h)]; exact e
def a7l (q:Nat) (S:Lp.Bo) (m:Nat):List Int:=((aE q).filter λ j=>decide (S.T m j<0)).map λ (j:Nat)=>(j:Int)
theorem a9f {q:Nat} {S:Lp.Bo} {m:Nat}:((aE q).map λ (i:Nat)=>V.int (0+(i:Int))).filter (λ v=>decide (S.T m (vI v).toNat<0))=(a7l q S m).map V.int:=by
 unfold a7l;rw [List.filter_map,aQ];have e:((λ v=>decide (S.T m (vI v).toNat<0)) ∘ λ (i:Nat)=>V.int (0+(i:Int)))=λ j=>decide (S.T m j<0):=by
  funext j
  show decide (S.T m (vI (V.int (0+(j:Int)))).toNat<0)=_
  rw [show (vI (V.int (0+(j:Int)))).toNat=j from by simp [vI]]
 rw [e];refine cW λ j _=>?_;simp
theorem Bd.lam {H H':Hp} {p dx ca oa ia:Addr} {rs:List Addr} {m q:Nat} {S:Lp.Bo} (B:Bd C H p dx ca oa ia rs m q S) (T:LT Pt H) (e:Same1 Pt H H'):Bd C H' p dx ca oa ia rs m q S:=by
 refine B.same1 (P:=Pt) λ b o q n=>e b o (λ z=>?_) q;subst z;rcases T with t | ⟨c,t,_⟩
 ·rw [q] at t; exact n _ (aL t)
 ·rw [q] at t; exact n _ (aL t)
theorem a7K (F:Fun K "coming" "Board.coming" a3Q f fd) (hcode:fd.code=.ref c) (CH:W.CodeHd base c Pt) (BM:T9 mg base) (N:x5 mg) (T:TB K C):FnOk P w K mg base E4 (n+3) f fd ["self"] (a2w C Pt):=by
 refine F.okC hcode scComing (λ vs H Q E h=>?_) (λ A outer s H vs Q E hr h=>?_)
 ·obtain ⟨p,dx,ca,oa,ia,rs,m,q,S,rfl,_⟩:=h
  rfl
 obtain ⟨p,dx,ca,oa,ia,rs,m,q,S,rfl,B,hq,L,k⟩:=h;refine ⟨_,i9 (b2o (i:=1) ["column"] [0] scComing.nd rfl rfl rfl (A3 rfl N.range (a0 (t7 (pv 0) rfl) e9)) (λ _ _ _ _=>j8 (i:=0) b3f rfl (aC rfl))
   (λ _ _ _ _=>t9 a1p (j9 (N3 K rfl) (j9 (N3 K rfl) (a1K K rfl (pv 1) rfl) (O6 J1 h8) (λ _ _=>rfl)) (pv 0) (λ _ _=>rfl)) h8 (p6 _))
   (λ _ _ _ _=>pv 0))
  (j3 (r9 (a7C (col:="column") (fr:=[0]) (c:=c) (P:=Pt) rfl (hr.mono (by lia)) rfl N.min rfl CH BM rfl rfl (by decide +kernel) rfl rfl rfl (λ _ _ _ _=>rfl) (a0 (pv 1) e9)
   (λ _ _ _ _=>j9 (N3 K rfl) (a1K K rfl (pv 1) rfl) (pv 0) (λ _ _=>rfl))))),?_⟩
 refine ⟨_,rfl,p,C,dx,_,_,rfl,B.obj,T.cl,T.nM,rfl,_,rfl,(by lia),(by lia),?_⟩;rw [aY];intro l hl;obtain ⟨rm,em,am⟩:=B.rs_last;refine a9O a5S hl (by rw [aA,eD]; exact m8 (by lia)) (λ v=>decide (S.T m (vI v).toNat<0)) (λ i x H' N' hx e hN=>?_) ?_
 ·have hx':x=.int (i:Int)/\i<q:=by
   rw [aD] at hx
   by_cases hi:i<q
   ·rw [bG hi] at hx
    refine ⟨?_,hi⟩;have:=aL hx;rw [<- this]; simp
   ·rw [bK (by simp; lia)] at hx; cases hx
  obtain ⟨rfl,hi⟩:=hx';have e':∀ b o,H b=some o->H' b=some o:=λ b o z=>e b o z;refine ⟨_,rfl,p,C,dx,_,_,rfl,e' _ _ B.obj,T.cl,T.nC,rfl,_,rfl,ca,_,_,_,rfl,rfl,SqL.of (e' _ _ B.cel),am,_,rfl,rm,_,_,_,rfl,rfl,SqL.of (e' _ _ (B.row m rm em)),Y4 (by lia),_,_,rfl,rfl,_,rfl,?_⟩;have ev:decide (S.T m (vI (V.int (i:Int))).toNat<0)=decide (S.T m i<0):=by rw [show (vI (V.int (i:Int))).toNat=i from by simp [vI]]
  rw [ev] at hN;exact hN
 rw [a9f];have L2':LT Pt (r6 H l (.lst ((a7l q S m).map V.int))):=LamTab.new L hl;have B2:Bd C (r6 H l (.lst ((a7l q S m).map V.int))) p dx ca oa ia rs m q S:=B.same1 (P:=Pt) λ b o z _=>by rw [c9 (d7 z hl)]; exact z
 have mem:∀ x:Int,x∈a7l q S m ↔ ∃ j:Nat,x=(j:Int)/\j<q/\S.T m j<0:=λ x=>by
  unfold a7l;rw [bA];constructor
  ·rintro ⟨j,hj,rfl⟩
   rw [fW,cS] at hj;exact ⟨j,rfl,hj.1,of_decide_eq_true hj.2⟩
  ·rintro ⟨j,rfl,h1,h2⟩
   exact ⟨j,by rw [fW,cS]; exact ⟨h1,decide_eq_true h2⟩,rfl⟩
 refine ⟨_,rfl,l,_,λ x=>(S.outs x.toNat:Int),rfl,SqL.of upd_same,L2',λ H2 e2 L3=>?_⟩;have B3:=B2.lam L2' e2;have e3:Same1 Pt H H2:=λ b o hb z=>e2 b o hb (by rw [c9 (d7 z hl)]; exact z);obtain ⟨k1,k2⟩:=k H2 e3 L3;refine ⟨λ x hx=>?_,λ en=>k1 λ j hj hn=>?_,λ M hM hmin=>?_⟩
 ·obtain ⟨j,rfl,hj,hn⟩:=(mem x).mp hx
  exact ⟨_,rfl,p,C,dx,_,_,rfl,B3.obj,T.cl,T.nO,rfl,_,rfl,oa,_,_,_,rfl,rfl,SqL.of B3.out,a2y hj,by simp,rfl⟩
 ·have:=(mem (j:Int)).mpr ⟨j,rfl,hj,hn⟩
  rw [en] at this
  cases this
 ·obtain ⟨j,rfl,hj,hn⟩:=(mem M).mp hM
  refine k2 j hj hn λ i hi hni=>?_;have:=hmin (i:Int) ((mem _).mpr ⟨i,rfl,hi,hni⟩)
  simpa using this
end
def a0p (xs ys:List Int) (c:Nat) (d:Int):List Int:=(cF (λ x y=>(x*ys.getD c 0 - xs.getD c 0*y) / d) xs ys).set c (-(xs.getD c 0))
theorem a4X {ns:List Int} {i:Nat} (h:i<ns.length):Y8 (ns.map V.int) (i:Int)=some (.int (ns.getD i 0)):=D9 (by
 rw [aD,aH h,aI,aH h]; rfl)
theorem a0P {ns:List Int} {i:Nat} {x:V} (h:(ns.map V.int)[i]?=some x):∃ k,x=.int k/\k∈ns:=by
 rw [aD] at h
 cases hn:ns[i]? with
 | none=>rw [hn] at h; cases h
 | some k=>rw [hn] at h; cases h; exact ⟨k,rfl,bS hn⟩
theorem a6u (F:V->V->V) (G:Int->Int->Int) (h:∀ a b,F (.int a) (.int b)=.int (G a b)):∀ xs ys:List Int,cF F (xs.map V.int) (ys.map V.int)=(cF G xs ys).map V.int
 | [],_=>by simp
 | _::_,[]=>by simp
 | x::xs,y::ys=>by simp [h,a6u F G h xs ys]
theorem a2X {ns:List Int} {i:Nat} (h:i<ns.length):ns.getD i 0∈ns:=by
 rw [aI,aH h]; exact cU h
section
variable {P:Program} {w:World} {K:W.Frag} {mg:Str->Option Value} {base:Heap} {f g c Pt:Addr} {fd gd:FuncData} {n:Nat} {C:Addr}
def a3J (K:W.Frag):Sp:=λ vs H Q _=>∃ (a b:Addr) (c:Nat) (d:Int) (xs ys:List Int),vs=[.ref a,.ref b,.int c,.int d]/\SqL K H a (xs.map V.int)/\SqL K H b (ys.map V.int)/\xs.length=ys.length/\xs.length<=1000/\c<xs.length ∧
 0<d/\Big 4000 d/\(∀ x∈xs,Big 4000 x)/\(∀ y∈ys,Big 4000 y)/\∀ (r:Addr) (H':Hp),Same H H'->H r=none->H' r=some (.lst ((a0p xs ys c d).map V.int))->Q (.ref r) H'
theorem scSwept:m9 ["cells","lead","column","scale","factor","pivot","fresh"] ["cells","lead","column","scale"] (i8 a5M):=⟨rfl,rfl,rfl,by decide +kernel,rfl,by decide +kernel,by decide +kernel⟩
theorem b4e:(["cell","other","scale","factor","pivot"]:List Str).Nodup:=by decide +kernel
theorem a8d (F:Fun K "swept" "swept" a5M f fd) (N:x5 mg):FnOk P w K mg base E4 (n+1) f fd ["cells","lead","column","scale"] (a3J K):=by
 refine F.ok scSwept (λ vs H Q E h=>?_) (λ cdv A outer s H vs Q E hr h=>?_)
 ·obtain ⟨a,b,c,d,xs,ys,rfl,_⟩:=h
  rfl
 obtain ⟨a,b,c,d,xs,ys,rfl,ha,hb,hl,hz,hc,hd,hD,hx,hy,k⟩:=h;refine ⟨_,i9 (o4 (i:=4) scSwept.nd rfl (dH rfl) (j9 j5 (pv 0) (pv 2) (λ _ _=>rfl)))
  (i9 (o4 (i:=5) scSwept.nd rfl (dH rfl) (j9 j5 (pv 1) (pv 2) (λ _ _=>rfl)))
  (i9 (V9 (i:=6) ["cell","other"] [3,4,5] scSwept.nd rfl rfl rfl (a8I true true K rfl rfl N.zip (a0 (pv 0) (a0 (pv 1) e9)))
   (λ _ _ _ _=>T4 K (n:=2) rfl rfl (r8 (j8 (i:=0) b4e rfl (aC rfl)) (r8 (j8 (i:=1) b4e rfl (aC rfl)) C2)))
   (λ _ _ _ _=>j4 a2g (j4 a1N (j4 a1B (pv 0) (pv 4)) (j4 a1B (pv 3) (pv 1))) (pv 2)))
  (i9 (G9 (O6 J1 (pv 4)) (U8 (pv 6) (pv 2) K5))
  (j3 (r9 (pv 6)))))),?_⟩
 have hc2:c<ys.length:=by lia
 refine ⟨_,rfl,_,rfl,a,_,_,_,rfl,rfl,ha,a4X hc,?_⟩;refine ⟨_,rfl,_,rfl,b,_,_,_,rfl,rfl,hb,a4X hc2,?_⟩;refine ⟨_,rfl,_,rfl,a,b,rfl,⟨_,ha⟩,⟨_,hb⟩,λ l hl'=>?_⟩;have up:∀ {x},Big 4000 x->Big 1000000 x:=λ h=>a7U h (by decide);refine b3S ha hb hl' (by rw [aA]; exact m8 hz) (λ u v=>.int ((vI u*ys.getD c 0 - xs.getD c 0*vI v) / d)) (λ i u v H' N' hu hv e hN=>?_) (λ H' e hH=>?_)
 ·obtain ⟨x,rfl,hxm⟩:=a0P hu
  obtain ⟨y,rfl,hym⟩:=a0P hv;have dl:d<2 ^ 8000:=by
   have h1:d.natAbs<2 ^ 4000:=hD;have h2:(2:Nat) ^ 4000<=2 ^ 8000:=gU (by decide) (by decide);have h3:d=(d.natAbs:Int):=by lia
   rw [h3]
   exact_mod_cast aR h1 h2
  refine ⟨_,rfl,_,rfl,_,_,rfl,rfl,⟨up (hx _ hxm),up (hy _ (a2X hc2))⟩,_,rfl,_,rfl,_,_,rfl,rfl,⟨up (hx _ (a2X hc)),up (hy _ hym)⟩,_,_,rfl,rfl,_,rfl,_,_,rfl,rfl,⟨hd,dl⟩,hN⟩
 ·rw [a6u _ (λ x y=>(x*ys.getD c 0 - xs.getD c 0*y) / d) (λ _ _=>rfl)] at hH
  refine ⟨_,rfl,_,rfl,?_⟩;refine ⟨_,rfl,_,rfl,l,_,_,c,rfl,rfl,hH,?_,?_⟩
  ·unfold ixN
   rw [aA,fM,if_pos (by lia),if_pos (by lia),aY]
  ·refine ⟨_,rfl,k l _ ?_ hl' ?_⟩
   ·exact λ b' o q=>by rw [c9 (d7 q hl')]; exact e b' o q
   ·rw [upd_same]
    unfold a0p;rw [<- iP]
end
structure a0f (P:Program) (w:World) (K:W.Frag) (mg:Str->Option Value) (base:Heap) (n:Nat) (x:Str) (ps:List Str) (sp:Sp) (fa:Addr) (d:FuncData):Prop where
 ok:FnOk P w K mg base E4 n fa d ps sp
 b:Binds K d ps []
 k:W.keepIn K (.ref fa)=true
 m:mg x=some (.ref fa)
theorem D6 {q:Nat} {S:Lp.Bo} {i:Nat}:(y8 q S i).length=q+1:=by unfold y8; simp
theorem a3e {q:Nat} {S:Lp.Bo} {i j:Nat} (h:j<q+1):(y8 q S i).getD j 0=S.T i j:=by
 unfold y8;rw [aI,aD,bG h]; rfl
theorem a7k {q:Nat} {S:Lp.Bo} {i r c:Nat} (hi:i≠r) (hc:c<q):a0p (y8 q S i) (y8 q S r) c S.d=y8 q (Lp.piv S r c) i:=by
 refine cK λ j=>?_;unfold a0p
 by_cases hj:j<q+1
 ·rw [a3e (by lia),a3e (by lia)]
  have e:(y8 q (Lp.piv S r c) i)[j]?=some ((Lp.piv S r c).T i j):=by unfold y8; rw [aD,bG hj]; rfl
  have hT:(Lp.piv S r c).T i j=if j=c then - S.T i c else (S.T i j*S.T r c - S.T i c*S.T r j) / S.d:=by
   show (if i=r then _ else _)=_
   rw [if_neg hi]
  rw [e,hT]
  by_cases hjc:j=c
  ·subst hjc
   rw [bV (by rw [fM,D6,D6]; lia),if_pos rfl]
  ·rw [bE (aS hjc),iQ,if_neg hjc]
   unfold y8;rw [aD,aD,bG hj]; rfl
 ·rw [bK (by rw [cA,fM,D6,D6]; lia),bK (by rw [D6]; lia)]
theorem a8j {q:Nat} {S:Lp.Bo} {r c:Nat} (hc:c<q):(((y8 q S r).map V.int).take c++[V.int S.d])++((y8 q S r).map V.int).drop (c+1)=(y8 q (Lp.piv S r c) r).map V.int:=by
 have hT:∀ j,(Lp.piv S r c).T r j=if j=c then S.d else S.T r j:=λ j=>by
  show (if r=r then _ else _)=_
  rw [if_pos rfl]
 have hl:((y8 q S r).map V.int).length=q+1:=by rw [aA,D6]
 refine cK λ j=>?_
 by_cases hj:j<q+1
 ·have e:((y8 q (Lp.piv S r c) r).map V.int)[j]?=some (.int (if j=c then S.d else S.T r j)):=by
   rw [aD]; unfold y8; rw [aD,bG hj,<- hT]; rfl
  have e0:((y8 q S r).map V.int)[j]?=some (.int (S.T r j)):=by
   rw [aD]; unfold y8; rw [aD,bG hj]; rfl
  rw [e];have lt:(((y8 q S r).map V.int).take c).length=c:=by rw [cI,hl]; lia
  by_cases h1:j<c
  ·rw [bO (by rw [aM,lt]; lia),bO (by lia),jD h1,e0,if_neg (by lia)]
  ·by_cases h2:j=c
   ·subst h2
    rw [bO (by rw [aM,lt]; simp),bZ (by lia),lt,fQ,if_pos rfl]; rfl
   ·rw [bZ (by rw [aM,lt]; simp; lia),aM,lt,jX,if_neg h2]
    have:c+1+(j - (c+[V.int S.d].length))=j:=by simp; lia
    rw [this,e0]
 ·rw [bK (by rw [aM,aM,cI,dE,hl]; simp; lia),bK (by rw [aA,D6]; lia)]
theorem b0e {m:Nat} {S:Lp.Bo} {r c:Nat} (hr:r<m):((P5 m S).map V.int).set r (.int (S.outs c))=(P5 m (Lp.piv S r c)).map V.int:=by
 refine cK λ j=>?_;have hT:(Lp.piv S r c).ins j=if j=r then S.outs c else S.ins j:=rfl
 by_cases hj:j<m
 ·have e:((P5 m (Lp.piv S r c)).map V.int)[j]?=some (.int ((if j=r then S.outs c else S.ins j:Nat))):=by
   rw [aD]; unfold P5; rw [aD,bG hj,<- hT]; rfl
  rw [e]
  by_cases h:j=r
  ·subst h
   rw [bV (by unfold P5; simp; lia),if_pos rfl]
  ·rw [bE (aS h),if_neg h,aD]
   unfold P5; rw [aD,bG hj]; rfl
 ·rw [bK (by unfold P5; simp; lia),bK (by unfold P5; simp; lia)]
theorem a8G {q:Nat} {S:Lp.Bo} {r c:Nat} (hc:c<q):((K8 q S).map V.int).set c (.int (S.ins r))=(K8 q (Lp.piv S r c)).map V.int:=by
 refine cK λ j=>?_;have hT:(Lp.piv S r c).outs j=if j=c then S.ins r else S.outs j:=rfl
 by_cases hj:j<q
 ·have e:((K8 q (Lp.piv S r c)).map V.int)[j]?=some (.int ((if j=c then S.ins r else S.outs j:Nat))):=by
   rw [aD]; unfold K8; rw [aD,bG hj,<- hT]; rfl
  rw [e]
  by_cases h:j=c
  ·subst h
   rw [bV (by unfold K8; simp; lia),if_pos rfl]
  ·rw [bE (aS h),if_neg h,aD]
   unfold K8; rw [aD,bG hj]; rfl
 ·rw [bK (by unfold K8; simp; lia),bK (by unfold K8; simp; lia)]
theorem a1V {n i:Nat} (h:i<n):ixN n (i:Int)=some i:=by
 unfold ixN;rw [if_pos (by lia),if_pos (by lia),aY]
section
variable {P:Program} {w:World} {K:W.Frag} {mg:Str->Option Value} {base:Heap} {f g c Pt:Addr} {fd gd:FuncData} {n:Nat} {C:Addr}
def a2s (C:Addr):Sp:=λ vs H Q _=>∃ (p dx ca oa ia:Addr) (rs:List Addr) (m q:Nat) (S:Lp.Bo) (r c:Nat),vs=[.ref p,.int r,.int c]/\Bd C H p dx ca oa ia rs m q S/\Sz 4000 m q S/\r<m/\c<q/\m<900/\q<900/\0<S.d ∧
 ∀ (H':Hp) (ca':Addr) (rs':List Addr),Bd C H' p dx ca' oa ia rs' m q (Lp.piv S r c)->(∀ b o,b≠p->b≠oa->b≠ia->H b=some o->H' b=some o)->Q .non H'
theorem scEx:m9 ["self","row","column","lead","pivot"] ["self","row","column"] (i8 O3):=⟨rfl,rfl,rfl,by decide +kernel,rfl,by decide +kernel,by decide +kernel⟩
theorem b4z:(["cells","self","column","lead"]:List Str).Nodup:=by decide +kernel
noncomputable def exT {cdv:Value} {A:Around} {outer:List Env} {s:Shared} {H:Hp} {E:XK} {fb:Addr} {db:FuncData} (Cs:a0f P w K mg base n "swept" ["cells","lead","column","scale"] (a3J K) fb db)
  (hr:Room n (A.deeper (dC "Board.exchange" (i8 O3) s.heap.objs.size f cdv))) :
  { t:TS // PSs (K1 E4 P w K mg base ["self","row","column","lead","pivot"] "Board.exchange" (i8 O3) f cdv A outer s H E).nox (w4 O3) t } :=
 ⟨_,i9 (o4 (i:=3) scEx.nd rfl (dH rfl) (j9 j5 (t7 (pv 0) rfl) (pv 1) (λ _ _=>rfl)))
  (i9 (o4 (i:=4) scEx.nd rfl (aC rfl) (j9 j5 (pv 3) (pv 2) (λ _ _=>rfl)))
  (p7 (G7 (pv 0) (V2 ["cells"] [0,2,3] rfl (M4 (t7 (pv 0) rfl)) (λ _ _ _ _=>j8 (i:=0) b4z rfl (aC rfl))
   (λ _ _ _ _=>o6 Cs.ok hr rfl Cs.m Cs.k Cs.b .nil w6 (a0 (pv 0) (a0 (pv 3) (a0 (pv 2) (a0 (a1K K rfl (pv 1) rfl) e9)))))) rfl)
  (i9 (G9 (j4 C5 (j4 C5 (G3 P9 (pv 3) P8 (G4 (pv 2))) (u9 (a0 (t7 (pv 0) rfl) e9))) (G3 P9 (pv 3) (G4 (j4 C4 (pv 2) h8)) P8)) (U8 (t7 (pv 0) rfl) (pv 1) K5))
  (i9 (G7 (pv 0) (pv 4) rfl)
  (j3 (G9 (D4 (a0 (j9 j5 (t7 (pv 0) rfl) (pv 2) (λ _ _=>rfl)) (a0 (j9 j5 (t7 (pv 0) rfl) (pv 1) (λ _ _=>rfl)) e9)))
   (T8 rfl (r8 (U8 (t7 (pv 0) rfl) (pv 1) K5) (r8 (U8 (t7 (pv 0) rfl) (pv 2) K5) C2)))))))))⟩
end
def a4e:V->Addr
 | .ref a=>a
 | _=>0
section
variable {P:Program} {w:World} {K:W.Frag} {mg:Str->Option Value} {base:Heap} {f g c Pt:Addr} {fd gd:FuncData} {n:Nat} {C:Addr}
theorem a4x {m q i:Nat} {S:Lp.Bo} (h:Sz 4000 m q S) (hi:i<m+1):∀ x∈y8 q S i,Big 4000 x:=λ x hx=>by
 unfold y8 at hx;obtain ⟨j,hj,rfl⟩:=bA.mp hx;exact h.1 i j hi (cS.mp hj)
theorem a4M {fb:Addr} {db:FuncData} (F:Fun K "exchange" "Board.exchange" O3 f fd) (T:TB K C) (Cs:a0f P w K mg base n "swept" ["cells","lead","column","scale"] (a3J K) fb db) :
  FnOk P w K mg base E4 (n+1) f fd ["self","row","column"] (a2s C):=by
 refine F.ok scEx (λ vs H Q E h=>?_) (λ cdv A outer s H vs Q E hr h=>?_)
 ·obtain ⟨p,dx,ca,oa,ia,rs,m,q,S,r,c,rfl,_⟩:=h
  rfl
 obtain ⟨p,dx,ca,oa,ia,rs,m,q,S,r,c,rfl,B,hz,hrm,hc,hm,hq,hd,k⟩:=h;refine ⟨_,(exT Cs hr).2,?_⟩;obtain ⟨rl,er,ar⟩:=B.rs_at (i:=r) (by lia);have hrl:=B.row r rl er;have nrl:rl≠p:=y9 hrl B.obj (by intro z; cases z);have noa:oa≠p:=y9 B.out B.obj (by intro z; cases z);have nia:ia≠p:=y9 B.inn B.obj (by intro z; cases z);refine ⟨_,rfl,p,C,dx,_,_,rfl,B.obj,T.cl,T.nC,rfl,_,rfl,ca,_,_,_,rfl,rfl,SqL.of B.cel,ar,?_⟩;refine ⟨_,rfl,_,rfl,rl,_,_,_,rfl,rfl,SqL.of hrl,Y4 (by lia),?_⟩;refine ⟨λ σ' H3=>∃ (l:Addr) (rs':List Addr),σ'=[some (.ref p),some (.int r),some (.int c),some (.ref rl),some (.int (S.T r c))]/\H3 p=some (.ins C dx (bdF q S.d l oa ia))/\H3 l=some (.lst (rs'.map V.ref))/\rs'.length=m+1/\H l=none ∧
  (∀ i a,rs'[i]?=some a->H a=none/\a≠l/\H3 a=some (.lst ((a0p (y8 q S i) (y8 q S r) c S.d).map V.int)))/\∀ b o,b≠p->H b=some o->H3 b=some o,?_,?_⟩
 ·refine ⟨_,rfl,p,C,dx,_,_,rfl,B.obj,T.cl,T.nC,rfl,ca,rfl,⟨_,SqL.of B.cel⟩,λ l hl=>?_⟩
  refine a3T (J5 (SqL.of B.cel)) hl (by rw [aA,B.len]; exact m8 (by lia)) (λ i y H2=>∃ a,y=.ref a/\H a=none/\a≠l/\H2 a=some (.lst ((a0p (y8 q S i) (y8 q S r) c S.d).map V.int)))
   (λ i y H2 H3 ⟨a,h1,h2,h3,h4⟩ e=>⟨a,h1,h2,h3,e a _ h3 h4⟩) (λ i x H2 ys N hx e hl2 hN=>?_) (λ ys H2 e hl2 len pr=>?_)
  ·rw [aD] at hx
   cases hri:rs[i]? with
   | none=>rw [hri] at hx; cases hx
   | some a =>
    rw [hri] at hx;have hx':V.ref a=x:=aL hx;subst hx';have hi:i<m+1:=by rw [<- B.len]; exact (bQ.mp hri).1
    refine ⟨Wk.set (by decide),?_⟩;refine ⟨_,rfl,_,rfl,_,rfl,_,rfl,p,C,dx,_,_,rfl,e _ _ B.obj,T.cl,T.nS,rfl,?_⟩;refine ⟨a,rl,c,S.d,y8 q S i,y8 q S r,rfl,SqL.of (e _ _ (B.row i a hri)),SqL.of (e _ _ hrl),by rw [D6,D6],by rw [D6]; lia,by rw [D6]; lia,hd,hz.2,a4x hz hi,a4x hz (by lia),λ r' H3 s3 hn hr'=>?_⟩;refine hN _ _ s3 ⟨r',rfl,?_,λ z=>?_,hr'⟩
    ·cases q1:H r' with
     | none=>rfl
     | some o=>rw [e _ _ q1] at hn; cases hn
    ·rw [z,hl2] at hn; cases hn
  ·have hp2:=e _ _ B.obj
   have nlp:p≠l:=d7 B.obj hl;refine ⟨_,rfl,p,C,dx,_,rfl,hp2,T.cl,T.nC,(by show 5<1000; decide),?_⟩;have hys:ys=(ys.map a4e).map V.ref:=by
    rw [aQ];refine cK λ i=>?_;rw [aD]
    cases qi:ys[i]? with
    | none=>rfl
    | some y =>
     obtain ⟨a,rfl,_⟩:=pr i y qi;rfl
   refine ⟨l,ys.map a4e,rfl,upd_same,by rw [c9 nlp.symm,hl2]; rw [<- hys],by rw [aA,len,aA,B.len],hl,λ i a hi=>?_,λ b o hb hbo=>by rw [c9 hb]; exact e _ _ hbo⟩;rw [aD] at hi
   cases qi:ys[i]? with
   | none=>rw [qi] at hi; cases hi
   | some y =>
    obtain ⟨a',rfl,h2,h3,h4⟩:=pr i y qi;rw [qi] at hi;have:a'=a:=aL hi;subst this;refine ⟨h2,h3,?_⟩;rw [c9 (λ z=>by rw [z,hp2] at h4; cases h4)];exact h4
 ·intro σ' H3 hM_; refine X1 λ G_ hG_=>?_; obtain ⟨l,rs',rfl,hp,hl,hlen,hl0,hrs,hk⟩:=hM_; subst hG_
  have hr3:=hk rl _ nrl hrl;have lr:((y8 q S r).map V.int).length=q+1:=by rw [aA,D6]
  refine ⟨_,rfl,_,rfl,_,rfl,rl,_,rfl,SqL.of hr3,λ a1 h1=>?_⟩;have e1:=Same.new h1 (.lst (E8 ((y8 q S r).map V.int) none (some (c:Int))));refine ⟨_,rfl,p,C,dx,_,_,rfl,e1 _ _ hp,T.cl,T.nS,rfl,(by show 1<=sizeLine; decide),λ a2 h2=>?_⟩;have e2:=e1.trans (Same.new h2 (.lst [.int S.d]));have n12:a1≠a2:=d7 upd_same h2;refine ⟨a1,a2,_,_,rfl,rfl,(by rw [c9 n12]; exact upd_same),upd_same,?_,λ a3 h3=>?_⟩
  ·rw [a3s _ _ (by rw [lr]; lia),cI,lr]
   have:=m8 (show c+1<=1000 by lia);simp;lia
  have e3:=e2.trans (Same.new h3 (.lst (E8 ((y8 q S r).map V.int) none (some (c:Int))++[.int S.d])));refine ⟨_,rfl,_,rfl,_,_,rfl,rfl,_,rfl,rl,_,rfl,SqL.of (e3 _ _ hr3),λ a4 h4=>?_⟩;have e4:=e3.trans (Same.new h4 (.lst (E8 ((y8 q S r).map V.int) (some ((c:Int)+1)) none)));have n34:a3≠a4:=d7 upd_same h4;have c1:E8 ((y8 q S r).map V.int) none (some (c:Int))=((y8 q S r).map V.int).take c:=a3s _ _ (by rw [lr]; lia);have c2:E8 ((y8 q S r).map V.int) (some ((c:Int)+1)) none=((y8 q S r).map V.int).drop (c+1):=by
   have:=a0A ((y8 q S r).map V.int) (c+1) (by rw [lr]; lia);rw [<- this]; rfl
  refine ⟨a3,a4,_,_,rfl,rfl,(by rw [c9 n34]; exact upd_same),upd_same,?_,λ a5 h5=>?_⟩
  ·rw [c1,c2,aM,cI,dE,lr]
   have:=m8 (show q+1<=1000 by lia);simp;lia
  have hrow:(E8 ((y8 q S r).map V.int) none (some (c:Int))++[.int S.d])++E8 ((y8 q S r).map V.int) (some ((c:Int)+1)) none=(y8 q (Lp.piv S r c) r).map V.int:=by rw [c1,c2,a8j hc]
  have h5n:H3 a5=none:=by
   cases z:H3 a5 with
   | none=>rfl
   | some o=>rw [e4 _ _ z] at h5; cases h5
  have e5:=e4.trans (Same.new h5 (.lst ((E8 ((y8 q S r).map V.int) none (some (c:Int))++[.int S.d])++E8 ((y8 q S r).map V.int) (some ((c:Int)+1)) none)));have u5:∀ H4:Hp,r6 H4 a5 (.lst ((E8 ((y8 q S r).map V.int) none (some (c:Int))++[.int S.d])++E8 ((y8 q S r).map V.int) (some ((c:Int)+1)) none)) a5=some (.lst ((y8 q (Lp.piv S r c) r).map V.int)):=λ H4=>upd_same.trans (congrArg (λ z=>some (HO.lst z)) hrow);have oa3:=hk oa _ noa B.out;have ia3:=hk ia _ nia B.inn;have nlp:l≠p:=(d7 B.obj hl0).symm;have nlo:l≠oa:=(d7 B.out hl0).symm;have nli:l≠ia:=(d7 B.inn hl0).symm;have n5p:a5≠p:=(d7 hp h5n).symm;have n5l:a5≠l:=(d7 hl h5n).symm;have n5o:a5≠oa:=(d7 oa3 h5n).symm;have n5i:a5≠ia:=(d7 ia3 h5n).symm;have lrs:(rs'.map V.ref).length=m+1:=by rw [aA]; exact hlen
  refine ⟨_,rfl,p,C,dx,_,_,rfl,e5 _ _ hp,T.cl,T.nC,rfl,_,rfl,l,_,_,r,rfl,rfl,e5 _ _ hl,a1V (by rw [lrs]; lia),?_⟩;refine ⟨_,rfl,_,rfl,p,C,dx,_,rfl,(by rw [c9 nlp.symm]; exact e5 _ _ hp),T.cl,T.nS,(by show 5<1000; decide),?_⟩;refine ⟨_,rfl,p,C,dx,_,_,rfl,upd_same,T.cl,T.nO,rfl,_,rfl,oa,_,_,_,rfl,rfl,SqL.of (by rw [c9 noa,c9 nlo.symm]; exact e5 _ _ oa3),a2y hc,?_⟩;refine ⟨_,rfl,p,C,dx,_,_,rfl,upd_same,T.cl,T.nI,rfl,_,rfl,ia,_,_,_,rfl,rfl,SqL.of (by rw [c9 nia,c9 nli.symm]; exact e5 _ _ ia3),a1z hrm,(by show 2<=sizeLine; decide),λ t ht=>?_⟩;have ntp:t≠p:=(d7 upd_same ht).symm;have ntl:t≠l:=by
   refine (d7 (H:=_) (o:=.lst ((rs'.map V.ref).set r (.ref a5))) ?_ ht).symm;rw [c9 nlp,upd_same]
  have nto:t≠oa:=by
   refine (d7 (H:=_) (o:=.lst ((K8 q S).map V.int)) ?_ ht).symm;rw [c9 noa,c9 nlo.symm]; exact e5 _ _ oa3
  have nti:t≠ia:=by
   refine (d7 (H:=_) (o:=.lst ((P5 m S).map V.int)) ?_ ht).symm;rw [c9 nia,c9 nli.symm]; exact e5 _ _ ia3
  refine ⟨t,_,rfl,SqT.of upd_same,rfl,?_⟩;refine ⟨_,_,rfl,_,rfl,p,C,dx,_,_,rfl,(by rw [c9 ntp.symm]; exact upd_same),T.cl,T.nI,rfl,_,rfl,ia,_,_,r,rfl,rfl,(by rw [c9 nti.symm,c9 nia,c9 nli.symm]; exact e5 _ _ ia3),a1V (by unfold P5; simp; lia),?_⟩;refine ⟨_,_,rfl,_,rfl,p,C,dx,_,_,rfl,(by rw [c9 nia.symm,c9 ntp.symm]; exact upd_same),T.cl,T.nO,rfl,_,rfl,oa,_,_,c,rfl,rfl,(by rw [c9 B.ne,c9 nto.symm,c9 noa,c9 nlo.symm]; exact e5 _ _ oa3),a1V (by unfold K8; simp; lia),rfl,?_⟩;refine k _ l (rs'.set r a5) ⟨?_,?_,by rw [cA]; exact hlen,λ i a hi=>?_,?_,?_,B.ne⟩ λ b o hb hbo hbi hH=>?_
  ·rw [c9 noa.symm,c9 nia.symm,c9 ntp.symm,upd_same]; rfl
  ·rw [c9 nlo,c9 nli,c9 ntl.symm,c9 nlp,upd_same,iP]
  ·by_cases hir:i=r
   ·subst hir
    rw [bV (by rw [hlen]; lia)] at hi;have:a5=a:=aL hi;subst this;have n5t:a5≠t:=by
     refine d7 (H:=_) (o:=.lst ((y8 q (Lp.piv S i c) i).map V.int)) ?_ ht;rw [c9 n5p,c9 n5l]; exact u5 _
    rw [c9 n5o,c9 n5i,c9 n5t,c9 n5p,c9 n5l];exact u5 _
   ·rw [bE (aS hir)] at hi
    obtain ⟨g1,g2,g3⟩:=hrs i a hi;have nap:a≠p:=(d7 B.obj g1).symm;have nao:a≠oa:=(d7 B.out g1).symm;have nai:a≠ia:=(d7 B.inn g1).symm;have g5:=e5 _ _ g3;have nat:a≠t:=by
     refine d7 (H:=_) (o:=.lst ((a0p (y8 q S i) (y8 q S r) c S.d).map V.int)) ?_ ht;rw [c9 nap,c9 g2]; exact g5
    rw [c9 nao,c9 nai,c9 nat,c9 nap,c9 g2,<- a7k hir hc];exact g5
  ·rw [upd_same,a8G hc]
  ·rw [c9 B.ne.symm,upd_same,b0e hrm]
  ·have h3:=hk b o hb hH
   have nbl:b≠l:=d7 hH hl0;have nbt:b≠t:=by
    refine d7 (H:=_) (o:=o) ?_ ht;rw [c9 hb,c9 nbl]; exact e5 _ _ h3
   rw [c9 hbo,c9 hbi,c9 nbt,c9 hb,c9 nbl];exact e5 _ _ h3
end
theorem a2D {g:Nat->Int}:∀ {n:Nat},(∀ k,k<n->g k=0)->Lp.sumTo g n=0
 | 0,_=>rfl
 | n+1,h=>by
  show Lp.sumTo g n+g n=0
  rw [a2D λ k hk=>h k (by lia),h n (by lia)]; rfl
def a9S (q:Nat) (S:Lp.Bo) (k v:Nat):Int:=Lp.sumTo (λ i=>if S.ins i=v then S.T i q else 0) k
def a6d (m:Nat) (S:Lp.Bo) (k v:Nat):Int:=Lp.sumTo (λ j=>if S.outs j=v then S.T m j else 0) k
def u0 (m q:Nat) (S:Lp.Bo):List Int:=(aE q).map λ v=>Lp.valIn m S q v
def K7 (m q:Nat) (S:Lp.Bo):List Int:=(aE m).map λ i=>Lp.valOut m q S (q+i)
theorem a4m (k:Nat):(aG k [V.int 0]).flatten=(aE k).map λ _=>V.int 0:=by
 induction k with
 | zero=>rfl
 | succ k ih=>rw [List.replicate_succ',List.flatten_append,ih,fR,bC]; rfl
theorem a8T {n v:Nat} {F G:Nat->Int} {x:Int} (hv:G v=x) (h:∀ u,u<n->u≠v->F u=G u):((aE n).map λ u=>V.int (F u)).set v (.int x)=(aE n).map λ u=>V.int (G u):=by
 refine cK λ j=>?_
 by_cases hj:j<n
 ·by_cases e:j=v
  ·subst e
   rw [bV (by simp; lia),aD,bG hj,fD,hv]
  ·rw [bE (aS e),aD,aD,bG hj,fD,fD,h j hj e]
 ·rw [bK (by simp; lia),bK (by simp; lia)]
section
variable {P:Program} {w:World} {K:W.Frag} {mg:Str->Option Value} {base:Heap} {f g c Pt:Addr} {fd gd:FuncData} {n:Nat} {C:Addr}
def a8X (C:Addr):Sp:=λ vs H Q _=>∃ (p dx ca oa ia:Addr) (rs:List Addr) (m q:Nat) (S:Lp.Bo),vs=[.ref p]/\Bd C H p dx ca oa ia rs m q S/\m<900/\q<900/\(∀ i k,i<m->k<m->S.ins i=S.ins k->i=k) ∧
 ∀ (r:Addr) (H':Hp),Same H H'->H r=none->H' r=some (.lst ((u0 m q S).map V.int))->Q (.ref r) H'
theorem scAmts:m9 ["self","told","row","number"] ["self"] (i8 a9u):=⟨rfl,rfl,rfl,by decide +kernel,rfl,by decide +kernel,by decide +kernel⟩
theorem b0F (F:Fun K "amounts" "Board.amounts" a9u f fd) (N:x5 mg) (T:TB K C):FnOk P w K mg base E4 (n+1) f fd ["self"] (a8X C):=by
 refine F.ok scAmts (λ vs H Q E h=>?_) (λ cdv A outer s H vs Q E hr h=>?_)
 ·obtain ⟨p,dx,ca,oa,ia,rs,m,q,S,rfl,_⟩:=h
  rfl
 obtain ⟨p,dx,ca,oa,ia,rs,m,q,S,rfl,B,hm,hq,inj,k⟩:=h;refine ⟨_,i9 (o4 (i:=1) scAmts.nd rfl (aC rfl) (j4 W4 (u9 (a0 h8 e9)) (t7 (pv 0) rfl)))
  (i9 (W3 PassesOwn.never rfl (a6h K rfl rfl N.enum (a0 (t7 (pv 0) rfl) e9)) (T4 K (n:=2) rfl rfl (r8 (j8 (i:=2) scAmts.nd rfl (aC rfl)) (r8 (j8 (i:=3) scAmts.nd rfl (aC rfl)) C2)))
   (j3 (A4 (t9 a1p (pv 3) (t7 (pv 0) rfl) (p6 _)) (j3 (G9 (j9 j5 (j9 j5 (t7 (pv 0) rfl) (pv 2) (λ _ _=>rfl)) (O6 J1 h8) (λ _ _=>rfl)) (U8 (pv 1) (pv 3) K5))) v8)))
  (j3 (r9 (pv 1)))),?_⟩
 have sl:=m8 (show q<=1000 by lia);refine ⟨(by show 1<=sizeLine; decide),λ z hz=>?_⟩;have ez:=Same.new hz (.lst [.int 0]);refine ⟨_,rfl,p,C,dx,_,_,rfl,ez _ _ B.obj,T.cl,T.nM,rfl,z,_,_,rfl,rfl,upd_same,(by lia),(by lia),(by rw [aY]; simp; lia),λ tl htl=>?_⟩;rw [aY,a4m];have htn:H tl=none:=by
  cases q1:H tl with
  | none=>rfl
  | some o=>rw [ez _ _ q1] at htl; cases htl
 have e0:Same H (r6 (r6 H z (.lst [.int 0])) tl (.lst ((aE q).map λ _=>V.int 0))):=ez.write htn;refine ⟨_,rfl,p,C,dx,_,_,rfl,e0 _ _ B.obj,T.cl,T.nI,rfl,ia,rfl,⟨_,SqL.of (e0 _ _ B.inn)⟩,?_⟩;have li:((P5 m S).map V.int).length=m:=by unfold P5; simp
 refine a4H (xs:=(P5 m S).map V.int) (i1:=2) (i2:=3) (λ j σ H'=>∃ o2 o3:Option V,σ=[some (.ref p),some (.ref tl),o2,o3]/\Same H H'/\H' tl=some (.lst ((aE q).map λ v=>V.int (a9S q S j v))))
  ⟨_,_,rfl,e0,by rw [upd_same]; rfl⟩ (λ j σ H' ⟨_,_,_,e,_⟩=>SqL.of (e _ _ B.inn)) ?_ ?_
 ·rintro j x σ H1 qq hx ⟨o2,o3,rfl,e1,ht⟩ hqq
  have hj:j<m:=by rw [<- li]; exact (bQ.mp hx).1
  have hx':x=.int (S.ins j):=by
   have:=(D9 hx).symm.trans (a1z (S:=S) hj);exact aL this
  subst hx';have s1:=Same.new hqq (.tup [V.int (j:Int),.int (S.ins j)]);have e2:=e1.trans s1;have ht2:=s1 _ _ ht;refine ⟨_,rfl,_,rfl,p,C,dx,_,_,rfl,e2 _ _ B.obj,T.cl,T.nM,rfl,_,_,rfl,rfl,_,rfl,?_⟩;have st:∀ v,a9S q S (j+1) v=a9S q S j v+(if S.ins j=v then S.T j q else 0):=λ v=>rfl;refine D0 (λ d=>?_) (λ d=>?_)
  ·have d':S.ins j<q:=by have:=of_decide_eq_true d; lia
   obtain ⟨rj,erj,arj⟩:=B.rs_at (i:=j) (by lia);refine ⟨_,rfl,p,C,dx,_,_,rfl,e2 _ _ B.obj,T.cl,T.nC,rfl,_,rfl,ca,_,_,_,rfl,rfl,SqL.of (e2 _ _ B.cel),arj,_,rfl,rj,_,_,_,rfl,rfl,SqL.of (e2 _ _ (B.row j rj erj)),Y9,?_⟩;refine ⟨_,rfl,_,rfl,tl,_,_,S.ins j,rfl,rfl,ht2,a1V (by simp; lia),?_⟩;refine ⟨_,_,rfl,e2.write htn,?_⟩;rw [upd_same]
   congr 2
   refine a8T ?_ λ u hu hne=>?_
   ·rw [st,if_pos rfl]
    have:a9S q S j (S.ins j)=0:=a2D λ i hi=>if_neg λ z=>absurd (inj i j (by lia) hj z) (by lia);rw [this]; lia
   ·rw [st,if_neg (aS hne)]; lia
  ·have d':¬ S.ins j<q:=λ z=>d (decide_eq_true (by lia))
   refine ⟨_,_,rfl,e2,?_⟩;rw [ht2]
   congr 2
   refine cW λ v hv=>?_;rw [st,if_neg (λ z=>d' (by rw [z]; exact cS.mp hv)),dR]
 ·intro σ H1 hM_; refine X1 λ G_ hG_=>?_; obtain ⟨o2,o3,rfl,e1,ht⟩:=hM_; subst hG_
  rw [li] at ht;refine ⟨_,rfl,k tl H1 e1 htn ?_⟩;rw [ht];unfold u0;rw [aQ]; rfl
def b1s (C:Addr):Sp:=λ vs H Q _=>∃ (p dx ca oa ia:Addr) (rs:List Addr) (m q:Nat) (S:Lp.Bo),vs=[.ref p]/\Bd C H p dx ca oa ia rs m q S/\m<900/\q<900/\(∀ j k,j<q->k<q->S.outs j=S.outs k->j=k)/\(∀ j,j<q->S.outs j<q+m) ∧
 ∀ (r:Addr) (H':Hp),Same H H'->H r=none->H' r=some (.lst ((K7 m q S).map V.int))->Q (.ref r) H'
theorem scWts:m9 ["self","told","column","number"] ["self"] (i8 b2r):=⟨rfl,rfl,rfl,by decide +kernel,rfl,by decide +kernel,by decide +kernel⟩
theorem b1X (F:Fun K "weights" "Board.weights" b2r f fd) (N:x5 mg) (T:TB K C):FnOk P w K mg base E4 (n+1) f fd ["self"] (b1s C):=by
 refine F.ok scWts (λ vs H Q E h=>?_) (λ cdv A outer s H vs Q E hr h=>?_)
 ·obtain ⟨p,dx,ca,oa,ia,rs,m,q,S,rfl,_⟩:=h
  rfl
 obtain ⟨p,dx,ca,oa,ia,rs,m,q,S,rfl,B,hm,hq,inj,ob,k⟩:=h;refine ⟨_,i9 (o4 (i:=1) scWts.nd rfl (aC rfl) (j4 W4 (u9 (a0 h8 e9)) (j6 j7 rfl N.len bB (a0 (t7 (pv 0) rfl) e9))))
  (i9 (W3 PassesOwn.never rfl (a6h K rfl rfl N.enum (a0 (t7 (pv 0) rfl) e9)) (T4 K (n:=2) rfl rfl (r8 (j8 (i:=2) scWts.nd rfl (aC rfl)) (r8 (j8 (i:=3) scWts.nd rfl (aC rfl)) C2)))
   (j3 (A4 (t9 a8n (pv 3) (t7 (pv 0) rfl) (p6 _)) (j3 (G9 (j9 j5 (j9 j5 (t7 (pv 0) rfl) (O6 J1 h8) (λ _ _=>rfl)) (pv 2) (λ _ _=>rfl)) (U8 (pv 1) (j4 a1N (pv 3) (t7 (pv 0) rfl)) K5))) v8)))
  (j3 (r9 (pv 1)))),?_⟩
 have sl:=m8 (show m<=1000 by lia);have li:((P5 m S).map V.int).length=m:=by unfold P5; simp
 have lo:((K8 q S).map V.int).length=q:=by unfold K8; simp
 refine ⟨(by show 1<=sizeLine; decide),λ z hz=>?_⟩;have ez:=Same.new hz (.lst [.int 0]);refine ⟨_,rfl,p,C,dx,_,_,rfl,ez _ _ B.obj,T.cl,T.nI,rfl,ia,_,rfl,.inl (SqL.of (ez _ _ B.inn)),z,_,_,rfl,rfl,upd_same,(by lia),(by lia),(by rw [li,aY]; simp; lia),λ tl htl=>?_⟩;rw [li,aY,a4m];have htn:H tl=none:=by
  cases q1:H tl with
  | none=>rfl
  | some o=>rw [ez _ _ q1] at htl; cases htl
 have e0:Same H (r6 (r6 H z (.lst [.int 0])) tl (.lst ((aE m).map λ _=>V.int 0))):=ez.write htn;refine ⟨_,rfl,p,C,dx,_,_,rfl,e0 _ _ B.obj,T.cl,T.nO,rfl,oa,rfl,⟨_,SqL.of (e0 _ _ B.out)⟩,?_⟩;refine a4H (xs:=(K8 q S).map V.int) (i1:=2) (i2:=3) (λ j σ H'=>∃ o2 o3:Option V,σ=[some (.ref p),some (.ref tl),o2,o3]/\Same H H'/\H' tl=some (.lst ((aE m).map λ v=>V.int (a6d m S j (q+v)))))
  ⟨_,_,rfl,e0,by rw [upd_same]; rfl⟩ (λ j σ H' ⟨_,_,_,e,_⟩=>SqL.of (e _ _ B.out)) ?_ ?_
 ·rintro j x σ H1 qq hx ⟨o2,o3,rfl,e1,ht⟩ hqq
  have hj:j<q:=by rw [<- lo]; exact (bQ.mp hx).1
  have hx':x=.int (S.outs j):=by
   have:=(D9 hx).symm.trans (a2y (S:=S) hj);exact aL this
  subst hx';have s1:=Same.new hqq (.tup [V.int (j:Int),.int (S.outs j)]);have e2:=e1.trans s1;have ht2:=s1 _ _ ht;refine ⟨_,rfl,_,rfl,p,C,dx,_,_,rfl,e2 _ _ B.obj,T.cl,T.nM,rfl,_,_,rfl,rfl,_,rfl,?_⟩;have st:∀ v,a6d m S (j+1) v=a6d m S j v+(if S.outs j=v then S.T m j else 0):=λ v=>rfl;have hob:=ob j hj;refine D0 (λ d=>?_) (λ d=>?_)
  ·have d':q<=S.outs j:=by have:=of_decide_eq_true d; lia
   obtain ⟨rm,erm,arm⟩:=B.rs_last;refine ⟨_,rfl,p,C,dx,_,_,rfl,e2 _ _ B.obj,T.cl,T.nC,rfl,_,rfl,ca,_,_,_,rfl,rfl,SqL.of (e2 _ _ B.cel),arm,_,rfl,rm,_,_,_,rfl,rfl,SqL.of (e2 _ _ (B.row m rm erm)),Y4 (by lia),?_⟩;refine ⟨_,rfl,_,rfl,_,rfl,p,C,dx,_,_,rfl,e2 _ _ B.obj,T.cl,T.nM,rfl,_,_,rfl,rfl,tl,_,_,S.outs j - q,rfl,rfl,ht2,?_,?_⟩
   ·rw [show ((S.outs j:Int) - (q:Int))=((S.outs j - q:Nat):Int) by lia]
    exact a1V (by simp; lia)
   refine ⟨_,_,rfl,e2.write htn,?_⟩;rw [upd_same]
   congr 2
   refine a8T ?_ λ u hu hne=>?_
   ·rw [st,if_pos (by lia)]
    have:a6d m S j (q+(S.outs j - q))=0:=a2D λ i hi=>if_neg λ z=>absurd (inj i j (by lia) hj (by lia)) (by lia);rw [this]; lia
   ·rw [st,if_neg (by lia)]; lia
  ·have d':¬ q<=S.outs j:=λ z=>d (decide_eq_true (by lia))
   refine ⟨_,_,rfl,e2,?_⟩;rw [ht2]
   congr 2
   refine cW λ v hv=>?_;rw [st,if_neg (by lia),dR]
 ·intro σ H1 hM_; refine X1 λ G_ hG_=>?_; obtain ⟨o2,o3,rfl,e1,ht⟩:=hM_; subst hG_
  rw [lo] at ht;refine ⟨_,rfl,k tl H1 e1 htn ?_⟩;rw [ht];unfold K7;rw [aQ]; rfl
end
def V4 (rows:List (List Int)):Nat->Nat->Int:=λ i j=>(rows.getD i []).getD j 0
def G8 (l:List Int):Nat->Int:=λ i=>l.getD i 0
abbrev RowsL (K:W.Frag) (H:Hp):List V->List (List Int)->Prop:=aN λ v row=>∃ a,v=.ref a/\SqL K H a (row.map V.int)
section
variable {P:Program} {w:World} {K:W.Frag} {mg:Str->Option Value} {base:Heap} {f g c Pt:Addr} {fd gd:FuncData} {n:Nat} {C:Addr}
def a8p (K:W.Frag) (C:Addr):Sp:=λ vs H Q _=>∃ (p dx ga ra ba:Addr) (goal:List Int) (rvs:List V) (rows:List (List Int)) (bounds:List Int) (m q:Nat),vs=[.ref p,.ref ga,.ref ra,.ref ba]/\H p=some (.ins C dx [])/\SqL K H ga (goal.map V.int)/\SqL K H ra rvs ∧
 RowsL K H rvs rows/\SqL K H ba (bounds.map V.int)/\rows.length=m/\bounds.length=m/\goal.length=q/\(∀ r∈rows,r.length=q)/\m<900/\q<900 ∧
 ∀ (H':Hp) (ca oa ia:Addr) (rs:List Addr),Bd C H' p dx ca oa ia rs m q (Lp.S0 m q (V4 rows) (G8 bounds) (G8 goal))->(∀ b o,b≠p->H b=some o->H' b=some o)->H oa=none->H ia=none->Q .non H'
theorem b2h:m9 ["self","goal","rows","bounds"] ["self","goal","rows","bounds"] (i8 a4L):=⟨rfl,rfl,rfl,by decide +kernel,rfl,by decide +kernel,by decide +kernel⟩
theorem b3v:(["row","bound"]:List Str).Nodup:=by decide +kernel
theorem b4P:(["one"]:List Str).Nodup:=by decide +kernel
noncomputable def b4h {cdv:Value} {A:Around} {outer:List Env} {s:Shared} {H:Hp} {E:XK} (N:x5 mg) :
  { t:TS // PSs (K1 E4 P w K mg base ["self","goal","rows","bounds"] "Board.__init__" (i8 a4L) f cdv A outer s H E).nox (w4 a4L) t } :=
 ⟨_,i9 (G7 (pv 0) (j6 j7 rfl N.len bB (a0 (pv 1) e9)) rfl)
  (i9 (G7 (pv 0) h8 rfl)
  (p7 (G7 (pv 0) (V2 ["row","bound"] [] rfl (a8I true true K rfl rfl N.zip (a0 (pv 2) (a0 (pv 3) e9)))
   (λ _ _ _ _=>T4 K (n:=2) rfl rfl (r8 (j8 (i:=0) b3v rfl (aC rfl)) (r8 (j8 (i:=1) b3v rfl (aC rfl)) C2)))
   (λ _ _ _ _=>j4 C5 (v9 (a6c K rfl) rfl N.list dJ (a0 (pv 0) e9)) (u9 (a0 (pv 1) e9)))) rfl)
  (p7 (D3 (a0L eE fE fF J4 (t7 (pv 0) rfl)
   (a0 (j4 C5 (V2 ["one"] [] rfl (M4 (pv 1)) (λ _ _ _ _=>j8 (i:=0) b4P rfl (aC rfl)) (λ _ _ _ _=>O6 J1 (pv 0))) (u9 (a0 h8 e9))) e9)))
  (i9 (G7 (pv 0) (v9 (a0h rfl) rfl N.list dJ (a0 (v9 a7N rfl N.range kF (a0 (t7 (pv 0) rfl) e9)) e9)) rfl)
  (j3 (G7 (pv 0) (v9 (a0h rfl) rfl N.list dJ (a0 (v9 a7O rfl N.range kF (a0 (t7 (pv 0) rfl) (a0 (j4 C4 (t7 (pv 0) rfl) (j6 j7 rfl N.len bB (a0 (pv 2) e9))) e9))) e9)) rfl))))))⟩
end
theorem b2V {m q i:Nat} {rows:List (List Int)} {bounds goal row:List Int} {b:Int} (hr:rows[i]?=some row) (hb:bounds[i]?=some b) (hl:row.length=q) (hi:i<m) :
  row++[b]=y8 q (Lp.S0 m q (V4 rows) (G8 bounds) (G8 goal)) i:=by
 refine cK λ j=>?_;unfold y8
 by_cases hj:j<q+1
 ·rw [aD,bG hj,fD]
  have hT:(Lp.S0 m q (V4 rows) (G8 bounds) (G8 goal)).T i j=if j<q then V4 rows i j else G8 bounds i:=by
   show (if j<q then (if i<m then _ else _) else (if i<m then _ else _))=_
   rw [if_pos hi,if_pos hi]
  rw [hT]
  by_cases h:j<q
  ·rw [bO (by lia),if_pos h]
   unfold V4;rw [aI,aI,hr,dX,aH (by lia),dX]
  ·rw [bZ (by lia),if_neg h,hl,show j - q=0 by lia]
   unfold G8;rw [aI,hb]; rfl
 ·rw [bK (by simp; lia),bK (by simp; lia)]
theorem b0T {m q:Nat} {rows:List (List Int)} {bounds goal:List Int} (hl:goal.length=q):goal.map (λ x=>-x)++[0]=y8 q (Lp.S0 m q (V4 rows) (G8 bounds) (G8 goal)) m:=by
 refine cK λ j=>?_;unfold y8
 by_cases hj:j<q+1
 ·rw [aD,bG hj,fD]
  have hT:(Lp.S0 m q (V4 rows) (G8 bounds) (G8 goal)).T m j=if j<q then - G8 goal j else 0:=by
   show (if j<q then (if m<m then _ else _) else (if m<m then _ else _))=_
   rw [if_neg (bJ _),if_neg (bJ _)]
  rw [hT]
  by_cases h:j<q
  ·rw [bO (by simp; lia),if_pos h,aD]
   unfold G8;rw [aI,aH (by lia),fD,dX]
  ·rw [bZ (by simp; lia),if_neg h,aA,hl,show j - q=0 by lia]; rfl
 ·rw [bK (by simp; lia),bK (by simp; lia)]
theorem b0L {m q:Nat} {A:Nat->Nat->Int} {b c:Nat->Int}:((aE q).map λ (i:Nat)=>V.int (0+(i:Int)))=(K8 q (Lp.S0 m q A b c)).map V.int:=by
 unfold K8;rw [aQ];refine cW λ j hj=>?_;have h:(Lp.S0 m q A b c).outs j=j:=if_pos (cS.mp hj);simp [h]
theorem b2n {m q:Nat} {A:Nat->Nat->Int} {b c:Nat->Int}:((aE m).map λ (i:Nat)=>V.int ((q:Int)+(i:Int)))=(P5 m (Lp.S0 m q A b c)).map V.int:=by
 unfold P5;rw [aQ];refine cW λ j hj=>?_;have h:(Lp.S0 m q A b c).ins j=q+j:=rfl;simp [h]
section
variable {P:Program} {w:World} {K:W.Frag} {mg:Str->Option Value} {base:Heap} {f g c Pt:Addr} {fd gd:FuncData} {n:Nat} {C:Addr}
theorem X8 {H H':Hp} {a p:Addr} {xs:List V} {C dx:Addr} {fs:List (Str×V)} (hp:H p=some (.ins C dx fs)) (e:∀ b o,b≠p->H b=some o->H' b=some o) (h:SqL K H a xs):SqL K H' a xs:=by
 rcases h with (h | ⟨o,h⟩) | h
 ·exact .inl (.inl (e _ _ (y9 h hp (by intro z; cases z)) h))
 ·exact .inl (.inr ⟨o,e _ _ (y9 h hp (by intro z; cases z)) h⟩)
 ·exact .inr h
theorem b0n (F:Fun K "__init__" "Board.__init__" a4L f fd) (N:x5 mg) (T:TB K C):FnOk P w K mg base E4 (n+1) f fd ["self","goal","rows","bounds"] (a8p K C):=by
 refine F.ok b2h (λ vs H Q E h=>?_) (λ cdv A outer s H vs Q E hr h=>?_)
 ·obtain ⟨p,dx,ga,ra,ba,goal,rvs,rows,bounds,m,q,rfl,_⟩:=h
  rfl
 obtain ⟨p,dx,ga,ra,ba,goal,rvs,rows,bounds,m,q,rfl,hp,hg,hra,hrw,hba,lr,lb,lg,hrl,hm,hq,k⟩:=h;refine ⟨_,(b4h N).2,?_⟩;have lv:rvs.length=m:=by rw [<- lr]; exact Paired.length hrw
 have k1:∀ b o,b≠p->H b=some o->r6 (r6 H p (.ins C dx [("many",.int q)])) p (.ins C dx [("many",.int q),("scale",.int 1)]) b=some o:=λ b o hb e=>by rw [c9 hb,c9 hb]; exact e
 refine ⟨_,rfl,ga,_,rfl,.inl hg,_,rfl,p,C,dx,_,rfl,hp,T.cl,T.nM,(by show 0<1000; decide),?_⟩;rw [aA,lg];refine ⟨_,rfl,p,C,dx,_,rfl,upd_same,T.cl,T.nS,(by show 1<1000; decide),?_⟩;refine ⟨λ σ' H4=>∃ (l:Addr) (rs:List Addr),σ'=[some (.ref p),some (.ref ga),some (.ref ra),some (.ref ba)]/\H4 p=some (.ins C dx [("many",.int q),("scale",.int 1),("cells",.ref l)])/\H4 l=some (.lst (rs.map V.ref))/\rs.length=m/\H l=none ∧
  (∀ i a,rs[i]?=some a->a≠l/\H4 a=some (.lst ((y8 q (Lp.S0 m q (V4 rows) (G8 bounds) (G8 goal)) i).map V.int)))/\∀ b o,b≠p->H b=some o->H4 b=some o,?_,?_⟩
 ·refine ⟨_,rfl,_,rfl,ra,ba,rfl,⟨_,X8 hp k1 hra⟩,⟨_,X8 hp k1 hba⟩,λ l hl=>?_⟩
  have nlp:p≠l:=d7 upd_same hl;have hl0:H l=none:=by
   rw [c9 nlp.symm,c9 nlp.symm] at hl; exact hl
  refine a5w (X8 hp k1 hra) (X8 hp k1 hba) hl (by rw [lv]; exact m8 (by lia)) (λ i y H2=>∃ a,y=.ref a/\a≠l/\H2 a=some (.lst ((y8 q (Lp.S0 m q (V4 rows) (G8 bounds) (G8 goal)) i).map V.int)))
   (λ i y H2 H3 ⟨a,h1,h2,h3⟩ e=>⟨a,h1,h2,e a _ h2 h3⟩) (λ i x y H2 zs N' hx hy e hl2 hN=>?_) (λ zs H2 e hl2 len pr=>?_)
  ·obtain ⟨row,hrow,⟨a,rfl,ha⟩⟩:=Paired.at hrw hx
   rw [aD] at hy
   cases hbi:bounds[i]? with
   | none=>rw [hbi] at hy; cases hy
   | some b =>
    rw [hbi] at hy;have hy':V.int b=y:=aL hy;subst hy';have hi:i<m:=by rw [<- lb]; exact (bQ.mp hbi).1
    have hlen:=hrl row (bS hrow);have ha2:SqL K H2 a (row.map V.int):=e.seq (X8 hp k1 ha);refine ⟨_,rfl,a,_,rfl,.inl ha2,λ a1 h1=>?_⟩;have s1:=Same.new h1 (.lst (row.map V.int));refine ⟨_,rfl,(by show 1<=sizeLine; decide),λ a2 h2=>?_⟩;have s2:=s1.trans (Same.new h2 (.lst [.int b]));have n12:a1≠a2:=d7 upd_same h2;refine ⟨a1,a2,_,_,rfl,rfl,(by rw [c9 n12]; exact upd_same),upd_same,?_,λ a3 h3=>?_⟩
    ·rw [aA,hlen]
     have:=m8 (show q+1<=1000 by lia);simp;lia
    ·refine hN _ _ (s2.trans (Same.new h3 _)) ⟨a3,rfl,λ z=>?_,?_⟩
     ·rw [z,s2 _ _ hl2] at h3; cases h3
     ·rw [upd_same,<- b2V hrow hbi hlen hi,bC]; rfl
  ·have hp2:=e _ _ (upd_same (H:=r6 H p (.ins C dx [("many",.int q)])) (a:=p) (o:=.ins C dx [("many",.int q),("scale",.int 1)]))
   refine ⟨_,rfl,p,C,dx,_,rfl,hp2,T.cl,T.nC,(by show 2<1000; decide),?_⟩;have hzs:zs=(zs.map a4e).map V.ref:=by
    rw [aQ];refine cK λ i=>?_;rw [aD]
    cases qi:zs[i]? with
    | none=>rfl
    | some y =>
     obtain ⟨a,rfl,_⟩:=pr i y qi;rfl
   refine ⟨l,zs.map a4e,rfl,upd_same,by rw [c9 nlp.symm,hl2]; rw [<- hzs],by rw [aA,len,lv,aA,lb]; lia,hl0,λ i a hi=>?_,λ b o hb hbo=>by rw [c9 hb]; exact e _ _ (k1 b o hb hbo)⟩;rw [aD] at hi
   cases qi:zs[i]? with
   | none=>rw [qi] at hi; cases hi
   | some y =>
    obtain ⟨a',rfl,h2,h3⟩:=pr i y qi;rw [qi] at hi;have:a'=a:=aL hi;subst this;refine ⟨h2,?_⟩;rw [c9 (λ z=>by rw [z,hp2] at h3; cases h3)];exact h3
 intro σ' H4 hM_; refine X1 λ G_ hG_=>?_; obtain ⟨l,rs,rfl,hp4,hl4,hlen,hl0,hrs,hk⟩:=hM_; subst hG_;have nlp:l≠p:=(d7 hp hl0).symm;refine ⟨λ σ' H5=>∃ rs':List Addr,σ'=[some (.ref p),some (.ref ga),some (.ref ra),some (.ref ba)]/\H5 p=some (.ins C dx [("many",.int q),("scale",.int 1),("cells",.ref l)])/\H5 l=some (.lst (rs'.map V.ref))/\rs'.length=m+1 ∧
  (∀ i a,rs'[i]?=some a->a≠l/\H5 a=some (.lst ((y8 q (Lp.S0 m q (V4 rows) (G8 bounds) (G8 goal)) i).map V.int)))/\∀ b o,b≠p->H b=some o->H5 b=some o,?_,?_⟩
 ·refine ⟨_,rfl,p,C,dx,_,_,rfl,hp4,T.cl,T.nC,rfl,.inl ⟨rfl,_,SqL.of hl4⟩,?_⟩
  have hg4:=X8 hp hk hg;refine ⟨_,rfl,ga,rfl,⟨_,hg4⟩,λ a1 h1=>?_⟩;refine R6 (J5 hg4) h1 (by rw [aA,lg]; exact m8 (by lia)) (λ x=>.int (-(vI x))) (λ i x H' N' hx e hN=>?_) ?_
  ·obtain ⟨x',rfl,_⟩:=a0P hx
   exact ⟨Wk.set (by decide),_,rfl,_,rfl,hN⟩
  have eg:(goal.map V.int).map (λ x=>V.int (-(vI x)))=(goal.map λ x=>-x).map V.int:=by rw [aQ,aQ]; rfl
  rw [eg];have s1:=Same.new h1 (.lst ((goal.map λ x=>-x).map V.int));refine ⟨(by show 1<=sizeLine; decide),λ a2 h2=>?_⟩;have s2:=s1.trans (Same.new h2 (.lst [.int 0]));have n12:a1≠a2:=d7 upd_same h2;refine ⟨a1,a2,_,_,rfl,rfl,(by rw [c9 n12]; exact upd_same),upd_same,?_,λ a3 h3=>?_⟩
  ·rw [aA,aA,lg]
   have:=m8 (show q+1<=1000 by lia);simp;lia
  have s3:=s2.trans (Same.new h3 (.lst ((goal.map λ x=>-x).map V.int++[.int 0])));refine ⟨l,_,_,rfl,rfl,s3 _ _ hl4,(by rw [aA,hlen]; exact m8 (by lia)),?_⟩;have n3l:a3≠l:=λ z=>by rw [z,s2 _ _ hl4] at h3; cases h3
  have n3p:a3≠p:=λ z=>by rw [z,s2 _ _ hp4] at h3; cases h3
  refine ⟨rs++[a3],rfl,by rw [c9 nlp.symm]; exact s3 _ _ hp4,by rw [upd_same,bC]; rfl,by rw [aM,hlen]; rfl,λ i a hi=>?_,λ b o hb hbo=>by rw [c9 (d7 hbo hl0)]; exact s3 _ _ (hk b o hb hbo)⟩
  by_cases him:i<m
  ·rw [bO (by lia)] at hi
   obtain ⟨g1,g2⟩:=hrs i a hi;exact ⟨g1,by rw [c9 g1]; exact s3 _ _ g2⟩
  ·rw [bZ (by lia)] at hi
   have hi0:i - rs.length=0:=by
    cases z:i - rs.length with
    | zero=>rfl
    | succ j=>rw [z] at hi; simp at hi
   rw [hi0] at hi;have:a3=a:=aL hi;subst this;have:i=m:=by lia
   subst this;refine ⟨n3l,?_⟩;rw [c9 n3l,upd_same,<- b0T lg,bC]; rfl
 intro σ' H5 hM_; refine X1 λ G_ hG_=>?_; obtain ⟨rs',rfl,hp5,hl5,hlen5,hrs5,hk5⟩:=hM_; subst hG_;refine ⟨_,rfl,p,C,dx,_,_,rfl,hp5,T.cl,T.nM,rfl,q,rfl,λ r1 h1=>?_⟩;have s1:=Same.new h1 (.rng 0 (q:Int));refine ⟨r1,0,q,rfl,by rw [upd_same,eO],by lia,by lia,by lia,λ oa hoa=>?_⟩;have s2:=s1.trans (Same.new hoa (.lst ((aE q).map λ (i:Nat)=>V.int (0+(i:Int)))));have noa5:H5 oa=none:=by
  cases z:H5 oa with
  | none=>rfl
  | some o=>rw [s1 _ _ z] at hoa; cases hoa
 have nop:oa≠p:=(d7 hp5 noa5).symm;refine ⟨_,rfl,p,C,dx,_,rfl,s2 _ _ hp5,T.cl,T.nO,(by show 3<1000; decide),?_⟩;have hra5:=X8 hp hk5 hra;have lp5:SqL K (r6 (r6 (r6 H5 r1 (.rng 0 (q:Int))) oa (.lst ((aE q).map λ (i:Nat)=>V.int (0+(i:Int))))) p (.ins C dx [("many",.int q),("scale",.int 1),("cells",.ref l),("outs",.ref oa)])) ra rvs :=
  X8 (s2 _ _ hp5) (λ b o hb e=>by rw [c9 hb]; exact e) (s2.seq hra5)
 refine ⟨_,rfl,p,C,dx,_,_,rfl,upd_same,T.cl,T.nM,rfl,_,rfl,p,C,dx,_,_,rfl,upd_same,T.cl,T.nM,rfl,_,rfl,ra,_,rfl,.inl lp5,_,_,rfl,rfl,_,_,rfl,λ r2 h2=>?_⟩;rw [lv];refine ⟨r2,(q:Int),m,rfl,upd_same,by lia,by lia,by lia,λ ia hia=>?_⟩;have n2p:r2≠p:=(d7 upd_same h2).symm;have nip:ia≠p:=by
  refine (d7 (H:=_) (o:=.ins C dx [("many",.int q),("scale",.int 1),("cells",.ref l),("outs",.ref oa)]) ?_ hia).symm;rw [c9 n2p.symm,upd_same]; rfl
 have oa6:∀ o,r6 (r6 (r6 H5 r1 (.rng 0 (q:Int))) oa o) p (.ins C dx [("many",.int q),("scale",.int 1),("cells",.ref l),("outs",.ref oa)]) oa=some o:=λ o=>by rw [c9 nop,upd_same]
 have n2o:r2≠oa:=(d7 (oa6 _) h2).symm;have nio:ia≠oa:=by
  refine (d7 (H:=_) (o:=.lst ((aE q).map λ (i:Nat)=>V.int (0+(i:Int)))) ?_ hia).symm;rw [c9 n2o.symm]; exact oa6 _
 have up:∀ b o,b≠p->H5 b=some o->b≠ia/\b≠r2/\r6 (r6 H5 r1 (.rng 0 (q:Int))) oa (.lst ((aE q).map λ (i:Nat)=>V.int (0+(i:Int)))) b=some o:=λ b o hb e=>by
  have e2:=s2 _ _ e;have nb2:b≠r2:=by
   refine d7 (H:=_) (o:=o) ?_ h2;rw [c9 hb]; exact e2
  refine ⟨?_,nb2,e2⟩;refine d7 (H:=_) (o:=o) ?_ hia;rw [c9 nb2,c9 hb]; exact e2
 refine ⟨_,rfl,p,C,dx,_,rfl,(by rw [c9 nip.symm,c9 n2p.symm]; exact upd_same),T.cl,T.nI,(by show 4<1000; decide),?_⟩;have fin:∀ b o,b≠p->H5 b=some o->r6 (r6 (r6 (r6 (r6 (r6 H5 r1 (.rng 0 (q:Int))) oa (.lst ((aE q).map λ (i:Nat)=>V.int (0+(i:Int))))) p (.ins C dx [("many",.int q),("scale",.int 1),("cells",.ref l),("outs",.ref oa)])) r2 (.rng (q:Int) ((q:Int)+(m:Int)))) ia (.lst ((aE m).map λ (i:Nat)=>V.int ((q:Int)+(i:Int))))) p (.ins C dx [("many",.int q),("scale",.int 1),("cells",.ref l),("outs",.ref oa),("ins",.ref ia)]) b=some o:=λ b o hb e=>by
  obtain ⟨g1,g2,g3⟩:=up b o hb e;rw [c9 hb,c9 g1,c9 g2,c9 hb]; exact g3
 have ia5:H5 ia=none:=by
  cases z:H5 ia with
  | none=>rfl
  | some o=>exact absurd rfl (up ia o nip z).1
 have back:∀ b,b≠p->H5 b=none->H b=none:=λ b hb z=>by
  cases z2:H b with
  | none=>rfl
  | some o=>rw [hk5 b o hb z2] at z; cases z
 refine k _ l oa ia rs' ⟨upd_same,fin _ _ nlp hl5,hlen5,λ i a hi=>fin _ _ (λ z=>?_) (hrs5 i a hi).2,?_,?_,nio.symm⟩ (λ b o hb hbo=>fin b o hb (hk5 b o hb hbo)) (back _ nop noa5) (back _ nip ia5)
 ·have:=(hrs5 i a hi).2
  rw [z,hp5] at this; cases this
 ·rw [c9 nop,c9 nio.symm,c9 n2o.symm,c9 nop,upd_same,b0L]
 ·rw [c9 nip,upd_same,b2n]
end
section
variable {P:Program} {w:World} {K:W.Frag} {mg:Str->Option Value} {base:Heap} {f Pt:Addr} {fd:FuncData} {n:Nat} {C:Addr}
def P4 (K:W.Frag) (C Pt:Addr):Sp:=λ vs H Q _=>∃ (ga ra ba:Addr) (goal:List Int) (rvs:List V) (rows:List (List Int)) (bounds:List Int) (m q M:Nat),vs=[.ref ga,.ref ra,.ref ba]/\SqL K H ga (goal.map V.int)/\SqL K H ra rvs ∧
 RowsL K H rvs rows/\SqL K H ba (bounds.map V.int)/\rows.length=m/\bounds.length=m/\goal.length=q/\(∀ r∈rows,r.length=q)/\m<900/\q<900/\(∀ i,i<m->0<=G8 bounds i) ∧
 (∀ v,Lp.Fits M (m+1) (Lp.Vv m q (V4 rows) (G8 bounds) (G8 goal) v))/\Lp.bnd M (m+1)<2 ^ 4000/\LT Pt H ∧
 (∀ (S:Lp.Bo) (H':Hp) (t aa wa:Addr),Lp.Of m q (V4 rows) (G8 bounds) (G8 goal) S->(∀ j,j<q->¬ S.T m j<0)->Sz 4000 m q S->Same1 Pt H H'->LT Pt H'->H' t=some (.tup [.int (S.T m q),.ref aa,.ref wa,.int S.d]) →
  H' aa=some (.lst ((u0 m q S).map V.int))->H' wa=some (.lst ((K7 m q S).map V.int))->Q (.ref t) H') ∧
 ∀ (S:Lp.Bo) (H':Hp) (c:Nat),Lp.Of m q (V4 rows) (G8 bounds) (G8 goal) S->c<q->S.T m c<0->(∀ i,i<m->¬ 0<S.T i c)->Same1 Pt H H'->LT Pt H'->Q .non H'
theorem scGr:m9 ["goal","rows","bounds","board","column","row"] ["goal","rows","bounds"] (i8 M0):=⟨rfl,rfl,rfl,by decide +kernel,rfl,by decide +kernel,by decide +kernel⟩
structure b4i (P:Program) (w:World) (K:W.Frag) (mg:Str->Option Value) (base:Heap) (n:Nat) (C Pt:Addr) (f1 f2 f3 f4 f5 f6:Addr) (d1 d2 d3 d4 d5 d6:FuncData):Prop where
 mak:Mk K C f1
 ini:FnOk P w K mg base E4 n f1 d1 ["self","goal","rows","bounds"] (a8p K C)
 inb:Binds K d1 ["self","goal","rows","bounds"] []
 mC:mg "Board"=some (.ref C)
 com:a7E P w K mg base n C "coming" ["self"] (a2w C Pt) f2 d2
 goi:a7E P w K mg base n C "going" ["self","column"] (a6N C) f3 d3
 exc:a7E P w K mg base n C "exchange" ["self","row","column"] (a2s C) f4 d4
 amt:a7E P w K mg base n C "amounts" ["self"] (a8X C) f5 d5
 wts:a7E P w K mg base n C "weights" ["self"] (b1s C) f6 d6
noncomputable def grT {cdv:Value} {A:Around} {outer:List Env} {s:Shared} {H:Hp} {E:XK} {f1 f2 f3 f4 f5 f6:Addr} {d1 d2 d3 d4 d5 d6:FuncData} (T:TB K C) (G:b4i P w K mg base n C Pt f1 f2 f3 f4 f5 f6 d1 d2 d3 d4 d5 d6)
  (hr:Room (n+1) (A.deeper (dC "greatest" (i8 M0) s.heap.objs.size f cdv))) (hr0:Room n (A.deeper (dC "greatest" (i8 M0) s.heap.objs.size f cdv))) :
  { t:TS // PSs (K1 E4 P w K mg base ["goal","rows","bounds","board","column","row"] "greatest" (i8 M0) f cdv A outer s H E).nox (w4 M0) t } :=
 ⟨_,i9 (o4 (i:=3) scGr.nd rfl (aC rfl) (a6a G.mak G.ini hr rfl G.mC G.inb .nil w6 (a0 (pv 0) (a0 (pv 1) (a0 (pv 2) e9)))))
  (i9 (o4 (i:=4) scGr.nd rfl (aC rfl) (K6 (pv 3) T.cl G.com.me G.com.ok hr0 G.com.bd .nil w6))
  (i9 (a4Y PassesOwn.never (t9 b0H (pv 4) W5 (p6 _))
   (i9 (o4 (i:=5) scGr.nd rfl (aC rfl) (Y5 (pv 3) T.cl G.goi.me G.goi.ok hr0 G.goi.bd .nil w6 (a0 (pv 4) e9)))
   (i9 (A4 (t9 a5K (pv 5) W5 (p6 _)) (j3 (r9 W5)) v8)
   (i9 (D3 (Y5 (pv 3) T.cl G.exc.me G.exc.ok hr0 G.exc.bd .nil w6 (a0 (pv 5) (a0 (pv 4) e9))))
   (j3 (o4 (i:=4) scGr.nd rfl (aC rfl) (K6 (pv 3) T.cl G.com.me G.com.ok hr0 G.com.bd .nil w6)))))))
  (j3 (r9 (D4 (a0 (j9 j5 (j9 j5 (t7 (pv 3) rfl) (O6 J1 h8) (λ _ _=>rfl)) (O6 J1 h8) (λ _ _=>rfl))
   (a0 (K6 (pv 3) T.cl G.amt.me G.amt.ok hr0 G.amt.bd .nil w6) (a0 (K6 (pv 3) T.cl G.wts.me G.wts.ok hr0 G.wts.bd .nil w6) (a0 (t7 (pv 3) rfl) e9)))))))))⟩
end
section
variable {P:Program} {w:World} {K:W.Frag} {mg:Str->Option Value} {base:Heap} {f Pt:Addr} {fd:FuncData} {n:Nat} {C:Addr}
theorem RowsL.same {H H':Hp} {vs:List V} {rs:List (List Int)} (e:Same H H') (x:RowsL K H vs rs):RowsL K H' vs rs:=Paired.imp' (λ _ _ ⟨a,z,q⟩=>⟨a,z,e.seq q⟩) x
theorem b3R {m q M:Nat} {A:Nat->Nat->Int} {b c:Nat->Int} {S:Lp.Bo} (O:Lp.Of m q A b c S) (hM:∀ v,Lp.Fits M (m+1) (Lp.Vv m q A b c v)) (hb:Lp.bnd M (m+1)<2 ^ 4000):Sz 4000 m q S :=
 ⟨λ i j hi hj=>cC (O.w.bndT hM hi hj) hb,cC (O.w.bndd hM) hb⟩
def Cv (m q:Nat) (S:Lp.Bo) (cv:V):Prop:=(cv=.non/\∀ j,j<q->¬ S.T m j<0)\/∃ c:Nat,cv=.int c/\c<q/\S.T m c<0/\∀ i,i<q->S.T m i<0->S.outs c<=S.outs i
theorem a4V {f1 f2 f3 f4 f5 f6:Addr} {d1 d2 d3 d4 d5 d6:FuncData} (F:Fun K "greatest" "greatest" M0 f fd) (T:TB K C) (G:b4i P w K mg base n C Pt f1 f2 f3 f4 f5 f6 d1 d2 d3 d4 d5 d6) :
  FnOk P w K mg base E4 (n+2) f fd ["goal","rows","bounds"] (P4 K C Pt):=by
 refine F.ok scGr (λ vs H Q E h=>?_) (λ cdv A outer s H vs Q E hr h=>?_)
 ·obtain ⟨ga,ra,ba,goal,rvs,rows,bounds,m,q,M,rfl,_⟩:=h
  rfl
 obtain ⟨ga,ra,ba,goal,rvs,rows,bounds,m,q,M,rfl,hg,hra,hrw,hba,lr,lb,lg,hrl,hm,hq,hbn,hM,hB,L,kT,kN⟩:=h;refine ⟨_,(grT T G hr (hr.mono (by lia))).2,?_⟩;refine ⟨_,rfl,_,rfl,_,rfl,λ p dx hp hdx hne=>?_⟩;have e0:Same H (r6 (r6 H dx (.own p)) p (.ins C dx [])):=λ b o q'=>by rw [c9 (d7 q' hp),c9 (d7 q' hdx)]; exact q'
 refine ⟨p,dx,ga,ra,ba,goal,rvs,rows,bounds,m,q,rfl,upd_same,e0.seq hg,e0.seq hra,hrw.same e0,e0.seq hba,lr,lb,lg,hrl,hm,hq,λ H1 ca oa ia rs B k1 hoa hia=>⟨rfl,?_⟩⟩;have nop:oa≠p:=y9 B.out B.obj (by intro z; cases z);have nip:ia≠p:=y9 B.inn B.obj (by intro z; cases z);have hoa0:H oa=none:=by
  cases z:H oa with
  | none=>rfl
  | some o=>rw [e0 _ _ z] at hoa; cases hoa
 have hia0:H ia=none:=by
  cases z:H ia with
  | none=>rfl
  | some o=>rw [e0 _ _ z] at hia; cases hia
 have s1:Same H H1:=λ b o z=>k1 b o (d7 z hp) (e0 _ _ z);have L1:LT Pt H1:=L.same s1;have O0:=Lp.of0 (A:=V4 rows) (c:=G8 goal) (q:=q) hbn;have come:∀ (S:Lp.Bo) (ca:Addr) (rs:List Addr) (H2:Hp) (R:V->Hp->Prop),Bd C H2 p dx ca oa ia rs m q S->LT Pt H2->Same1 Pt H H2->(∀ cv H3,Cv m q S cv->Bd C H3 p dx ca oa ia rs m q S->LT Pt H3->Same1 Pt H H3->R cv H3) →
   a2w C Pt [.ref p] H2 R E0:=λ S ca rs H2 R B2 L2 e2 hR=>by
  refine ⟨p,dx,ca,oa,ia,rs,m,q,S,rfl,B2,by lia,L2,λ H3 e3 L3=>?_⟩;have B3:=B2.lam L2 e3;have e4:Same1 Pt H H3:=λ b o hb z=>e3 b o hb (e2 b o hb z);exact ⟨λ hn=>hR _ _ (.inl ⟨rfl,hn⟩) B3 L3 e4,λ j hj hneg hmin=>hR _ _ (.inr ⟨j,rfl,hj,hneg,hmin⟩) B3 L3 e4⟩
 refine ⟨_,rfl,p,dx,_,rfl,B.obj,rfl,?_⟩;unfold a3y;refine come _ _ _ _ _ B L1 (λ b o _ z=>s1 b o z) λ cv H2 hcv B2 L2 e2=>?_;obtain ⟨kk,hkk⟩:=O0.w.ends hM;refine ⟨λ j σ H3=>∃ (S:Lp.Bo) (ca:Addr) (rs:List Addr) (cv:V) (o5:Option V),σ=[some (.ref ga),some (.ref ra),some (.ref ba),some (.ref p),some cv,o5]/\Lp.Of m q (V4 rows) (G8 bounds) (G8 goal) S/\Lp.Ends m q S j/\Cv m q S cv/\Bd C H3 p dx ca oa ia rs m q S/\LT Pt H3/\Same1 Pt H H3,
  ⟨kk,_,ca,rs,cv,_,rfl,O0,hkk,hcv,B2,L2,e2⟩,?_⟩
 rintro j σ H3 ⟨S,ca,rs,cv,o5,rfl,O,hE,hcv,B3,L3,e3⟩;have sz:=b3R O hM hB;refine ⟨_,rfl,rfl,_,rfl,?_⟩;rcases hcv with ⟨rfl,hn⟩ | ⟨c,rfl,hc,hneg,hmin⟩
 ·refine D0 (λ z=>?_) (λ _=>?_)
  ·exact absurd z (by decide)
  obtain ⟨rm,em,am⟩:=B3.rs_last;refine ⟨_,rfl,p,C,dx,_,_,rfl,B3.obj,T.cl,T.nC,rfl,_,rfl,ca,_,_,_,rfl,rfl,SqL.of B3.cel,am,_,rfl,rm,_,_,_,rfl,rfl,SqL.of (B3.row m rm em),Y9,?_⟩;refine ⟨_,rfl,p,dx,_,rfl,B3.obj,rfl,?_⟩;refine ⟨p,dx,ca,oa,ia,rs,m,q,S,rfl,B3,hm,hq,O.w.ii,λ aa H4 e4 haa h4=>?_⟩;have B4:Bd C H4 p dx ca oa ia rs m q S:=B3.same1 (P:=Pt) λ b o z _=>e4 b o z;refine ⟨_,rfl,p,dx,_,rfl,B4.obj,rfl,?_⟩;refine ⟨p,dx,ca,oa,ia,rs,m,q,S,rfl,B4,hm,hq,O.w.oo,O.w.ob,λ wa H5 e5 hwa h5=>?_⟩;have B5:Bd C H5 p dx ca oa ia rs m q S:=B4.same1 (P:=Pt) λ b o z _=>e5 b o z;refine ⟨_,rfl,p,C,dx,_,_,rfl,B5.obj,T.cl,T.nS,rfl,(by show 4<=sizeLine; decide),λ t ht=>?_⟩;have e6:=(e4.trans e5).trans (Same.new ht (.tup [.int (S.T m q),.ref aa,.ref wa,.int S.d]));refine kT S _ t aa wa O hn sz (λ b o hb z=>e6 b o (e3 b o hb z)) (L3.same e6) upd_same ?_ ?_
  ·rw [c9 (d7 (e5 _ _ h4) ht)]; exact e5 _ _ h4
  ·rw [c9 (d7 h5 ht)]; exact h5
 ·refine D0 (λ _=>?_) (λ z=>absurd rfl z)
  refine ⟨λ σ' H'=>∃ j',j'<j/\∃ (S:Lp.Bo) (ca:Addr) (rs:List Addr) (cv:V) (o5:Option V),σ'=[some (.ref ga),some (.ref ra),some (.ref ba),some (.ref p),some cv,o5]/\Lp.Of m q (V4 rows) (G8 bounds) (G8 goal) S/\Lp.Ends m q S j'/\Cv m q S cv/\Bd C H' p dx ca oa ia rs m q S/\LT Pt H'/\Same1 Pt H H',λ σ' H' z=>z,?_⟩;refine ⟨_,rfl,p,dx,_,rfl,B3.obj,rfl,_,rfl,?_⟩;refine ⟨p,dx,ca,oa,ia,rs,m,q,S,c,rfl,B3,sz,by lia,by lia,λ hnone=>?_,λ r hrm hpos hbet=>?_⟩
  ·refine ⟨_,rfl,rfl,_,rfl,?_⟩
   refine D0 (λ _=>?_) (λ z=>absurd (decide_eq_true rfl) z);exact kN S H3 c O hc hneg hnone e3 L3
  ·have Ch:Lp.Choice m q S r c:=⟨hc,hneg,hmin,hrm,hpos,λ i hi hp'=>(hbet i hi hp').1,λ i hi hp'=>(hbet i hi hp').2⟩
   refine ⟨_,rfl,rfl,_,rfl,?_⟩;refine D0 (λ z=>absurd (of_decide_eq_true z) (by nofun)) (λ _=>?_);refine ⟨_,rfl,p,dx,_,rfl,B3.obj,rfl,_,rfl,_,rfl,?_⟩;refine ⟨p,dx,ca,oa,ia,rs,m,q,S,r,c,rfl,B3,sz,hrm,hc,hm,hq,O.w.pos,λ H4 ca' rs' B4 k4=>?_⟩;have e4:Same1 Pt H H4:=λ b o hb z=>k4 b o (d7 z hp) (d7 z hoa0) (d7 z hia0) (e3 b o hb z);have tk:∀ b o,H3 b=some o->(∀ C dx fs,o≠.ins C dx fs)->(∀ xs,o≠.lst xs)->H4 b=some o:=λ b o z n1 n2=>k4 b o (λ y=>by subst y; rw [B3.obj] at z; exact n1 _ _ _ (aL z).symm) (λ y=>by subst y; rw [B3.out] at z; exact n2 _ (aL z).symm) (λ y=>by subst y; rw [B3.inn] at z; exact n2 _ (aL z).symm) z;have L4:LT Pt H4:=by
    rcases L3 with t | ⟨c',t1,t2⟩
    ·exact .inl (tk _ _ t (λ _ _ _=>nofun) λ _=>nofun)
    ·exact .inr ⟨c',tk _ _ t1 (λ _ _ _=>nofun) λ _=>nofun,tk _ _ t2 (λ _ _ _=>nofun) λ _=>nofun⟩
   refine ⟨_,rfl,p,dx,_,rfl,B4.obj,rfl,?_⟩;refine come _ _ _ _ _ B4 L4 e4 λ cv' H5 hcv' B5 L5 e5=>?_;obtain ⟨j',hj',hE'⟩:=hE.next O.w Ch;exact ⟨j',hj',_,ca',rs',cv',_,rfl,O.piv Ch,hE',hcv',B5,L5,e5⟩
end
section
variable {P:Program} {w:World} {K:W.Frag} {mg:Str->Option Value} {base:Heap} {f g:Addr} {fd gd:FuncData}
def a8E (K:W.Frag):Sp:=λ vs H Q _=>∃ (a:Addr) (ns:List Int) (k:Int),vs=[.ref a,.int k]/\SqL K H a (ns.map V.int)/\0<=k/\∀ c:Int,Q (.int c) H
theorem b2b:m9 ["script","k"] ["script","k"] (i8 a8R):=⟨rfl,rfl,rfl,by decide +kernel,rfl,by decide +kernel,by decide +kernel⟩
theorem b2q {ns:List Int} {k:Int} (h0:0<=k) (h:k<((ns.map V.int).length:Int)):∃ v:Int,Y8 (ns.map V.int) k=some (.int v):=by
 have hl:(ns.map V.int).length=ns.length:=aA _;have hk:k.toNat<ns.length:=by lia
 have ek:k=((k.toNat:Nat):Int):=by lia
 have q:Y8 (ns.map V.int) ((k.toNat:Nat):Int)=some (.int ns[k.toNat]):=D9 (by rw [aD,aH hk]; rfl);rw [<- ek] at q;exact ⟨_,q⟩
theorem b0d {n:Nat} (F:Fun K "_law_cell_at" "_law_cell_at" a8R f fd) (T:x5 mg):FnOk P w K mg base E4 (n+1) f fd ["script","k"] (a8E K):=by
 refine F.ok b2b (λ vs H Q E h=>?_) (λ cdv A outer s H vs Q E hr h=>?_)
 ·obtain ⟨a,ns,k,rfl,_⟩:=h
  rfl
 obtain ⟨a,ns,k,rfl,hS,h0,q⟩:=h;refine ⟨_,i9 (A4 (t9 a1p (pv 1) (j6 j7 rfl T.len bB (a0 (pv 0) e9)) (p6 _)) (j3 (r9 (j9 j5 (pv 0) (pv 1) (λ _ _=>rfl)))) v8)
  (j3 (r9 h8)),?_⟩
 refine ⟨_,rfl,_,rfl,a,_,rfl,.inl hS,_,_,rfl,rfl,_,rfl,?_⟩;refine D0 (λ c=>?_) (λ c=>?_)
 ·obtain ⟨v,hv⟩:=b2q h0 (of_decide_eq_true c)
  exact ⟨_,rfl,_,rfl,a,_,_,_,rfl,rfl,hS,hv,q v⟩
 ·exact q 0
def a6O (K:W.Frag):Sp:=λ vs H Q _=>∃ (c:Int) (many:Nat) (b:Int),vs=[.int c,.int (many:Int),.int b]/\many<=900/\0<b/\b<1073741824 ∧
 ∀ (r:Addr) (H':Hp) (ds:List Int),Same H H'->H' r=some (.lst (ds.map V.int))->ds.length=many->(∀ d∈ds,0<=d/\d<b)->Q (.ref r) H'
theorem scDraws:m9 ["cell","many","base","found","rest","stirred","k"] ["cell","many","base"] (i8 a5i):=⟨rfl,rfl,rfl,by decide +kernel,rfl,by decide +kernel,by decide +kernel⟩
theorem a8Y {n:Nat} (F:Fun K "_law_draws" "_law_draws" a5i f fd) (T:x5 mg):FnOk P w K mg base E4 (n+1) f fd ["cell","many","base"] (a6O K):=by
 refine F.ok scDraws (λ vs H Q E h=>?_) (λ cdv A outer s H vs Q E hr h=>?_)
 ·obtain ⟨a,ns,k,rfl,_⟩:=h
  rfl
 obtain ⟨c,many,b,rfl,hm,hb0,hb1,q⟩:=h;refine ⟨_,i9 (o4 (i:=3) scDraws.nd rfl (aC rfl) (u9 e9))
  (i9 (o4 (i:=4) scDraws.nd rfl (aC rfl) (j4 N5 (pv 0) (v9 R8 rfl T.int fT (a0 (A9 a8n (pv 0) (j4 a5P h8 h8) (p6 _)) e9))))
  (i9 (o4 (i:=5) scDraws.nd rfl (aC rfl) (j4 x9 (pv 0) h8))
  (i9 (W3 PassesOwn.never rfl (A3 rfl T.range (a0 (j4 C4 (pv 1) h8) e9)) (j8 (i:=6) scDraws.nd rfl (aC rfl))
   (i9 (o4 (i:=5) scDraws.nd rfl (aC rfl) (j4 x9 (j4 C4 (j4 C4 (j4 C4 (j4 N5 (pv 5) (pv 5)) (j4 N5 h8 (pv 5))) (pv 6)) h8) h8))
    (j3 (A4 (PW.pt (a3B (t9 a0D (pv 6) h8 (p6 _)) (a1J (t9 a0D (pv 4) h8 (p6 _)))))
     (i9 (D3 (a0L eE fE fF J4 (pv 3) (a0 (j4 x9 (pv 4) (pv 2)) e9))) (j3 (o4 (i:=4) scDraws.nd rfl (aC rfl) (j4 V1 (pv 4) (pv 2)))))
     (j3 (A4 (t9 a0D (pv 6) h8 (p6 _)) (j3 (D3 (a0L eE fE fF J4 (pv 3) (a0 (j4 x9 (j4 V1 (pv 5) h8) (pv 2)) e9)))) v8))))))
  (j3 (r9 (pv 3)))))),?_⟩
 refine ⟨(by show 0<=sizeLine; decide),λ fl hfl=>?_⟩;refine ⟨_,rfl,_,rfl,_,_,rfl,rfl,⟨by decide,by decide,by decide⟩,_,_,rfl,rfl,.inr ⟨_,rfl,_,_,rfl,rfl,.inr ?_,?_⟩⟩
 ·constructor <;> (split <;> decide)
 refine ⟨_,rfl,_,_,rfl,rfl,(by show (0:Int)<2305843009213693951; decide),?_⟩;refine ⟨_,rfl,_,_,rfl,rfl,((many:Int)+3),rfl,by lia,by lia,?_⟩;have e3:((many:Int)+3).toNat=many+3:=by lia
 rw [e3];refine Z8 (n:=many+3) (λ i σ H'=>∃ (r st:Int) (ds:List Int) (ks:Option V),σ=[some (.int c),some (.int (many:Int)),some (.int b),some (.ref fl),some (.int r),some (.int st),ks]/\H'=r6 H fl (.lst (ds.map V.int))/\ds.length=i - 3/\(∀ d∈ds,0<=d/\d<b)/\0<=st/\st<2305843009213693951)
  ⟨_,_,[],none,rfl,rfl,rfl,λ d hd=>(by cases hd),eF _ (by decide),eG _ (by decide)⟩ ?_ ?_
 ·rintro i σ H' hi ⟨r,st,ds,ks,rfl,rfl,hl,hd,hs0,hs1⟩
  refine ⟨_,rfl,_,rfl,_,_,rfl,rfl,.inl ⟨by lia,by lia⟩,_,rfl,_,_,rfl,rfl,.inl ⟨by decide,by decide⟩,_,_,rfl,rfl,_,rfl,_,_,rfl,rfl,_,_,rfl,rfl,_,_,rfl,rfl,(by show (0:Int)<2305843009213693951; decide),?_⟩;have hs0':0<=(st*st+48271*st+(0+(i:Int))+1) % 2305843009213693951:=eF _ (by decide);have hs1':(st*st+48271*st+(0+(i:Int))+1) % 2305843009213693951<2305843009213693951:=eG _ (by decide);refine ⟨_,rfl,_,_,rfl,rfl,_,rfl,?_⟩;have hz:(ds.map V.int).length<sizeLine:=by rw [aA]; exact m8 (by lia)
  have more:∀ d:Int,(ds.map V.int)++[V.int d]=(ds++[d]).map V.int:=λ d=>by rw [bC]; rfl
  have mem:∀ d:Int,0<=d->d<b->∀ d'∈ds++[d],0<=d'/\d'<b:=λ d h0 h1 d' hd'=>by
   rcases aO.mp hd' with z | z
   ·exact hd d' z
   ·rw [bF.mp z]; exact ⟨h0,h1⟩
  refine D0 (λ c1=>?_) (λ c1=>?_)
  ·have c1':2<0+(i:Int):=of_decide_eq_true c1
   refine ⟨_,rfl,_,_,rfl,rfl,_,rfl,?_⟩;refine D0 (λ c2=>?_) (λ c2=>?_)
   ·refine ⟨_,rfl,.inl ⟨rfl,_,SqL.of upd_same⟩,_,rfl,_,rfl,_,_,rfl,rfl,hb0,fl,_,_,rfl,rfl,upd_same,hz,?_⟩
    refine ⟨_,rfl,_,rfl,_,_,rfl,rfl,⟨hb0,hb1⟩,?_⟩;refine ⟨_,_,ds++[r % b],_,rfl,?_,?_,mem _ (eF _ (by lia)) (eG _ hb0),hs0',hs1'⟩
    ·rw [T7,more]
    ·rw [aM,dA]; lia
   ·refine ⟨_,rfl,_,_,rfl,rfl,_,rfl,?_⟩
    refine D0 (λ c3=>?_) (λ c3=>absurd c1 c3);refine ⟨_,rfl,.inl ⟨rfl,_,SqL.of upd_same⟩,_,rfl,_,_,rfl,rfl,⟨by decide,by decide⟩,_,rfl,_,_,rfl,rfl,hb0,fl,_,_,rfl,rfl,upd_same,hz,?_⟩;refine ⟨_,_,ds++[(st*st+48271*st+(0+(i:Int))+1) % 2305843009213693951 / 4096 % b],_,rfl,?_,?_,mem _ (eF _ (by lia)) (eG _ hb0),hs0',hs1'⟩
    ·rw [T7,more]
    ·rw [aM,dA]; lia
  ·have c1':¬ 2<0+(i:Int):=of_decide_eq_false (eM.mpr c1)
   refine a0c ?_;refine ⟨_,rfl,_,_,rfl,rfl,_,rfl,?_⟩;refine D0 (λ c3=>absurd c3 c1) (λ c3=>?_);exact ⟨_,_,ds,_,rfl,rfl,by lia,hd,hs0',hs1'⟩
 ·intro σ H' hM_; refine X1 λ G_ hG_=>?_; obtain ⟨r,st,ds,ks,rfl,rfl,hl,hd,_⟩:=hM_; subst hG_
  exact ⟨_,rfl,q fl _ ds (Same.new hfl _) upd_same (by lia) hd⟩
end
theorem a3V {n:Nat} {k:Int} (h0:0<=k) (h1:k<(n:Int)):ixN n k=some k.toNat:=by
 unfold ixN;rw [if_pos h0,if_pos h1]
theorem a9V {α:Type} {xs:List α} {k:Int} (h0:0<=k) (h1:k<(xs.length:Int)):∃ v,v∈xs/\Y8 xs k=some v:=by
 have hk:k.toNat<xs.length:=by lia
 refine ⟨xs[k.toNat],cU hk,?_⟩;unfold Y8;rw [a3V h0 h1];exact aH hk
theorem M3 {ns:List Int} {k:Int} (h0:0<=k) (h1:k<(ns.length:Int)):∃ v,v∈ns/\Y8 (ns.map V.int) k=some (.int v):=by
 obtain ⟨v,hv,e⟩:=a9V (xs:=ns.map V.int) h0 (by rw [aA]; exact h1);obtain ⟨n,hn,rfl⟩:=bA.mp hv;exact ⟨n,hn,e⟩
theorem map_set {ns:List Int} {j:Nat} {v:Int}:(ns.map V.int).set j (.int v)=(ns.set j v).map V.int:=by rw [iP]
structure HG (far:Int) (kt kg:Nat) (h:j0):Prop where
 lt:h.1.length=kt
 lg:h.2.length=kg
 t:∀ x∈h.1,1<=x/\x<=far
 g:∀ x∈h.2,0<=x/\x<=far
 p:∃ x∈h.2,0<x
section
variable {P:Program} {w:World} {K:W.Frag} {mg:Str->Option Value} {base:Heap} {f g:Addr} {fd gd:FuncData}
def a5b (K:W.Frag):Sp:=λ vs H Q _=>∃ (v:V) (p:Addr) (far:Int) (h:j0) (ds:List Int) (kt kg:Nat),vs=[v,.ref p,.int far]/\HS K H v h/\HG far kt kg h/\1<=kt/\kt<=4/\1<=kg/\kg<=4/\1<=far ∧
 SqL K H p (ds.map V.int)/\10<=ds.length/\(∀ d∈ds,0<=d)/\∀ (r:V) (H':Hp) (h':j0),Same H H'->HS K H' r h'->HG far kt kg h'->Q r H'
theorem scNear:m9 ["house","picks","far","takes","gives","by","at"] ["house","picks","far"] (i8 a8o):=⟨rfl,rfl,rfl,by decide +kernel,rfl,by decide +kernel,by decide +kernel⟩
theorem b0z:(["take","by"]:List Str).Nodup:=by decide +kernel
theorem b0K:(["give","by"]:List Str).Nodup:=by decide +kernel
theorem b0g {n:Nat} (F:Fun K "_law_near" "_law_near" a8o f fd) (T:x5 mg):FnOk P w K mg base E4 (n+1) f fd ["house","picks","far"] (a5b K):=by
 refine F.ok scNear (λ vs H Q E h=>?_) (λ cdv A outer s H vs Q E hr h=>?_)
 ·obtain ⟨v,p,far,h,ds,kt,kg,rfl,_⟩:=h
  rfl
 obtain ⟨v,pk,far,h,ds,kt,kg,rfl,⟨a,t,gv,rfl,h0,h1,h2⟩,hG,kt1,kt4,kg1,kg4,hfar,hP,hd12,hd0,q⟩:=h;refine ⟨_,i9 (G9 (pv 0) (T8 rfl (r8 (j8 (i:=3) scNear.nd rfl (aC rfl)) (r8 (j8 (i:=4) scNear.nd rfl (aC rfl)) C2))))
  (i9 (o4 (i:=5) scNear.nd rfl (dH rfl) (j9 j5 (u9 (a0 h8 (a0 h8 (a0 h8 (a0 h8 e9))))) (j4 x9 (j9 j5 (pv 1) h8 (λ _ _=>rfl)) h8) (λ _ _=>rfl)))
  (p7 (A4 (t9 a0D (j4 N5 (j6 (a3c rfl) rfl T.max kH (a0 (j4 a1I (pv 3) (pv 4)) e9)) (pv 5)) (pv 2) (p6 _)) (j3 (o4 (i:=5) scNear.nd rfl (dH rfl) h8)) v8)
  (i9 (V9 (i:=3) ["take"] [5] scNear.nd rfl rfl rfl (a1Z (pv 3)) (λ _ _ _ _=>j8 (i:=0) b0z rfl (aC rfl)) (λ _ _ _ _=>j4 N5 (pv 0) (pv 1)))
  (i9 (V9 (i:=4) ["give"] [5] scNear.nd rfl rfl rfl (a1Z (pv 4)) (λ _ _ _ _=>j8 (i:=0) b0K rfl (aC rfl)) (λ _ _ _ _=>j4 N5 (pv 0) (pv 1)))
  (p7 (A4 (t9 N6 (j4 x9 (j4 V1 (j9 j5 (pv 1) h8 (λ _ _=>rfl)) h8) h8) h8 (p6 _))
   (i9 (o4 (i:=6) scNear.nd rfl (aC rfl) (j4 x9 (j9 j5 (pv 1) h8 (λ _ _=>rfl)) (j6 j7 rfl T.len bB (a0 (pv 3) e9))))
    (j3 (G9 (j6 (a2L rfl) rfl T.min iR (a0 (pv 2) (a0 (j4 C4 (j4 C4 (j9 j5 (pv 3) (pv 6) (λ _ _=>rfl)) (j4 x9 (j4 V1 (j9 j5 (pv 1) h8 (λ _ _=>rfl)) h8) h8)) h8) e9))) (U8 (pv 3) (pv 6) K5)))) v8)
  (p7 (A4 (t9 N6 (j4 x9 (j4 V1 (j9 j5 (pv 1) h8 (λ _ _=>rfl)) h8) h8) h8 (p6 _))
   (i9 (o4 (i:=6) scNear.nd rfl (aC rfl) (j4 x9 (j9 j5 (pv 1) h8 (λ _ _=>rfl)) (j6 j7 rfl T.len bB (a0 (pv 4) e9))))
    (j3 (G9 (j6 (a2L rfl) rfl T.min iR (a0 (pv 2) (a0 (j4 C4 (j9 j5 (pv 4) (pv 6) (λ _ _=>rfl)) h8) e9))) (U8 (pv 4) (pv 6) K5)))) v8)
  (j3 (r9 (D4 (a0 (v9 M1 rfl T.tuple fG (a0 (pv 3) e9)) (a0 (v9 M1 rfl T.tuple fG (a0 (pv 4) e9)) e9))))))))))),?_⟩
 obtain ⟨d9,hd9,a9⟩:=M3 (ns:=ds) (k:=9) (by decide) (by lia);obtain ⟨d8,hd8,a8⟩:=M3 (ns:=ds) (k:=8) (by decide) (by lia);have p9:=hd0 d9 hd9;have p8:=hd0 d8 hd8;refine ⟨_,rfl,a,_,rfl,h0,rfl,_,_,rfl,_,_,rfl,rfl,?_⟩;refine ⟨(by show 4<=sizeLine; decide),λ lp hlp=>?_⟩;have s1:=Same.new hlp (.lst [V.int 1,V.int 1,V.int 2,V.int 3]);obtain ⟨bv,hbv,abv⟩:=M3 (ns:=[1,1,2,3]) (k:=d9 % 4) (by lia) (by show d9 % 4<4; lia);have hb:1<=bv/\bv<=3:=by
  simp at hbv;rcases hbv with rfl | rfl | rfl <;> decide
 refine ⟨_,rfl,pk,_,9,_,rfl,rfl,s1.seq hP,a9,_,_,rfl,rfl,(by show (0:Int)<4; decide),lp,_,_,_,rfl,rfl,SqL.of upd_same,abv,?_⟩;have l1:(h.1.map V.int).length=kt:=by rw [aA]; exact hG.lt
 have l2:(h.2.map V.int).length=kg:=by rw [aA]; exact hG.lg
 have hne:h.1++h.2≠[]:=λ z=>by
  have:=congrArg hZ z;rw [aM,hG.lt] at this;simp at this;lia
 refine ⟨λ σ' H'=>∃ b:Int,σ'=[some (.ref a),some (.ref pk),some (.int far),some (.ref t),some (.ref gv),some (.int b),none]/\Same H H'/\(1<=b/\b<=3)/\∀ x∈h.1++h.2,x*b<=far,?_,?_⟩
 ·refine ⟨_,rfl,_,rfl,t,gv,_,_,rfl,rfl,s1.tseq h1,s1.tseq h2,?_,?_,?_,?_⟩
  ·intro z; rw [z] at l1; simp at l1; lia
  ·rw [l1,l2]; exact cO (m8 (by lia))
  ·intro z; rw [z] at l2; simp at l2; lia
  ·intro _ pc hpc
   have s2:=Same.new hpc (.tup (h.1.map V.int++h.2.map V.int));refine ⟨pc,h.1++h.2,rfl,.inr (SqT.of (by rw [upd_same,bC])),hne,λ M hM hMx=>?_⟩;refine ⟨_,rfl,_,_,rfl,rfl,.inr ⟨by lia,by lia⟩,_,rfl,_,_,rfl,rfl,_,rfl,?_⟩;refine D0 (λ c=>?_) (λ c=>?_)
   ·refine ⟨1,rfl,s1.trans s2,by decide,λ x hx=>?_⟩
    rcases aO.mp hx with z | z
    ·have:=hG.t x z; lia
    ·have:=hG.g x z; lia
   ·have c':¬ far<M*bv:=of_decide_eq_false (eM.mpr c)
    refine ⟨bv,rfl,s1.trans s2,hb,λ x hx=>?_⟩;have:=dQ (hMx x hx) (show 0<=bv by lia);lia
 intro σ' H2 hM_; refine X1 λ G_ hG_=>?_; obtain ⟨b,rfl,e2,hb,hbx⟩:=hM_; subst hG_;have mulok:CMul=CMul:=rfl;refine ⟨_,rfl,t,rfl,⟨_,e2.tseq h1⟩,λ tl htl=>?_⟩;refine R6 (W7 (e2.tseq h1)) htl (by rw [l1]; exact m8 (by lia)) (λ x=>.int (vI x*b)) (λ i x H' N hx e hN=>?_) ?_
 ·obtain ⟨k,rfl⟩:=L8 hx
  exact ⟨Wk.set (by decide),_,rfl,_,rfl,_,_,rfl,rfl,.inr ⟨by lia,by lia⟩,hN⟩
 have e3:=e2.write (o:=.lst ((h.1.map V.int).map λ x=>.int (vI x*b))) (e2.free htl);refine ⟨_,rfl,gv,rfl,⟨_,e3.tseq h2⟩,λ gl hgl=>?_⟩;refine R6 (W7 (e3.tseq h2)) hgl (by rw [l2]; exact m8 (by lia)) (λ x=>.int (vI x*b)) (λ i x H' N hx e hN=>?_) ?_
 ·obtain ⟨k,rfl⟩:=L8 hx
  exact ⟨Wk.set (by decide),_,rfl,_,rfl,_,_,rfl,rfl,.inr ⟨by lia,by lia⟩,hN⟩
 have eA:(h.1.map V.int).map (λ x=>V.int (vI x*b))=(h.1.map (·*b)).map V.int:=by rw [aQ,aQ]; rfl
 have eB:(h.2.map V.int).map (λ x=>V.int (vI x*b))=(h.2.map (·*b)).map V.int:=by rw [aQ,aQ]; rfl
 have ftl:H tl=none:=e2.free htl;have fgl:H gl=none:=e3.free hgl;have ne1:tl≠gl:=λ z=>by rw [<- z,upd_same] at hgl; cases hgl
 rw [eA,eB];rw [eA] at e3;have e4:=e3.write (o:=.lst ((h.2.map (·*b)).map V.int)) fgl;have at4:r6 (r6 H2 tl (.lst ((h.1.map (·*b)).map V.int))) gl (.lst ((h.2.map (·*b)).map V.int)) tl=some (.lst ((h.1.map (·*b)).map V.int)):=by rw [c9 ne1,upd_same]
 have ag4:r6 (r6 H2 tl (.lst ((h.1.map (·*b)).map V.int))) gl (.lst ((h.2.map (·*b)).map V.int)) gl=some (.lst ((h.2.map (·*b)).map V.int)):=upd_same;generalize r6 (r6 H2 tl (.lst ((h.1.map (·*b)).map V.int))) gl (.lst ((h.2.map (·*b)).map V.int))=H4 at e4 at4 ag4 ⊢;have tA:∀ x∈h.1.map (·*b),1<=x/\x<=far:=λ x hx=>by
  obtain ⟨y,hy,rfl⟩:=bA.mp hx;have y1:=(hG.t y hy).1;have y2:=hbx y (dN _ hy);have y3:=kA y1 hb.1 (by decide) (by lia);exact ⟨by simpa using y3,y2⟩
 have tB:∀ x∈h.2.map (·*b),0<=x/\x<=far:=λ x hx=>by
  obtain ⟨y,hy,rfl⟩:=bA.mp hx;exact ⟨Int.mul_nonneg (hG.g y hy).1 (by lia),hbx y (bN _ hy)⟩
 have tP:∃ x∈h.2.map (·*b),0<x:=by
  obtain ⟨y,hy,y0⟩:=hG.p;exact ⟨y*b,bA.mpr ⟨y,hy,rfl⟩,dY y0 (by lia)⟩
 have lA:(h.1.map (·*b)).length=kt:=by rw [aA]; exact hG.lt
 have lB:(h.2.map (·*b)).length=kg:=by rw [aA]; exact hG.lg
 generalize h.1.map (·*b)=A0 at tA lA at4;generalize h.2.map (·*b)=B0 at tB lB tP ag4;refine ⟨λ σ' H'=>∃ (A1:List Int) (ks:Option V),σ'=[some (.ref a),some (.ref pk),some (.int far),some (.ref tl),some (.ref gl),some (.int b),ks]/\Same H H'/\H' tl=some (.lst (A1.map V.int))/\H' gl=some (.lst (B0.map V.int))/\A1.length=kt/\∀ x∈A1,1<=x/\x<=far,?_,?_⟩
 ·refine ⟨_,rfl,pk,_,9,_,rfl,rfl,e4.seq hP,a9,_,_,rfl,rfl,⟨by decide,by decide⟩,_,_,rfl,rfl,(by show (0:Int)<3; decide),rfl,_,rfl,?_⟩
  refine D0 (λ c=>?_) (λ c=>⟨A0,none,rfl,e4,at4,ag4,lA,tA⟩);have lA':(A0.map V.int).length=kt:=by rw [aA]; exact lA
  refine ⟨_,rfl,pk,_,8,_,rfl,rfl,e4.seq hP,a8,_,rfl,tl,_,rfl,.inl (SqL.of at4),_,_,rfl,rfl,(by show (0:Int)<((A0.map V.int).length:Int); rw [lA']; lia),?_⟩;have r0:0<=d8 % ((A0.map V.int).length:Int):=eF _ (by rw [lA']; lia);have r1:d8 % ((A0.map V.int).length:Int)<((A0.map V.int).length:Int):=eG _ (by rw [lA']; lia);obtain ⟨x,hx,ax⟩:=M3 (ns:=A0) (k:=d8 % ((A0.map V.int).length:Int)) r0 (by rw [aA] at r1 ⊢; exact r1);have hx1:=tA x hx;refine ⟨_,rfl,_,rfl,_,rfl,tl,_,_,_,rfl,rfl,SqL.of at4,ax,_,rfl,pk,_,9,_,rfl,rfl,e4.seq hP,a9,_,_,rfl,rfl,⟨by decide,by decide⟩,_,_,rfl,rfl,(by show (0:Int)<2; decide),_,_,rfl,rfl,_,_,rfl,rfl,_,_,rfl,?_⟩;refine ⟨_,rfl,_,rfl,tl,_,_,_,rfl,rfl,at4,a3V r0 r1,?_⟩;refine ⟨A0.set (d8 % ((A0.map V.int).length:Int)).toNat _,_,rfl,e4.write ftl,by rw [upd_same,map_set],by rw [c9 (aS ne1)]; exact ag4,by rw [cA]; exact lA,λ y hy=>?_⟩;rcases iN hy with z | z
  ·exact tA y z
  ·rw [z]
   split <;> lia
 intro σ' H5 hM_; refine X1 λ G_ hG_=>?_; obtain ⟨A1,ks,rfl,e5,at5,ag5,lA1,tA1⟩:=hM_; subst hG_;refine ⟨λ σ' H'=>∃ (B1:List Int) (ks:Option V),σ'=[some (.ref a),some (.ref pk),some (.int far),some (.ref tl),some (.ref gl),some (.int b),ks]/\Same H H'/\H' tl=some (.lst (A1.map V.int))/\H' gl=some (.lst (B1.map V.int))/\B1.length=kg/\(∀ x∈B1,0<=x/\x<=far)/\∃ x∈B1,0<x,?_,?_⟩
 ·refine ⟨_,rfl,pk,_,9,_,rfl,rfl,e5.seq hP,a9,_,_,rfl,rfl,⟨by decide,by decide⟩,_,_,rfl,rfl,(by show (0:Int)<3; decide),rfl,_,rfl,?_⟩
  refine D0 (λ c=>?_) (λ c=>⟨B0,ks,rfl,e5,at5,ag5,lB,tB,tP⟩);have lB':(B0.map V.int).length=kg:=by rw [aA]; exact lB
  refine ⟨_,rfl,pk,_,8,_,rfl,rfl,e5.seq hP,a8,_,rfl,gl,_,rfl,.inl (SqL.of ag5),_,_,rfl,rfl,(by show (0:Int)<((B0.map V.int).length:Int); rw [lB']; lia),?_⟩;have r0:0<=d8 % ((B0.map V.int).length:Int):=eF _ (by rw [lB']; lia);have r1:d8 % ((B0.map V.int).length:Int)<((B0.map V.int).length:Int):=eG _ (by rw [lB']; lia);obtain ⟨x,hx,ax⟩:=M3 (ns:=B0) (k:=d8 % ((B0.map V.int).length:Int)) r0 (by rw [aA] at r1 ⊢; exact r1);have hx1:=tB x hx;refine ⟨_,rfl,_,rfl,_,rfl,gl,_,_,_,rfl,rfl,SqL.of ag5,ax,_,_,rfl,rfl,_,_,rfl,?_⟩;refine ⟨_,rfl,_,rfl,gl,_,_,_,rfl,rfl,ag5,a3V r0 r1,?_⟩;have rn:(d8 % ((B0.map V.int).length:Int)).toNat<B0.length:=by rw [aA] at r1 ⊢; lia
  refine ⟨B0.set (d8 % ((B0.map V.int).length:Int)).toNat _,_,rfl,e5.write fgl,by rw [c9 ne1]; exact at5,by rw [upd_same,map_set],by rw [cA]; exact lB,λ y hy=>?_,_,List.mem_set rn _,?_⟩
  ·rcases iN hy with z | z
   ·exact tB y z
   ·rw [z]
    split <;> lia
  ·split <;> lia
 intro σ' H6 hM_; refine X1 λ G_ hG_=>?_; obtain ⟨B1,ks,rfl,e6,at6,ag6,lB1,tB1,tP1⟩:=hM_; subst hG_;refine ⟨_,rfl,tl,_,rfl,.inl ⟨SqL.of at6,λ pt hpt=>?_⟩⟩;have f1:=Same.new hpt (.tup (A1.map V.int));refine ⟨_,rfl,gl,_,rfl,.inl ⟨SqL.of (f1 _ _ ag6),λ pg hpg=>?_⟩⟩;have f2:=Same.new hpg (.tup (B1.map V.int));refine ⟨(by show 2<=sizeLine; decide),λ pr hpr=>?_⟩;have f3:=Same.new hpr (.tup [V.ref pt,V.ref pg]);exact q _ _ (A1,B1) (e6.trans (f1.trans (f2.trans f3))) ⟨pr,pt,pg,rfl,SqT.of upd_same,SqT.of (f3 _ _ (f2 _ _ upd_same)),SqT.of (f3 _ _ upd_same)⟩ ⟨lA1,lB1,tA1,tB1,tP1⟩
end
end Rim
namespace L2
open PySem
end L2
namespace Rim
open PySem L2
def a6I (ns:List Int):PyData:=.tuple (ns.map PyData.int)
def C6 (h:j0):PyData:=.tuple [a6I h.1,a6I h.2]
theorem a2c {K:W.Frag} {H:Hp}:∀ ns:List Int,Dps K H (ns.map V.int) (ns.map PyData.int)
 | []=>.nil
 | n::r=>.cons (.int n) (a2c r)
theorem HS.dp {K:W.Frag} {H:Hp} {v:V} {h:j0} (x:HS K H v h):Dp K H v (C6 h):=by
 obtain ⟨a,t,g,rfl,h1,h2,h3⟩:=x;exact .tup h1 (.cons (.tup h2 (a2c _)) (.cons (.tup h3 (a2c _)) .nil))
theorem Bk.dps {K:W.Frag} {H:Hp}:∀ {vs:List V} {hs:List j0},Bk K H vs hs->Dps K H vs (hs.map C6)
 | _,_,.nil=>.nil
 | _,_,.cons x r=>.cons x.dp (Bk.dps r)
theorem a1S:∀ ns:List Int,PyData.canLayAll0 (ns.map PyData.int)=true
 | []=>by rw [dG,PyData.canLayAll0]
 | n::r=>by rw [aV,PyData.canLayAll0,a1S r,PyData.canLay0]; rfl
theorem a7f (h:j0):(C6 h).canLay0=true:=by
 unfold C6 a6I;rw [PyData.canLay0,PyData.canLayAll0,PyData.canLay0,a1S,PyData.canLayAll0,PyData.canLay0,a1S,PyData.canLayAll0]; rfl
theorem X3:∀ hs:List j0,PyData.canLayAll0 (hs.map C6)=true
 | []=>by rw [dG,PyData.canLayAll0]
 | h::r=>by rw [aV,PyData.canLayAll0,a7f,X3 r]; rfl
section
variable {P:Program} {w:World} {K:W.Frag} {mg:Str->Option Value} {base:Heap} {f g:Addr} {fd gd:FuncData}
end
section
variable {P:Program} {w:World} {K:W.Frag} {mg:Str->Option Value} {base:Heap} {f g:Addr} {fd gd:FuncData}
end
end Rim
namespace Rim
open PySem L2 Fr
def b4v (K:W.Frag):List V->Hp->VK->Prop:=λ vs H Q=>∃ (a:Addr) (ns:List Int),vs=[.ref a]/\SqA K H a (ns.map V.int)/\Q (.int ns.sum) H
theorem a8b (K:W.Frag) {X:Cx} (h:X.K=K) (hc:X.calm=true):G2 X (.builtin "sum") (b4v K):=by subst h; exact a4S hc
theorem a5C (K:W.Frag) {X:Cx} (h:X.K=K):IxR X (b3A K):=by subst h; exact a1W
def FrV (K:W.Frag) (H:Hp) (v:V) (f:Q2):Prop:=∃ a,v=.ref a/\SqT K H a [.int f.1,.int f.2]
def FrT (H:Hp) (v:V) (f:Q2):Prop:=∃ a,v=.ref a/\H a=some (.tup [.int f.1,.int f.2])
theorem FrT.v {K:W.Frag} {H:Hp} {v:V} {f:Q2} (h:FrT H v f):FrV K H v f:=by
 obtain ⟨a,e,q⟩:=h;exact ⟨a,e,SqT.of q⟩
theorem FrT.same {H H':Hp} {v:V} {f:Q2} (e:Same H H') (h:FrT H v f):FrT H' v f:=by
 obtain ⟨a,z,q⟩:=h;exact ⟨a,z,e _ _ q⟩
theorem FrV.same {K:W.Frag} {H H':Hp} {v:V} {f:Q2} (e:Same H H') (h:FrV K H v f):FrV K H' v f:=by
 obtain ⟨a,z,q⟩:=h;exact ⟨a,z,e.tseq q⟩
section
variable {P:Program} {w:World} {K:W.Frag} {mg:Str->Option Value} {base:Heap} {f g:Addr} {fd gd:FuncData}
structure Cal (P:Program) (w:World) (K:W.Frag) (mg:Str->Option Value) (base:Heap) (n:Nat) (x:Str) (ps:List Str) (sp:Sp) (fa:Addr) (d:FuncData):Prop where
 ok:FnOk P w K mg base E4 n fa d ps sp
 b:Binds K d ps []
 k:W.keepIn K (.ref fa)=true
 m:mg x=some (.ref fa)
def b1E:Sp:=λ vs H Q _=>∃ a b:Int,vs=[.int a,.int b]/\0<=b/\Q (.int (gI a b)) H
theorem scDiv:m9 ["one","other"] ["one","other"] (i8 b2c):=⟨rfl,rfl,rfl,by decide +kernel,rfl,by decide +kernel,by decide +kernel⟩
def b4O:St->Nat:=λ σ=>match σ with | [_,some (.int y)]=>y.toNat | _=>0
theorem b2t (x:Int):(if x<0 then -x else x)=gI x 0:=by
 rw [a9R]
 split <;> lia
theorem b2k {n:Nat} (F:Fun K "common_divisor" "common_divisor" b2c f fd) (T:x5 mg):FnOk P w K mg base E4 (n+1) f fd ["one","other"] b1E:=by
 refine F.ok scDiv (λ vs H Q E h=>?_) (λ cdv A outer s H vs Q E hr h=>?_)
 ·obtain ⟨a,b,rfl,_⟩:=h
  rfl
 obtain ⟨a,b,rfl,hb,q⟩:=h;refine ⟨_,i9 (a4Y PassesOwn.never (t9 a9B (pv 1) h8 (p6 _)) (j3 (b2A (i:=0) (j:=1) rfl scDiv.nd rfl rfl (by decide) rfl rfl (a0 (pv 1) (a0 (j4 x9 (pv 0) (pv 1)) e9)) rfl)))
  (j3 (r9 (j6 a8C rfl T.abs (mO) (a0 (pv 0) e9)))),?_⟩
 refine a9H (λ σ H'=>∃ x y:Int,σ=[some (.int x),some (.int y)]/\H'=H/\0<=y/\gI x y=gI a b) (λ σ _=>b4O σ) ⟨a,b,rfl,rfl,hb,rfl⟩ ?_ (λ σ H Q Q' hq ⟨v,h1,h2,k,h3,q⟩=>⟨v,h1,h2,k,h3,hq _ _ q⟩);rintro σ H' ⟨x,y,rfl,rfl,hy,hg⟩;refine ⟨_,rfl,rfl,_,rfl,?_⟩;refine D0 (λ c=>?_) (λ c=>?_)
 ·have hy0:0<y:=by
   by_cases z:y=0
   ·subst z; simp at c
   ·lia
  have hm:=eF x (show y≠0 by lia);have hl:=eG x hy0;refine ⟨_,rfl,_,rfl,_,rfl,_,_,rfl,rfl,hy0,_,_,rfl,⟨y,x % y,rfl,rfl,hm,?_⟩,?_⟩
  ·rw [b0x]; exact hg
  ·show (x % y).toNat<y.toNat
   lia
 ·have hy0:y=0:=by
   by_cases z:y=0
   ·exact z
   ·exact absurd (by simp [z]) c
  subst hy0;refine ⟨_,rfl,_,rfl,?_⟩;rw [b2t,hg];exact q
end
theorem Big.mono {n m:Nat} {i:Int} (h:Big n i) (hn:n<=m):Big m i:=aR h (gU (by decide) hn)
theorem Big.mul {n m:Nat} {i j:Int} (h:Big n i) (k:Big m j):Big (n+m) (i*j):=by
 unfold Big at *;rw [iK,kJ];exact Nat.mul_lt_mul_of_lt_of_lt h k
section
variable {P:Program} {w:World} {K:W.Frag} {mg:Str->Option Value} {base:Heap} {f g:Addr} {fd gd:FuncData} {n:Nat}
def b1q:Sp:=λ vs H Q _=>∃ t b:Int,vs=[.int t,.int b]/\0<b/\b<2 ^ 8000/\∀ (v:V) (H':Hp),Same H H'->FrT H' v (low t b)->Q v H'
theorem scLow:m9 ["top","bottom","divisor"] ["top","bottom"] (i8 b1Q):=⟨rfl,rfl,rfl,by decide +kernel,rfl,by decide +kernel,by decide +kernel⟩
theorem b2d {fa:Addr} {da:FuncData} (F:Fun K "lowest" "lowest" b1Q f fd) (T:x5 mg) (C:Cal P w K mg base n "common_divisor" ["one","other"] b1E fa da):FnOk P w K mg base E4 (n+1) f fd ["top","bottom"] b1q:=by
 refine F.ok scLow (λ vs H Q E h=>?_) (λ cdv A outer s H vs Q E hr h=>?_)
 ·obtain ⟨a,b,rfl,_⟩:=h
  rfl
 obtain ⟨t,b,rfl,hb,hb2,q⟩:=h;refine ⟨_,i9 (A4 (t9 N6 (pv 1) h8 (p6 _)) a2P v8)
  (i9 (o4 (i:=2) scLow.nd rfl (aC rfl) (o6 C.ok hr rfl C.m C.k C.b .nil w6 (a0 (pv 0) (a0 (pv 1) e9))))
  (i9 (A4 (t9 a1p (pv 1) h8 (p6 _)) a2P v8)
  (j3 (r9 (D4 (a0 (j4 a2g (pv 0) (pv 2)) (a0 (j4 a2g (pv 1) (pv 2)) e9))))))),?_⟩
 refine ⟨_,rfl,rfl,_,rfl,?_⟩;refine D0 (λ c=>?_) (λ _=>?_)
 ·have:=V.int.inj (of_decide_eq_true c); lia
 refine ⟨_,rfl,_,rfl,t,b,rfl,bH hb,?_⟩;refine ⟨_,rfl,_,_,rfl,rfl,_,rfl,?_⟩;refine D0 (λ c=>?_) (λ _=>?_)
 ·have:b<0:=of_decide_eq_true c; lia
 have hg:=a5g (a:=t) hb;have hgl:=b3c (a:=t) hb;refine ⟨_,rfl,_,rfl,_,_,rfl,rfl,⟨hg,kK hgl hb2⟩,_,rfl,_,rfl,_,_,rfl,rfl,⟨hg,kK hgl hb2⟩,(by show 2<=sizeLine; decide),λ p hp=>?_⟩;exact q _ _ (Same.new hp _) ⟨p,rfl,upd_same⟩
theorem M9 {K:W.Frag} (t:Value):W.kitOne K t t=some true:=by unfold W.kitOne; rw [if_pos (beq_self_eq_true _)]
theorem a3G {K:W.Frag}:W.kitOne K (.type "int") (.type "bool")=some false:=by
 unfold W.kitOne;rw [if_neg (by decide)];rfl
end
section
variable {P:Program} {w:World} {K:W.Frag} {mg:Str->Option Value} {base:Heap} {f g:Addr} {fd gd:FuncData} {n:Nat}
def a4C (k:Nat) (m:Int):Prop:=0<=m/\m<(k:Int)
def a8N (K:W.Frag) (CN:Addr):Sp:=λ vs H Q E=>∃ (a:Addr) (xs:List V) (m:Int),vs=[.ref a,.int m]/\SqL K H a xs/\m.natAbs.log2<1920/\(∀ (i:Nat) x,m=(i:Int)->xs[i]?=some x->Q x H)/\(¬ a4C xs.length m->E (.ref CN) none H)
theorem b3T:m9 ["book","number"] ["book","number"] (i8 b2M):=⟨rfl,rfl,rfl,by decide +kernel,rfl,by decide +kernel,by decide +kernel⟩
theorem b1Y {CN:Addr} (F:Fun K "house_of" "house_of" b2M f fd) (T:x5 mg) (kN:V5 K CN) (mN:mg "NoHouse"=some (.ref CN)):FnOk P w K mg base (CX1 P w) (n+1) f fd ["book","number"] (a8N K CN):=by
 refine F.ok1 b3T (λ vs H Q E h=>?_) (λ cdv A outer s H vs Q E hr h=>?_)
 ·obtain ⟨a,xs,m,rfl,_⟩:=h
  rfl
 obtain ⟨a,xs,m,rfl,hS,hm,q,hE⟩:=h;refine ⟨_,i9 (A4 (U3 (a4u a4i a1p h8 (pv 1) (j6 j7 rfl T.len bB (a0 (pv 0) e9)))) (j3 (a2z kN rfl mN hr.hd (a0 (b0r (pv 1) (by decide)) e9))) v8)
  (j3 (r9 (j9 j5 (pv 0) (pv 1) (λ _ _=>rfl)))),?_⟩
 refine ⟨_,rfl,_,_,rfl,rfl,_,rfl,?_⟩;have bad:¬ a4C xs.length m->a9r (a0i (tFs (a4t 1)) a3y) CN E { nx:=λ _ H'=>Q .non H',rt:=Q } (N8 ["book","number"] [.ref a,.int m]) H:=λ hb=>⟨_,rfl,m,rfl,hm,λ x=>⟨(by show 1<=1000; decide),hE hb⟩⟩;refine D0 (λ c=>?_) (λ c=>?_)
 ·have c':0<=m:=of_decide_eq_true c
  refine ⟨_,rfl,a,_,rfl,.inl hS,_,_,rfl,rfl,_,rfl,?_⟩;refine D0 (λ d=>?_) (λ d=>?_)
  ·have d':¬ m<(xs.length:Int):=of_decide_eq_false (by simpa using d)
   exact bad λ z=>d' z.2
  ·have d':m<(xs.length:Int):=of_decide_eq_true (by simpa using d)
   obtain ⟨j,rfl⟩:∃ j:Nat,m=(j:Int):=⟨m.toNat,by lia⟩;have hi:j<xs.length:=by lia
   exact ⟨_,rfl,_,rfl,a,_,_,_,rfl,rfl,hS,D9 (aH hi),q j xs[j] rfl (aH hi)⟩
 ·have c':¬ 0<=m:=of_decide_eq_false (eM.mpr c)
  exact ⟨_,rfl,Q9 (bad λ z=>c' z.1)⟩
end
end Rim
namespace L2
open PySem PySem.Spec PyProof.Rows
structure b1y (K:W.Frag) (P:Params) (d:Addr):Prop where
 ex:∃ es n,K.lookup d=some ⟨.type "dict",none,.dict es n,#[]⟩/\W.KeysLit P es.toList
def b5k (K:W.Frag) (P:Params):R2:=λ x y H Q=>∃ d z t,x=.ref d/\y=.str z/\b1y K P d/\W.nsIn K d z=some (some (.ref t))/\Q (.ref t) H
theorem a8V (K:W.Frag) (P:Params) {X:Cx} (hK:X.K=K) (hP:X.w.params=P):IxR X (b5k K P):=by
 subst hK;subst hP;intro value slice pins s σ H x y v u Q I rx ry h hs;obtain ⟨d,z,t,rfl,rfl,⟨es,n,hl,hk⟩,e,q⟩:=h
 cases rx;obtain ⟨tk,rfl⟩:=ry;obtain ⟨m,hm⟩:=I.fr;exact W.topItem_K hm I.mod.kin hl hk e ⟨.ref t,H,I.tok _,rfl,q⟩ (by first | exact hs | exact hs _ _)
end L2
namespace L2
open PySem
theorem b2s (K:W.Frag) {X:Cx} {tg l:Expr} {tl:TE} (h:X.K=K) (hl:PE X l tl):PI X tg l (b3i K tl):=by subst h; exact a1Z hl
end L2
namespace Rim
open PySem L2 Fr
def Szw (z:Str):Prop:=z="any"\/z="one"\/z="less"\/z="more"
def M8 (z:Str):List Int:=if z="any" then [] else if z="one" then [1,-1] else if z="less" then [-1] else [1]
structure Sg (K:W.Frag) (Pm:Params) (mg:Str->Option Value) (d:Addr):Prop where
 m:mg "SIZE_SIGNS"=some (.ref d)
 k:b1y K Pm d
 tt:∀ z,Szw z->∃ t,W.nsIn K d z=some (some (.ref t))/\∀ H,SqT K H t ((M8 z).map V.int)
def A6 (z:Str) (h:j0):List Int:=h.1.map (λ x=>-x)++h.2++M8 z
section
variable {P:Program} {w:World} {K:W.Frag} {mg:Str->Option Value} {base:Heap} {f Pt d:Addr} {fd:FuncData} {n:Nat} {C:Addr}
def M5 (K:W.Frag):Sp:=λ vs H Q _=>∃ (ba:Addr) (xs:List V) (hs:List j0) (z:Str) (kt kg:Nat),vs=[.ref ba,.str z]/\Szw z/\SqL K H ba xs/\Bk K H xs hs/\hs.length<=100/\kt<=100/\kg<=100/\(∀ h∈hs,h.1.length=kt/\h.2.length=kg) ∧
 ∀ (r:Addr) (H':Hp) (rs:List Addr),Same H H'->H' r=some (.lst (rs.map V.ref))->rs.length=hs.length->(∀ (i:Nat) a h,rs[i]?=some a->hs[i]?=some h->H' a=some (.lst ((A6 z h).map V.int)))->Q (.ref r) H'
theorem scHr:m9 ["houses","sizes","signs"] ["houses","sizes"] (i8 O5):=⟨rfl,rfl,rfl,by decide +kernel,rfl,by decide +kernel,by decide +kernel⟩
theorem b1o:(["takes","gives","signs"]:List Str).Nodup:=by decide +kernel
theorem b4k:(["take"]:List Str).Nodup:=by decide +kernel
theorem a1y (z:Str):(M8 z).length<=2:=by
 unfold M8
 by_cases h1:z="any"
 ·rw [if_pos h1]; decide
 by_cases h2:z="one"
 ·rw [if_neg h1,if_pos h2]; decide
 by_cases h3:z="less"
 ·rw [if_neg h1,if_neg h2,if_pos h3]; decide
 ·rw [if_neg h1,if_neg h2,if_neg h3]; decide
noncomputable def hrT {cdv:Value} {A:Around} {outer:List Env} {s:Shared} {H:Hp} {E:XK} (N:x5 mg) (G:Sg K w.params mg d) :
  { t:TS // PSs (K1 E4 P w K mg base ["houses","sizes","signs"] "house_rows" (i8 O5) f cdv A outer s H E).nox (w4 O5) t } :=
 ⟨_,i9 (o4 (i:=2) scHr.nd rfl (dH rfl) (v9 B7 rfl N.list dJ (a0 (j9 (a8V K w.params rfl rfl) (K2 (v:=.ref d) rfl G.m rfl) (pv 1) (λ _ _=>rfl)) e9)))
  (j3 (r9 (V2 ["takes","gives"] [2] rfl (M4 (pv 0))
   (λ _ _ _ _=>T4 K (n:=2) rfl rfl (r8 (j8 (i:=0) b1o rfl (aC rfl)) (r8 (j8 (i:=1) b1o rfl (aC rfl)) C2)))
   (λ _ _ _ _=>j4 C5 (j4 C5 (V2 ["take"] [] rfl (b2s K rfl (pv 0)) (λ _ _ _ _=>j8 (i:=0) b4k rfl (aC rfl)) (λ _ _ _ _=>O6 J1 (pv 0))) (v9 (a6c K rfl) rfl N.list dJ (a0 (pv 1) e9))) (pv 2)))))⟩
theorem a3H (F:Fun K "house_rows" "house_rows" O5 f fd) (N:x5 mg) (G:Sg K w.params mg d):FnOk P w K mg base E4 (n+1) f fd ["houses","sizes"] (M5 K):=by
 refine F.ok scHr (λ vs H Q E h=>?_) (λ cdv A outer s H vs Q E hr h=>?_)
 ·obtain ⟨ba,xs,hs,z,kt,kg,rfl,_⟩:=h
  rfl
 obtain ⟨ba,xs,hs,z,kt,kg,rfl,hz,hB,hBk,hl,hkt,hkg,hlen,k⟩:=h;refine ⟨_,(hrT N G).2,?_⟩;obtain ⟨t,ht,hT⟩:=G.tt z hz;have xl:xs.length=hs.length:=Paired.length hBk;refine ⟨_,rfl,d,z,t,rfl,rfl,G.k,ht,t,_,rfl,.inr (hT _),λ sl hsl=>?_⟩;have e0:=Same.new hsl (.lst ((M8 z).map V.int));have hS0:r6 H sl (.lst ((M8 z).map V.int)) sl=some (.lst ((M8 z).map V.int)):=upd_same;refine ⟨_,rfl,ba,rfl,⟨_,e0.seq hB⟩,λ l hl'=>?_⟩;refine a3T (J5 (e0.seq hB)) hl' (by rw [xl]; exact m8 (by lia)) (λ i y H2=>∃ a h,y=.ref a/\a≠l/\hs[i]?=some h/\H2 a=some (.lst ((A6 z h).map V.int)))
  (λ i y H2 H3 ⟨a,h,h1,h2,h3,h4⟩ e=>⟨a,h,h1,h2,h3,e a _ h2 h4⟩) (λ i x H2 ys N' hx e hl2 hN=>?_) (λ ys H2 e hl2 len pr=>?_)
 ·obtain ⟨h,hh,hHS⟩:=Paired.at hBk hx
  have hH2:=hHS.same (e0.trans e);obtain ⟨a,ta,ga,rfl,p1,p2,p3⟩:=hH2;have lh:=hlen h (bS hh);refine ⟨a,_,rfl,p1,rfl,_,_,rfl,_,_,rfl,rfl,?_,?_⟩
  ·refine ⟨by simp,λ k w ek=>?_⟩
   have:¬ k<2:=λ hk=>by
    unfold blkσ at ek;rw [bO (by simpa using hk),dL] at ek
    split at ek <;> cases ek
   rw [bE (by lia),bE (by lia)]; exact ek
  refine ⟨_,rfl,ta,rfl,⟨_,p2⟩,λ a1 h1=>?_⟩;refine R6 (W7 p2) h1 (by rw [aA,lh.1]; exact m8 (by lia)) (λ x=>.int (-(vI x))) (λ j x H' N2 hx2 e2 hN2=>?_) ?_
  ·obtain ⟨x',rfl,_⟩:=a0P hx2
   exact ⟨Wk.set (by decide),_,rfl,_,rfl,hN2⟩
  have eg:(h.1.map V.int).map (λ x=>V.int (-(vI x)))=(h.1.map λ x=>-x).map V.int:=by rw [aQ,aQ]; rfl
  rw [eg];have s1:=Same.new h1 (.lst ((h.1.map λ x=>-x).map V.int));refine ⟨_,rfl,ga,_,rfl,.inr (s1.tseq p3),λ a2 h2=>?_⟩;have s2:=s1.trans (Same.new h2 (.lst (h.2.map V.int)));have n12:a1≠a2:=d7 upd_same h2;have sz:=m8 (show kt+kg+2<=1000 by lia);have sg:=a1y z;refine ⟨a1,a2,_,_,rfl,rfl,(by rw [c9 n12]; exact upd_same),upd_same,?_,λ a3 h3=>?_⟩
  ·rw [aA,aA,aA,lh.1,lh.2]; lia
  have s3:=s2.trans (Same.new h3 (.lst ((h.1.map λ x=>-x).map V.int++h.2.map V.int)));have sl3:=s3 _ _ (e _ _ hS0);refine ⟨_,rfl,a3,sl,_,_,rfl,rfl,upd_same,sl3,?_,λ a4 h4=>?_⟩
  ·rw [aM,aA,aA,aA,aA,lh.1,lh.2]; lia
  refine hN _ _ (s3.trans (Same.new h4 _)) ⟨a4,h,rfl,λ z'=>?_,hh,?_⟩
  ·rw [z',s3 _ _ hl2] at h4; cases h4
  ·rw [upd_same]
   unfold A6;rw [bC,bC]
 ·have hys:ys=(ys.map a4e).map V.ref:=by
   rw [aQ];refine cK λ i=>?_;rw [aD]
   cases qi:ys[i]? with
   | none=>rfl
   | some y =>
    obtain ⟨a,_,rfl,_⟩:=pr i y qi;rfl
  refine k l H2 (ys.map a4e) (e0.trans e) (by rw [hl2]; rw [<- hys]) (by rw [aA,len,xl]) λ i a h hi hh=>?_;rw [aD] at hi
  cases qi:ys[i]? with
  | none=>rw [qi] at hi; cases hi
  | some y =>
   obtain ⟨a',h',rfl,_,h3,h4⟩:=pr i y qi;rw [qi] at hi;have:a'=a:=aL hi;subst this;rw [hh] at h3
   cases h3;exact h4
end
def K9 (z:Str) (h:j0):List Int:=aG h.1.length 0++h.2++M8 z
def N7 (z:Str) (h:j0):List Int:=h.1++aG h.2.length 0++aG (M8 z).length 0
def E1 (z:Str) (hs:List j0) (h:j0):List (List Int):=hs.map (A6 z)++[N7 z h]
def a0k (hs:List j0):List Int:=aG hs.length 0++[1]
theorem S8 (k:Nat):(aG k [V.int 0]).flatten=(aG k (0:Int)).map V.int:=by
 induction k with
 | zero=>rfl
 | succ k ih=>rw [cZ,eX,ih,cZ,aV]; rfl
section
variable {P:Program} {w:World} {K:W.Frag} {mg:Str->Option Value} {base:Heap} {f Pt d:Addr} {fd:FuncData} {n:Nat} {C:Addr}
abbrev OfE (z:Str) (hs:List j0) (h:j0) (S:Lp.Bo):Prop:=Lp.Of (hs.length+1) (h.1.length+h.2.length+(M8 z).length) (V4 (E1 z hs h)) (G8 (a0k hs)) (G8 (K9 z h)) S
def a4z (K:W.Frag) (Pt:Addr):Sp:=λ vs H Q _=>∃ (ba:Addr) (hv:V) (xs:List V) (hs:List j0) (h:j0) (z:Str) (far:Int) (kt kg m q:Nat),vs=[.ref ba,hv,.str z]/\Szw z/\SqL K H ba xs/\Bk K H xs hs/\HS K H hv h/\HG far kt kg h/\(∀ h∈hs,HG far kt kg h)/\far<=2 ^ 60 ∧
 hs.length<=16/\kt<=20/\kg<=20/\m=hs.length+1/\q=h.1.length+h.2.length+(M8 z).length/\LT Pt H ∧
 (∀ (S:Lp.Bo) (H':Hp) (t aa wa:Addr),OfE z hs h S->(∀ j,j<q->¬ S.T m j<0)->Sz 4000 m q S->Same1 Pt H H'->LT Pt H'->H' t=some (.tup [.int (S.T m q),.ref aa,.ref wa,.int S.d]) →
  H' aa=some (.lst ((u0 m q S).map V.int))->H' wa=some (.lst ((K7 m q S).map V.int))->Q (.ref t) H') ∧
 ∀ (S:Lp.Bo) (H':Hp) (c:Nat),OfE z hs h S->c<q->S.T m c<0->(∀ i,i<m->¬ 0<S.T i c)->Same1 Pt H H'->LT Pt H'->Q .non H'
theorem scEa:m9 ["houses","house","sizes","takes","gives","signs","earned","paid"] ["houses","house","sizes"] (i8 Z7):=⟨rfl,rfl,rfl,by decide +kernel,rfl,by decide +kernel,by decide +kernel⟩
noncomputable def eaT {cdv:Value} {A:Around} {outer:List Env} {s:Shared} {H:Hp} {E:XK} {f1 f2:Addr} {d1 d2:FuncData} (N:x5 mg) (G:Sg K w.params mg d) (Cg:a0f P w K mg base n "greatest" ["goal","rows","bounds"] (P4 K C Pt) f1 d1) (Ch:a0f P w K mg base n "house_rows" ["houses","sizes"] (M5 K) f2 d2)
  (hr:Room n (A.deeper (dC "greatest_earned" (i8 Z7) s.heap.objs.size f cdv))) :
  { t:TS // PSs (K1 E4 P w K mg base ["houses","house","sizes","takes","gives","signs","earned","paid"] "greatest_earned" (i8 Z7) f cdv A outer s H E).nox (w4 Z7) t } :=
 ⟨_,i9 (G9 (pv 1) (T8 rfl (r8 (j8 (i:=3) scEa.nd rfl (aC rfl)) (r8 (j8 (i:=4) scEa.nd rfl (aC rfl)) C2))))
  (i9 (o4 (i:=5) scEa.nd rfl (aC rfl) (v9 B7 rfl N.list dJ (a0 (j9 (a8V K w.params rfl rfl) (K2 (v:=.ref d) rfl G.m rfl) (pv 2) (λ _ _=>rfl)) e9)))
  (p7 (o4 (i:=6) scEa.nd rfl (aC rfl) (j4 C5 (j4 C5 (j4 W4 (u9 (a0 h8 e9)) (j6 j7 rfl N.len bB (a0 (pv 3) e9))) (v9 B7 rfl N.list dJ (a0 (pv 4) e9))) (pv 5)))
  (p7 (o4 (i:=7) scEa.nd rfl (aC rfl) (j4 C5 (j4 C5 (v9 B7 rfl N.list dJ (a0 (pv 3) e9)) (j4 W4 (u9 (a0 h8 e9)) (j6 j7 rfl N.len bB (a0 (pv 4) e9)))) (j4 W4 (u9 (a0 h8 e9)) (j6 j7 rfl N.len bB (a0 (pv 5) e9)))))
  (j3 (r9 (o6 Cg.ok hr rfl Cg.m Cg.k Cg.b .nil w6 (a0 (pv 6) (a0 (j4 C5 (o6 Ch.ok hr rfl Ch.m Ch.k Ch.b .nil w6 (a0 (pv 0) (a0 (pv 2) e9))) (u9 (a0 (pv 7) e9)))
   (a0 (j4 C5 (j4 W4 (u9 (a0 h8 e9)) (j6 j7 rfl N.len bB (a0 (pv 0) e9))) (u9 (a0 h8 e9))) e9)))))))))⟩
theorem b1n:∀ k,k<20->Lp.bnd (2 ^ 60) (k+1)<2 ^ 4000:=by decide +kernel
theorem Z3 {rows:List (List Int)} {i j:Nat} {row:List Int} (h:rows[i]?=some row):V4 rows i j=row.getD j 0:=by
 have e:rows.getD i []=row:=by rw [aI,h]; rfl
 unfold V4;rw [e]
theorem S5 {l:List Int} {M:Nat} (h:∀ x∈l,x.natAbs<=M) (j:Nat):(l.getD j 0).natAbs<=M:=by
 rw [aI]
 cases e:l[j]? with
 | none=>exact bR _
 | some x=>exact h x (bS e)
theorem a1x (z:Str):∀ x∈M8 z,x.natAbs<=2 ^ 60:=by
 unfold M8
 by_cases h1:z="any"
 ·rw [if_pos h1]; decide
 by_cases h2:z="one"
 ·rw [if_neg h1,if_pos h2]; decide
 by_cases h3:z="less"
 ·rw [if_neg h1,if_neg h2,if_pos h3]; decide
 ·rw [if_neg h1,if_neg h2,if_neg h3]; decide
theorem b3g {z:Str} {hs:List j0} {h:j0} {far:Int} {kt kg:Nat} (hh:HG far kt kg h) (hhs:∀ h∈hs,HG far kt kg h) (hf:far<=2 ^ 60) (q:Nat) :
  ∀ v,Lp.Fits (2 ^ 60) (hs.length+1+1) (Lp.Vv (hs.length+1) q (V4 (E1 z hs h)) (G8 (a0k hs)) (G8 (K9 z h)) v):=by
 have ht:∀ g:j0,HG far kt kg g->∀ x∈g.1,x.natAbs<=2 ^ 60:=λ g hg x hx=>by have:=hg.t x hx; lia
 have hg':∀ g:j0,HG far kt kg g->∀ x∈g.2,x.natAbs<=2 ^ 60:=λ g hg x hx=>by have:=hg.g x hx; lia
 have z0:∀ k:Nat,∀ x∈List.replicate k (0:Int),x.natAbs<=2 ^ 60:=λ k x hx=>by rw [(eH.mp hx).2]; decide
 have rows:∀ r∈E1 z hs h,∀ x∈r,x.natAbs<=2 ^ 60:=λ r hr x hx=>by
  unfold E1 at hr;rcases aO.mp hr with hr | hr
  ·obtain ⟨g,hg,rfl⟩:=bA.mp hr
   unfold A6 at hx;rcases aO.mp hx with hx | hx
   ·rcases aO.mp hx with hx | hx
    ·obtain ⟨y,hy,rfl⟩:=bA.mp hx
     have:=ht g (hhs g hg) y hy;rw [gE]; exact this
    ·exact hg' g (hhs g hg) x hx
   ·exact a1x z x hx
  ·rw [bF.mp hr] at hx
   unfold N7 at hx;rcases aO.mp hx with hx | hx
   ·rcases aO.mp hx with hx | hx
    ·exact ht h hh x hx
    ·exact z0 _ x hx
   ·exact z0 _ x hx
 have goal:∀ x∈K9 z h,x.natAbs<=2 ^ 60:=λ x hx=>by
  unfold K9 at hx;rcases aO.mp hx with hx | hx
  ·rcases aO.mp hx with hx | hx
   ·exact z0 _ x hx
   ·exact hg' h hh x hx
  ·exact a1x z x hx
 have bnds:∀ x∈a0k hs,x.natAbs<=2 ^ 60:=λ x hx=>by
  unfold a0k at hx;rcases aO.mp hx with hx | hx
  ·exact z0 _ x hx
  ·rw [bF.mp hx]; decide
 intro v i _;unfold Lp.Vv
 split
 ·split
  ·unfold V4
   refine S5 (λ x hx=>?_) v;rw [aI] at hx
   cases e:(E1 z hs h)[i]? with
   | none=>rw [e] at hx; cases hx
   | some r=>rw [e] at hx; exact rows r (bS e) x hx
  ·split
   ·rw [gE]; exact S5 goal v
   ·exact bR _
 ·split
  ·split <;> decide
  ·split
   ·exact S5 bnds i
   ·exact bR _
end
section
variable {P:Program} {w:World} {K:W.Frag} {mg:Str->Option Value} {base:Heap} {f Pt d:Addr} {fd:FuncData} {n:Nat} {C:Addr}
theorem b0R {H':Hp} {rs:List Addr} {hs:List j0} {z:Str} (hl:rs.length=hs.length) (h:∀ (i:Nat) a g,rs[i]?=some a->hs[i]?=some g->H' a=some (.lst ((A6 z g).map V.int))):RowsL K H' (rs.map V.ref) (hs.map (A6 z)):=by
 induction hs generalizing rs with
 | nil =>
  cases rs with
  | nil=>exact .nil
  | cons a r=>simp at hl
 | cons g hs ih =>
  cases rs with
  | nil=>simp at hl
  | cons a r=>exact .cons ⟨a,rfl,SqL.of (h 0 a g rfl rfl)⟩ (ih (by simpa using hl) λ i b g' h1 h2=>h (i+1) b g' (by simpa using h1) (by simpa using h2))
theorem a7i {f1 f2:Addr} {d1 d2:FuncData} (F:Fun K "greatest_earned" "greatest_earned" Z7 f fd) (N:x5 mg) (G:Sg K w.params mg d) (Cg:a0f P w K mg base n "greatest" ["goal","rows","bounds"] (P4 K C Pt) f1 d1) (Ch:a0f P w K mg base n "house_rows" ["houses","sizes"] (M5 K) f2 d2) :
  FnOk P w K mg base E4 (n+1) f fd ["houses","house","sizes"] (a4z K Pt):=by
 refine F.ok scEa (λ vs H Q E h=>?_) (λ cdv A outer s H vs Q E hr h=>?_)
 ·obtain ⟨ba,hv,xs,hs,h,z,far,kt,kg,m,q,rfl,_⟩:=h
  rfl
 obtain ⟨ba,hv,xs,hs,h,z,far,kt,kg,m,q,rfl,hz,hB,hBk,hHS,hh,hhs,hfar,h16,hkt,hkg,rfl,rfl,L,kT,kN⟩:=h;refine ⟨_,(eaT N G Cg Ch hr).2,?_⟩;obtain ⟨ha,ta,ga,rfl,p1,p2,p3⟩:=id hHS;obtain ⟨t,ht,hT⟩:=G.tt z hz;have xl:xs.length=hs.length:=Paired.length hBk;have sg:=a1y z;have s1k:=m8 (show (1000:Nat)<=1000 from aF _);have l1:=hh.lt;have l2:=hh.lg;refine ⟨_,rfl,ha,_,rfl,p1,rfl,_,_,rfl,_,_,rfl,rfl,?_⟩;refine ⟨_,rfl,d,z,t,rfl,rfl,G.k,ht,t,_,rfl,.inr (hT _),λ sl hsl=>?_⟩;have e0:=Same.new hsl (.lst ((M8 z).map V.int));have hS0:r6 H sl (.lst ((M8 z).map V.int)) sl=some (.lst ((M8 z).map V.int)):=upd_same;refine ⟨λ σ' H1=>∃ ea:Addr,σ'=[some (.ref ba),some (.ref ha),some (.str z),some (.ref ta),some (.ref ga),some (.ref sl),some (.ref ea),none]/\Same (r6 H sl (.lst ((M8 z).map V.int))) H1/\H1 ea=some (.lst ((K9 z h).map V.int)),?_,?_⟩
 ·refine ⟨(by show 1<=sizeLine; decide),λ a1 h1=>?_⟩
  have s1:=Same.new h1 (.lst [.int 0]);refine ⟨_,rfl,ta,_,rfl,.inr (s1.tseq (e0.tseq p2)),a1,_,_,rfl,rfl,upd_same,by lia,by rw [aA,l1]; lia,by rw [aA,l1,aY]; simp; lia,λ a2 h2=>?_⟩;rw [aA,aY,S8];have s2:=s1.trans (Same.new h2 (.lst ((aG h.1.length (0:Int)).map V.int)));refine ⟨_,rfl,ga,_,rfl,.inr (s2.tseq (e0.tseq p3)),λ a3 h3=>?_⟩;have s3:=s2.trans (Same.new h3 (.lst (h.2.map V.int)));have n23:a2≠a3:=d7 upd_same h3;refine ⟨a2,a3,_,_,rfl,rfl,(by rw [c9 n23]; exact upd_same),upd_same,?_,λ a4 h4=>?_⟩
  ·rw [aA,aA,bP,l1,l2]; lia
  have s4:=s3.trans (Same.new h4 (.lst ((aG h.1.length (0:Int)).map V.int++h.2.map V.int)));refine ⟨_,rfl,a4,sl,_,_,rfl,rfl,upd_same,s4 _ _ hS0,?_,λ a5 h5=>?_⟩
  ·rw [aM,aA,aA,aA,bP,l1,l2]; lia
  refine ⟨a5,rfl,s4.trans (Same.new h5 _),?_⟩;rw [upd_same];unfold K9;rw [bC,bC]
 intro σ1 H1 hM_; refine X1 λ G_ hG_=>?_; obtain ⟨ea,rfl,e1,he⟩:=hM_; subst hG_;have e01:=e0.trans e1;refine ⟨λ σ' H2=>∃ pa:Addr,σ'=[some (.ref ba),some (.ref ha),some (.str z),some (.ref ta),some (.ref ga),some (.ref sl),some (.ref ea),some (.ref pa)]/\Same H1 H2/\H2 pa=some (.lst ((N7 z h).map V.int)),?_,?_⟩
 ·refine ⟨_,rfl,ta,_,rfl,.inr (e01.tseq p2),λ a1 h1=>?_⟩
  have s1:=Same.new h1 (.lst (h.1.map V.int));refine ⟨(by show 1<=sizeLine; decide),λ a2 h2=>?_⟩;have s2:=s1.trans (Same.new h2 (.lst [.int 0]));have n12:a1≠a2:=d7 upd_same h2;refine ⟨_,rfl,ga,_,rfl,.inr (s2.tseq (e01.tseq p3)),a2,_,_,rfl,rfl,upd_same,by lia,by rw [aA,l2]; lia,by rw [aA,l2,aY]; simp; lia,λ a3 h3=>?_⟩;rw [aA,aY,S8];have s3:=s2.trans (Same.new h3 (.lst ((aG h.2.length (0:Int)).map V.int)));have c1:=(Same.new h3 (.lst ((aG h.2.length (0:Int)).map V.int))) a1 _ ((Same.new h2 (.lst [.int 0])) a1 _ upd_same);refine ⟨a1,a3,_,_,rfl,rfl,c1,upd_same,?_,λ a4 h4=>?_⟩
  ·rw [aA,aA,bP,l1,l2]; lia
  have s4:=s3.trans (Same.new h4 (.lst (h.1.map V.int++(aG h.2.length (0:Int)).map V.int)));refine ⟨(by show 1<=sizeLine; decide),λ a5 h5=>?_⟩;have s5:=s4.trans (Same.new h5 (.lst [.int 0]));have lz:((M8 z).map V.int).length=(M8 z).length:=aA _;refine ⟨_,rfl,sl,_,rfl,.inl (SqL.of (s5 _ _ (e1 _ _ hS0))),a5,_,_,rfl,rfl,upd_same,by lia,by rw [lz]; lia,by rw [lz,aY]; simp; lia,λ a6 h6=>?_⟩;rw [lz,aY,S8];have c4:=(Same.new h6 (.lst ((aG (M8 z).length (0:Int)).map V.int))) a4 _ ((Same.new h5 (.lst [.int 0])) a4 _ upd_same);refine ⟨a4,a6,_,_,rfl,rfl,c4,upd_same,?_,λ a7 h7=>?_⟩
  ·rw [aM,aA,aA,aA,bP,bP,l1,l2]; lia
  refine ⟨a7,rfl,(s5.trans (Same.new h6 _)).trans (Same.new h7 _),?_⟩;rw [upd_same];unfold N7;rw [bC,bC]
 intro σ2 H2 hM_; refine X1 λ G_ hG_=>?_; obtain ⟨pa,rfl,e2,hp⟩:=hM_; subst hG_;have e02:=e01.trans e2;refine ⟨_,rfl,_,rfl,_,rfl,?_⟩;refine ⟨ba,xs,hs,z,kt,kg,rfl,hz,e02.seq hB,hBk.same e02,by lia,by lia,by lia,λ g hg=>⟨(hhs g hg).lt,(hhs g hg).lg⟩,λ r H3 rs e3 hr3 lr hrs=>?_⟩;refine ⟨_,rfl,(by show 1<=sizeLine; decide),λ a1 h1=>?_⟩;have s1:=e3.trans (Same.new h1 (.lst [.ref pa]));have nr1:r≠a1:=d7 hr3 h1;refine ⟨r,a1,_,_,rfl,rfl,(by rw [c9 nr1]; exact hr3),upd_same,?_,λ a2 h2=>?_⟩
 ·rw [aA,lr]; simp; lia
 have t2:=(Same.new h1 (.lst [.ref pa])).trans (Same.new h2 (.lst (rs.map V.ref++[.ref pa])));have s2:=s1.trans (Same.new h2 (.lst (rs.map V.ref++[.ref pa])));refine ⟨(by show 1<=sizeLine; decide),λ a3 h3=>?_⟩;have t3:=t2.trans (Same.new h3 (.lst [.int 0]));have s3:=s2.trans (Same.new h3 (.lst [.int 0]));refine ⟨_,rfl,ba,_,rfl,.inl ((e02.trans s3).seq hB),a3,_,_,rfl,rfl,upd_same,by lia,by rw [xl]; lia,by rw [xl,aY]; simp; lia,λ a4 h4=>?_⟩;rw [xl,aY,S8];have t4:=t3.trans (Same.new h4 (.lst ((aG hs.length (0:Int)).map V.int)));have s4:=s3.trans (Same.new h4 (.lst ((aG hs.length (0:Int)).map V.int)));refine ⟨(by show 1<=sizeLine; decide),λ a5 h5=>?_⟩;have t5:=t4.trans (Same.new h5 (.lst [.int 1]));have s5:=s4.trans (Same.new h5 (.lst [.int 1]));have n45:a4≠a5:=d7 upd_same h5;refine ⟨a4,a5,_,_,rfl,rfl,(by rw [c9 n45]; exact upd_same),upd_same,?_,λ a6 h6=>?_⟩
 ·rw [aA,bP]; simp; lia
 have t6:=t5.trans (Same.new h6 (.lst ((aG hs.length (0:Int)).map V.int++[.int 1])));have s6:=s5.trans (Same.new h6 (.lst ((aG hs.length (0:Int)).map V.int++[.int 1])));have g3:∀ b o,r6 (r6 H3 a1 (.lst [.ref pa])) a2 (.lst (rs.map V.ref++[.ref pa])) b=some o->r6 (r6 (r6 (r6 (r6 (r6 H3 a1 (.lst [.ref pa])) a2 (.lst (rs.map V.ref++[.ref pa]))) a3 (.lst [.int 0])) a4 (.lst ((aG hs.length (0:Int)).map V.int))) a5 (.lst [.int 1])) a6 (.lst ((aG hs.length (0:Int)).map V.int++[.int 1])) b=some o :=
  (((Same.new h3 (.lst [.int 0])).trans (Same.new h4 (.lst ((aG hs.length (0:Int)).map V.int)))).trans (Same.new h5 (.lst [.int 1]))).trans (Same.new h6 (.lst ((aG hs.length (0:Int)).map V.int++[.int 1])))
 have eb:(aG hs.length (0:Int)).map V.int++[.int 1]=(a0k hs).map V.int:=by unfold a0k; rw [bC]; rfl
 have hA:Same H (r6 (r6 (r6 (r6 (r6 (r6 H3 a1 (.lst [.ref pa])) a2 (.lst (rs.map V.ref++[.ref pa]))) a3 (.lst [.int 0])) a4 (.lst ((aG hs.length (0:Int)).map V.int))) a5 (.lst [.int 1])) a6 (.lst ((aG hs.length (0:Int)).map V.int++[.int 1]))):=e02.trans s6;refine ⟨ea,a2,a6,K9 z h,rs.map V.ref++[.ref pa],E1 z hs h,a0k hs,hs.length+1,h.1.length+h.2.length+(M8 z).length,2 ^ 60,rfl,SqL.of (s6 _ _ (e2 _ _ he)),SqL.of (g3 _ _ upd_same),?_,?_,?_,?_,?_,?_,by lia,by lia,?_,b3g hh hhs hfar _,b1n _ (by lia),L.same hA,λ S H' t' aa wa O hn sz e' L' g1 g2 g4=>kT S H' t' aa wa O hn sz (λ b o hb q'=>e' b o hb (hA b o q')) L' g1 g2 g4,λ S H' c O hc hneg hno e' L'=>kN S H' c O hc hneg hno (λ b o hb q'=>e' b o hb (hA b o q')) L'⟩
 ·unfold E1
  refine Paired.app ((b0R (K:=K) lr hrs).same t6) (.cons ⟨pa,rfl,SqL.of (s6 _ _ hp)⟩ .nil)
 ·rw [<- eb]; exact SqL.of upd_same
 ·unfold E1; simp
 ·unfold a0k; simp
 ·unfold K9; simp [kL]
 ·intro r hr
  unfold E1 at hr;rcases aO.mp hr with hr | hr
  ·obtain ⟨g,hg,rfl⟩:=bA.mp hr
   unfold A6;rw [aM,aM,aA,(hhs g hg).lt,(hhs g hg).lg,l1,l2]
  ·rw [bF.mp hr]
   unfold N7;simp;lia
 ·intro i hi
  unfold G8 a0k;rw [aI]
  by_cases h':i<hs.length
  ·rw [bO (by simpa using h'),dL,if_pos h']; exact cD _
  ·rw [bZ (by simp; lia)]
   have:i - (aG hs.length (0:Int)).length=0:=by simp; lia
   rw [this]; decide
end
section
variable {P:Program} {w:World} {K:W.Frag} {mg:Str->Option Value} {base:Heap} {f Pt d:Addr} {fd:FuncData} {n:Nat} {C:Addr}
theorem b4x:m9 ["book","number","sizes"] ["book","number","sizes"] (i8 a5y):=⟨rfl,rfl,rfl,by decide +kernel,rfl,by decide +kernel,by decide +kernel⟩
theorem scHa:m9 ["houses","house","sizes","found","top","amounts","weights","bottom"] ["houses","house","sizes"] (i8 a9A):=⟨rfl,rfl,rfl,by decide +kernel,rfl,by decide +kernel,by decide +kernel⟩
end
end Rim
namespace Lp
section
variable {m q:Nat} {A:Nat->Nat->Int} {b c:Nat->Int} {S:Bo}
theorem Of.way (O:Of m q A b c S) {cc:Nat} (hc:cc<q) (neg:S.T m cc<0) (no:∀ i,i<m->¬ 0<S.T i cc):∃ y:Nat->Int,(∀ j,j<q->0<=y j)/\(∀ i,i<m->sumTo (λ j=>A i j*y j) q<=0)/\0<sumTo (λ j=>c j*y j) q:=by
 have K0:=(O.k _).mp (O.w.ray_ker (c:=cc) (by lia));obtain ⟨rows,goal⟩:=ker0.mp K0;have zc:ray m S cc (q+m+1)=0:=by
  rw [<- O.w.oq];exact O.w.ray_out (by lia) (by lia) (by lia)
 have zg:ray m S cc (q+m) = - S.T m cc:=by
  rw [<- O.w.im];exact O.w.ray_in (by lia) (by lia)
 have nn:∀ v,v<q+m->0<=ray m S cc v:=λ v hv=>by
  rcases O.w.all v hv with ⟨i,hi,e⟩ | ⟨j,hj,e⟩
  ·rw [<- e,O.w.ray_in (by lia) (by lia)]
   have:=no i hi;lia
  ·rw [<- e]
   by_cases hjc:j=cc
   ·subst hjc
    rw [Wf.ray_c];exact bH O.w.pos
   ·rw [O.w.ray_out (by lia) (by lia) hjc]; exact cD _
 refine ⟨ray m S cc,λ j hj=>nn j (by lia),λ i hi=>?_,by rw [<- goal,zg]; lia⟩;have r0:=rows i hi;rw [zc,bD,dR] at r0;have n0:=nn (q+i) (by lia);lia
theorem Of.bounded (O:Of m q A b c S) {i0 l cc:Nat} (h0:i0<m) (hl:l<m) (hA:∀ j,j<q->A i0 j+A l j=c j) (hc:cc<q) (neg:S.T m cc<0) (no:∀ i,i<m->¬ 0<S.T i cc):False:=by
 obtain ⟨y,_,rows,goal⟩:=O.way hc neg no;have r0:=rows i0 h0;have rl:=rows l hl;have e:sumTo (λ j=>c j*y j) q=sumTo (λ j=>A i0 j*y j) q+sumTo (λ j=>A l j*y j) q:=by
  rw [<- P7];refine sum_congr λ j hj=>?_;rw [<- hA j hj,cV]
 lia
end
end Lp
namespace Rim
open PySem L2 Fr
section
variable {P:Program} {w:World} {K:W.Frag} {mg:Str->Option Value} {base:Heap} {f Pt d:Addr} {fd:FuncData} {n:Nat} {C:Addr}
end
section
variable {P:Program} {w:World} {K:W.Frag} {mg:Str->Option Value} {base:Heap} {f Pt d:Addr} {fd:FuncData} {n:Nat} {C:Addr}
theorem a9U (xs:List V) (a b:Nat) (h:a<=b) (hb:b<=xs.length):E8 xs (some (a:Int)) (some (b:Int))=(xs.drop a).take (b - a):=by
 unfold E8;rw [HT.sIx_nat,HT.sIx_nat,fB hb,fB (by lia)]
end
theorem SqT.same1 {K:W.Frag} {P:Addr} {pos:Pos} {qual:Str} {H H':Hp} {a:Addr} {xs:List V} (T:LamTab P pos qual H) (e:Same1 P H H') (h:SqT K H a xs):SqT K H' a xs:=by
 have ne:∀ o,H a=some o->(∀ ps,o≠.tbl ps)->a≠P:=λ o q n z=>by
  subst z;rcases T with t | ⟨c,t,_⟩
  ·rw [q] at t; exact n _ (aL t)
  ·rw [q] at t; exact n _ (aL t)
 rcases h with (h | ⟨o,h⟩) | h
 ·exact .inl (.inl (e _ _ (ne _ h λ _=>nofun) h))
 ·exact .inl (.inr ⟨o,e _ _ (ne _ h λ _=>nofun) h⟩)
 ·exact .inr h
theorem HS.same1 {K:W.Frag} {Pt:Addr} {H H':Hp} {v:V} {h:j0} (T:LT Pt H) (e:Same1 Pt H H') (x:HS K H v h):HS K H' v h:=by
 obtain ⟨a,t,g,h0,h1,h2,h3⟩:=x;exact ⟨a,t,g,h0,SqT.same1 T e h1,SqT.same1 T e h2,SqT.same1 T e h3⟩
theorem Bk.same1 {K:W.Frag} {Pt:Addr} {H H':Hp} {vs:List V} {hs:List j0} (T:LT Pt H) (e:Same1 Pt H H') (x:Bk K H vs hs):Bk K H' vs hs:=Paired.imp' (λ _ _ r=>HS.same1 T e r) x
theorem D7 {l r:List Int} (j:Nat):(l++r).getD j 0=if j<l.length then l.getD j 0 else r.getD (j - l.length) 0:=by
 rw [aI,aI,aI]
 by_cases h:j<l.length
 ·rw [if_pos h,bO h]
 ·rw [if_neg h,bZ (by lia)]
theorem S6 (k j:Nat):(aG k (0:Int)).getD j 0=0:=by
 rw [aI,dL]
 split <;> rfl
theorem a4p (l:List Int) (j:Nat):(l.map λ x=>-x).getD j 0 = - l.getD j 0:=by
 rw [aI,aI,aD]
 cases l[j]? <;> rfl
theorem a8f {z:Str} {hs:List j0} {h:j0} {i:Nat} (hi:hs[i]?=some h) (j:Nat):V4 (E1 z hs h) i j+V4 (E1 z hs h) hs.length j=G8 (K9 z h) j:=by
 have hil:i<hs.length:=(bQ.mp hi).1;have e1:(E1 z hs h)[i]?=some (A6 z h):=by
  unfold E1;rw [bO (by rw [aA]; exact hil),aD,hi]; rfl
 have e2:(E1 z hs h)[hs.length]?=some (N7 z h):=by
  unfold E1;rw [bZ (by rw [aA]; exact aF _),aA,fQ]; rfl
 rw [Z3 e1,Z3 e2];unfold G8 A6 N7 K9;simp only [D7,S6,a4p,aM,aA,bP]
 by_cases h1:j<h.1.length
 ·rw [if_pos (by lia),if_pos h1,if_pos (by lia),if_pos h1,if_pos (by lia),if_pos h1]; lia
 ·by_cases h2:j<h.1.length+h.2.length
  ·rw [if_pos h2,if_neg h1,if_pos h2,if_neg h1,if_pos h2,if_neg h1,dR]
  ·rw [if_neg h2,if_neg h2,if_neg h2,dR]
section
variable {P:Program} {w:World} {K:W.Frag} {mg:Str->Option Value} {base:Heap} {f Pt d CN:Addr} {fd:FuncData} {n:Nat} {C:Addr}
structure a1Y (P:Program) (w:World) (K:W.Frag) (mg:Str->Option Value) (base:Heap) (n:Nat) (x:Str) (ps:List Str) (sp:Sp) (fa:Addr) (d:FuncData):Prop where
 ok:FnOk P w K mg base (CX1 P w) n fa d ps sp
 b:Binds K d ps []
 k:W.keepIn K (.ref fa)=true
 m:mg x=some (.ref fa)
abbrev mE (hs:List j0):Nat:=hs.length+1
abbrev qE (z:Str) (h:j0):Nat:=h.1.length+h.2.length+(M8 z).length
structure Q6 (K:W.Frag) (H:Hp) (ba:Addr) (xs:List V) (hs:List j0) (far:Int) (kt kg:Nat):Prop where
 l:SqL K H ba xs
 b:Bk K H xs hs
 g:∀ h∈hs,HG far kt kg h
 far:far<=2 ^ 60
 few:hs.length<=16
 t:kt<=20
 k:kg<=20
def Best (z:Str) (hs:List j0) (h:j0) (S:Lp.Bo):Prop:=OfE z hs h S/\(∀ j,j<qE z h->¬ S.T (mE hs) j<0)/\Sz 4000 (mE hs) (qE z h) S
def P6 (K:W.Frag) (CN Pt:Addr):Sp:=λ vs H Q E=>∃ (ba:Addr) (xs:List V) (hs:List j0) (number:Int) (z:Str) (far:Int) (kt kg:Nat),vs=[.ref ba,.int number,.str z]/\Szw z/\Q6 K H ba xs hs far kt kg/\number.natAbs.log2<1920/\LT Pt H ∧
 (∀ (i:Nat) (h:j0) (S:Lp.Bo) (H':Hp) (u:V),number=(i:Int)->hs[i]?=some h->Best z hs h S->Same1 Pt H H'->LT Pt H'->FrT H' u (low (S.T (mE hs) (qE z h)) S.d)->Q u H')/\(¬ a4C xs.length number->E (.ref CN) none H)
theorem a6K {z:Str} {hs:List j0} {h:j0} {S:Lp.Bo} (B:Best z hs h S):0<S.d/\S.d<2 ^ 8000:=by
 refine ⟨B.1.w.pos,?_⟩;have h1:S.d.natAbs<2 ^ 4000:=B.2.2.2;have h2:(2:Nat) ^ 4000<=2 ^ 8000:=gU (by decide) (by decide);have h3:S.d=(S.d.natAbs:Int):=by have:=B.1.w.pos; lia
 rw [h3]
 exact_mod_cast aR h1 h2
theorem b0p {m q:Nat} {A:Nat->Nat->Int} {b c:Nat->Int} {S:Lp.Bo} (O:Lp.Of m q A b c S) (sz:Sz 4000 m q S) {v:Nat} (hv:v<q):Big 4000 (Lp.valIn m S q v):=by
 have hv':v<q+m:=by lia
 rcases O.w.all v hv' with ⟨i,hi,e⟩ | ⟨j,hj,e⟩
 ·have:Lp.valIn m S q v=S.T i q:=by
   unfold Lp.valIn;rw [Lp.sum_one hi λ k hk hn=>if_neg λ z=>hn (O.w.ii k i hk hi (z.trans e.symm)),if_pos e]
  rw [this];exact sz.1 i q (by lia) (by lia)
 ·have:Lp.valIn m S q v=0:=Lp.sum_zero λ k hk=>if_neg λ z=>O.w.io k j hk hj (z.trans e.symm)
  rw [this]
  show (0:Int).natAbs<2 ^ 4000
  exact iT (by decide)
def a9s (K:W.Frag) (Pt:Addr):Sp:=λ vs H Q _=>∃ (ba:Addr) (hv:V) (xs:List V) (hs:List j0) (h:j0) (z:Str) (far:Int) (kt kg:Nat),vs=[.ref ba,hv,.str z]/\Szw z/\Q6 K H ba xs hs far kt kg/\HS K H hv h/\HG far kt kg h/\LT Pt H ∧
 (∀ (S:Lp.Bo) (H':Hp) (u:V),Best z hs h S->Same1 Pt H H'->LT Pt H'->FrT H' u (low (S.T (mE hs) (qE z h)) S.d)->Q u H') ∧
 ∀ (S:Lp.Bo) (H':Hp) (c:Nat),OfE z hs h S->c<qE z h->S.T (mE hs) c<0->(∀ i,i<mE hs->¬ 0<S.T i c)->Same1 Pt H H'->LT Pt H'->Q .non H'
theorem b0s {f2 f3:Addr} {d2 d3:FuncData} (F:Fun K "held_against" "held_against" a9A f fd) (Ce:a0f P w K mg base n "greatest_earned" ["houses","house","sizes"] (a4z K Pt) f2 d2)
  (Cl:Cal P w K mg base n "lowest" ["top","bottom"] b1q f3 d3):FnOk P w K mg base E4 (n+1) f fd ["houses","house","sizes"] (a9s K Pt):=by
 refine F.ok scHa (λ vs H Q E h=>?_) (λ cdv A outer s H vs Q E hr h=>?_)
 ·obtain ⟨ba,hv,xs,hs,h,z,far,kt,kg,rfl,_⟩:=h
  rfl
 obtain ⟨ba,hv,xs,hs,h,z,far,kt,kg,rfl,hz,B,hH,gh,L,kG,kN⟩:=h;refine ⟨_,i9 (o4 (i:=3) scHa.nd rfl (aC rfl) (o6 Ce.ok hr rfl Ce.m Ce.k Ce.b .nil w6 (a0 (pv 0) (a0 (pv 1) (a0 (pv 2) e9)))))
  (i9 (A4 (t9 a5K (pv 3) W5 (p6 _)) (j3 (r9 W5)) v8)
  (i9 (G9 (pv 3) (T8 rfl (r8 (j8 (i:=4) scHa.nd rfl (aC rfl)) (r8 (j8 (i:=5) scHa.nd rfl (aC rfl)) (r8 (j8 (i:=6) scHa.nd rfl (aC rfl)) (r8 (j8 (i:=7) scHa.nd rfl (aC rfl)) C2))))))
  (j3 (r9 (o6 Cl.ok hr rfl Cl.m Cl.k Cl.b .nil w6 (a0 (pv 4) (a0 (pv 7) e9))))))),?_⟩
 refine ⟨_,rfl,_,rfl,_,rfl,ba,hv,xs,hs,h,z,far,kt,kg,mE hs,qE z h,rfl,hz,B.l,B.b,hH,gh,B.g,B.far,B.few,B.t,B.k,rfl,rfl,L,λ S H' t aa wa O hn sz e' L' g1 g2 g3=>?_,λ S H' c O hc hneg hno e' L'=>?_⟩
 ·have Bs:Best z hs h S:=⟨O,hn,sz⟩
  obtain ⟨b1,b2⟩:=a6K Bs;refine ⟨_,rfl,rfl,_,rfl,a0c ?_⟩;refine ⟨_,rfl,t,_,rfl,SqT.of g1,rfl,_,_,rfl,_,_,rfl,_,_,rfl,_,_,rfl,rfl,?_⟩;exact ⟨_,rfl,_,rfl,_,_,rfl,b1,b2,λ u H2 e2 hu=>kG S H2 u Bs (λ b o hb q'=>e2 _ _ (e' b o hb q')) (L'.same e2) hu⟩
 ·refine ⟨_,rfl,rfl,_,rfl,Q9 ?_⟩
  exact kN S H' c O hc hneg hno e' L'
theorem a9i {f1 f2:Addr} {d1 d2:FuncData} (F:Fun K "share" "share" a5y f fd) (Ch:a1Y P w K mg base n "house_of" ["book","number"] (a8N K CN) f1 d1) (Ce:a0f P w K mg base n "held_against" ["houses","house","sizes"] (a9s K Pt) f2 d2):FnOk P w K mg base (CX1 P w) (n+1) f fd ["book","number","sizes"] (P6 K CN Pt):=by
 refine F.ok1 b4x (λ vs H Q E h=>?_) (λ cdv A outer s H vs Q E hr h=>?_)
 ·obtain ⟨ba,xs,hs,number,z,far,kt,kg,rfl,_⟩:=h
  rfl
 obtain ⟨ba,xs,hs,number,z,far,kt,kg,rfl,hz,B,lm,L,kG,kE⟩:=h;refine ⟨_,j3 (r9 (o6 Ce.ok hr rfl Ce.m Ce.k Ce.b .nil w6 (a0 (pv 0) (a0 (o6 Ch.ok hr rfl Ch.m Ch.k Ch.b .nil a2V (a0 (pv 0) (a0 (pv 1) e9))) (a0 (pv 2) e9))))),?_⟩;refine ⟨_,rfl,_,rfl,_,rfl,ba,xs,number,rfl,B.l,lm,λ i hv hi hx=>?_,kE⟩;obtain ⟨h,hh,hH⟩:=Paired.at B.b hx;have gh:=B.g h (bS hh);refine ⟨_,rfl,ba,hv,xs,hs,h,z,far,kt,kg,rfl,hz,B,hH,gh,L,λ S H' u Bs e' L' hu=>kG i h S H' u hi hh Bs e' L' hu,λ S H' c O hc hneg hno e' L'=>(O.bounded (i0:=i) (l:=hs.length) (by have:=(bQ.mp hh).1; lia) (by lia) (λ j _=>a8f hh j) hc hneg hno).elim⟩
end
end Rim
namespace L2
open PySem
theorem Big.mono {n m:Nat} {i:Int} (h:Big n i) (hn:n<=m):Big m i:=Rim.Big.mono h hn
theorem Big.mul {n m:Nat} {i j:Int} (h:Big n i) (k:Big m j):Big (n+m) (i*j):=Rim.Big.mul h k
end L2
namespace Fr
end Fr
namespace Rim
open PySem L2 Fr
section
variable {P:Program} {w:World} {K:W.Frag} {mg:Str->Option Value} {base:Heap} {f:Addr} {fd:FuncData} {n:Nat}
end
section
variable {P:Program} {w:World} {K:W.Frag} {mg:Str->Option Value} {base:Heap} {f:Addr} {fd:FuncData} {n:Nat}
def a3X (z:Str) (s D:Int):Prop:=((z="one"\/z="less")->s<=D)/\((z="one"\/z="more")->D<=s)
theorem a9P:∀ {ws:List Int} {m:Nat},(∀ x∈ws,Big m x)->ws.length<=200->Big (m+200) ws.sum:=λ {ws m} h hl=>by
 have key:∀ l:List Int,(∀ x∈l,Big m x)->l.sum.natAbs<=l.length*2 ^ m:=λ l=>by
  induction l with
  | nil=>intro _; exact bR _
  | cons x r ih =>
   intro h;have h1:x.natAbs<2 ^ m:=h x cG;have h2:=ih λ y hy=>h y (bL _ hy);have h3:=Int.natAbs_add_le x r.sum;rw [bU,cY,gK];lia
 have h1:=key ws h;have h2:ws.length*2 ^ m<=200*2 ^ m:=iU _ hl;have h3:200*2 ^ m<2 ^ (m+200):=by
  rw [kJ,jJ];exact Nat.mul_lt_mul_of_pos_left (by decide) (iT (by decide))
 exact cC (aW h1 h2) h3
end
def col (rows:List (List Int)) (i:Nat):List Int:=rows.map λ r=>r.getD i 0
section
variable {P:Program} {w:World} {K:W.Frag} {mg:Str->Option Value} {base:Heap} {f g:Addr} {fd gd:FuncData} {n:Nat}
def X9 (j:Nat) (h:j0):List Int:=if j=0 then h.1 else h.2
end
end Rim
namespace L2
open PySem PySem.Spec PyProof.Rows
section
variable {xs ys:List V} {K:W.Frag} {l1 l2:Addr} {σ:St}
end
end L2
namespace Rim
open PySem L2 Fr
section
variable {P:Program} {w:World} {K:W.Frag} {mg:Str->Option Value} {base:Heap} {f:Addr} {fd:FuncData} {n:Nat}
def N4 (hs:List j0) (ws:List Int) (j i:Nat):Int:=(cF (·*·) (col (hs.map (X9 j)) i) ws).sum
end
theorem a7S {a b:Nat}:∀ {ns ws:List Int},(∀ x∈ns,Big a x)->(∀ x∈ws,Big b x)->∀ x∈List.zipWith (·*·) ns ws,Big (a+b) x
 | [],_,_,_,x,hx=>by simp at hx
 | _::_,[],_,_,x,hx=>by simp at hx
 | n::ns,w::ws,h1,h2,x,hx=>by
  rw [cJ] at hx;rcases aJ.mp hx with e | e
  ·rw [e]; exact (h1 n cG).mul (h2 w cG)
  ·exact a7S (λ y hy=>h1 y (bL _ hy)) (λ y hy=>h2 y (bL _ hy)) x e
section
variable {P:Program} {w:World} {K:W.Frag} {mg:Str->Option Value} {base:Heap} {f:Addr} {fd:FuncData} {n:Nat}
end
theorem a3w:∀ {xs ys:List Int} {a b:Int},xs.length=ys.length->(cF (·*·) (xs++[a]) (ys++[b])).sum=(cF (·*·) xs ys).sum+a*b
 | [],[],a,b,_=>by simp
 | x::xs,y::ys,a,b,h=>by
  rw [cQ,cQ,cJ,cJ,bU,bU,a3w (by simpa using h),Int.add_assoc]
section
variable {P:Program} {w:World} {K:W.Frag} {mg:Str->Option Value} {base:Heap} {f:Addr} {fd:FuncData} {n:Nat}
structure PrN (pt pg:List Int) (ps D:Int) (kt kg:Nat):Prop where
 lt:pt.length=kt
 lg:pg.length=kg
 bt:∀ x∈pt,0<=x/\Big 5000 x
 bg:∀ x∈pg,0<=x/\Big 5000 x
 bs:Big 5000 ps
 d:0<D
 d2:D<2 ^ 4000
def O1 (h:j0) (pg:List Int) (ps:Int):Int:=(cF (·*·) h.2 pg).sum+ps
def pay (h:j0) (pt:List Int):Int:=(cF (·*·) h.1 pt).sum
end
section
variable {P:Program} {w:World} {K:W.Frag} {mg:Str->Option Value} {base:Heap} {f:Addr} {fd:FuncData} {n:Nat}
def a2x (z:Str) (ps:Int):Prop:=((z="any"\/z="less")->ps<=0)/\((z="any"\/z="more")->0<=ps)
theorem a9v:PyData.eqv (.list []) (.list [])=true:=by rw [PyData.eqv,PyData.eqvAll]
end
mutual
theorem G1:∀ d:PyData,d.canLay0=true->PyData.eqv d d=true
 | .none,_=>by rw [PyData.eqv]
 | .bool b,_=>by rw [PyData.eqv]; simp
 | .int i,_=>by rw [PyData.eqv]; simp
 | .str x,_=>by rw [PyData.eqv]; simp
 | .list xs,h=>by rw [PyData.eqv]; exact V8 xs (by rw [PyData.canLay0] at h; exact h)
 | .tuple xs,h=>by rw [PyData.eqv]; exact V8 xs (by rw [PyData.canLay0] at h; exact h)
 | .dict kvs,h=>by rw [PyData.canLay0] at h; cases h
theorem V8:∀ ds:List PyData,PyData.canLayAll0 ds=true->PyData.eqvAll ds ds=true
 | [],_=>by rw [PyData.eqvAll]
 | d::r,h=>by
  rw [PyData.canLayAll0,dO] at h;rw [PyData.eqvAll,G1 d h.1,V8 r h.2]; rfl
end
def dF (x:Q2):PyData:=.tuple [.int x.1,.int x.2]
theorem FrV.dp {K:W.Frag} {H:Hp} {v:V} {x:Q2} (h:FrV K H v x):Dp K H v (dF x):=by
 obtain ⟨a,rfl,q⟩:=h;exact .tup q (.cons (.int _) (.cons (.int _) .nil))
theorem X2 (x:Q2):(dF x).canLay0=true:=by
 unfold dF;rw [PyData.canLay0,PyData.canLayAll0,PyData.canLay0,PyData.canLayAll0,PyData.canLay0,PyData.canLayAll0]; rfl
theorem a8u (x:Q2):(dF x).depth<=60:=by
 unfold dF;simp [PyData.depth,PyData.depthAll]
section
variable {P:Program} {w:World} {K:W.Frag} {mg:Str->Option Value} {base:Heap} {f:Addr} {fd:FuncData} {n:Nat}
end
section
variable {P:Program} {w:World} {K:W.Frag} {mg:Str->Option Value} {base:Heap} {f:Addr} {fd:FuncData} {n:Nat}
end
end Rim
namespace Lp
section
variable {m q:Nat} {A:Nat->Nat->Int} {b c:Nat->Int} {S S':Bo}
theorem a2l {g h:Nat->Int}:∀ {n:Nat},(∀ k,k<n->g k<=h k)->sumTo g n<=sumTo h n
 | 0,_=>cD _
 | n+1,e=>Int.add_le_add (a2l λ k hk=>e k (by lia)) (e n (by lia))
theorem a6q {g h:Nat->Int}:∀ n:Nat,sumTo (λ k=>g k - h k) n=sumTo g n - sumTo h n
 | 0=>rfl
 | n+1=>by
  show sumTo (λ k=>g k - h k) n+(g n - h n)=(sumTo g n+g n) - (sumTo h n+h n)
  rw [a6q n]; lia
theorem Of.weak (O:Of m q A b c S) (hn:∀ j,j<q->¬ S.T m j<0) {y:Nat->Int} {e:Int} (hy:∀ j,j<q->0<=y j) (hr:∀ i,i<m->sumTo (λ j=>A i j*y j) q<=b i*e):S.d*sumTo (λ j=>c j*y j) q<=e*S.T m q:=by
 obtain ⟨D1,D2⟩:=O.dual;have nn:∀ v,0<=valOut m q S v:=Of.valOut_nn λ j hj=>by have:=hn j hj; lia
 have e1:S.d*sumTo (λ j=>c j*y j) q=sumTo (λ j=>sumTo (λ i=>A i j*valOut m q S (q+i)) m*y j - valOut m q S j*y j) q:=by
  rw [<- A2];refine sum_congr λ j hj=>?_;rw [D1 j hj,cV,kM,aU (c j) S.d,aX]
 have e2:sumTo (λ j=>sumTo (λ i=>A i j*valOut m q S (q+i)) m*y j - valOut m q S j*y j) q<=sumTo (λ j=>sumTo (λ i=>A i j*valOut m q S (q+i)) m*y j) q:=by
  refine a2l λ j hj=>?_;have:=cN (nn j) (hy j hj);lia
 have e3:sumTo (λ j=>sumTo (λ i=>A i j*valOut m q S (q+i)) m*y j) q=sumTo (λ i=>valOut m q S (q+i)*sumTo (λ j=>A i j*y j) q) m:=by
  have x1:sumTo (λ j=>sumTo (λ i=>A i j*valOut m q S (q+i)) m*y j) q=sumTo (λ j=>sumTo (λ i=>valOut m q S (q+i)*(A i j*y j)) m) q:=by
   refine sum_congr λ j hj=>?_;rw [aU,<- A2];refine sum_congr λ i hi=>?_
   ac_rfl
  rw [x1,W9];refine sum_congr λ i hi=>?_;rw [A2]
 have e4:sumTo (λ i=>valOut m q S (q+i)*sumTo (λ j=>A i j*y j) q) m<=sumTo (λ i=>e*(b i*valOut m q S (q+i))) m:=by
  refine a2l λ i hi=>?_;have:=fP (hr i hi) (nn (q+i));have x:valOut m q S (q+i)*(b i*e)=e*(b i*valOut m q S (q+i)):=by ac_rfl
  rw [x] at this;exact this
 rw [A2,D2] at e4;rw [e1];rw [e3] at e2;exact gT e2 e4
theorem Of.slack (O:Of m q A b c S) (hn:∀ j,j<q->¬ S.T m j<0) {l:Nat} (hl:l<m) (hw:0<valOut m q S (q+l)):sumTo (λ j=>A l j*valIn m S q j) q=b l*S.d:=by
 obtain ⟨p1,p2⟩:=O.primal;have nn:∀ v,0<=valOut m q S v:=Of.valOut_nn λ j hj=>by have:=hn j hj; lia
 have nx:=O.valIn_nn
 by_cases h0:valIn m S q (q+l)=0
 ·have:=p1 l hl
  lia
 ·exfalso
  have hp:0<valIn m S q (q+l):=by have:=nx (q+l); lia
  obtain ⟨D1,D2⟩:=O.dual;have e1:S.d*sumTo (λ j=>c j*valIn m S q j) q<=sumTo (λ i=>valOut m q S (q+i)*sumTo (λ j=>A i j*valIn m S q j) q) m:=by
   have x1:S.d*sumTo (λ j=>c j*valIn m S q j) q=sumTo (λ j=>sumTo (λ i=>A i j*valOut m q S (q+i)) m*valIn m S q j - valOut m q S j*valIn m S q j) q:=by
    rw [<- A2];refine sum_congr λ j hj=>?_;rw [D1 j hj,cV,kM,aU (c j) S.d,aX]
   have x2:sumTo (λ j=>sumTo (λ i=>A i j*valOut m q S (q+i)) m*valIn m S q j - valOut m q S j*valIn m S q j) q<=sumTo (λ j=>sumTo (λ i=>valOut m q S (q+i)*(A i j*valIn m S q j)) m) q:=by
    refine a2l λ j hj=>?_;have y:=cN (nn j) (nx j);have z:sumTo (λ i=>A i j*valOut m q S (q+i)) m*valIn m S q j=sumTo (λ i=>valOut m q S (q+i)*(A i j*valIn m S q j)) m:=by
     rw [aU,<- A2];refine sum_congr λ i hi=>?_
     ac_rfl
    lia
   rw [W9] at x2;have x3:sumTo (λ i=>sumTo (λ j=>valOut m q S (q+i)*(A i j*valIn m S q j)) q) m=sumTo (λ i=>valOut m q S (q+i)*sumTo (λ j=>A i j*valIn m S q j) q) m:=sum_congr λ i hi=>by rw [A2]
   rw [x1,<- x3]; exact x2
  have e2:sumTo (λ i=>valOut m q S (q+i)*sumTo (λ j=>A i j*valIn m S q j) q) m<=sumTo (λ i=>S.d*(b i*valOut m q S (q+i)) - (if i=l then valOut m q S (q+l)*valIn m S q (q+l) else 0)) m:=by
   refine a2l λ i hi=>?_;have y:=p1 i hi;have z:=cN (nn (q+i)) (nx (q+i));have ez:valOut m q S (q+i)*sumTo (λ j=>A i j*valIn m S q j) q=S.d*(b i*valOut m q S (q+i)) - valOut m q S (q+i)*valIn m S q (q+i):=by
    have:sumTo (λ j=>A i j*valIn m S q j) q=b i*S.d - valIn m S q (q+i):=by lia
    rw [this,fO]
    congr 1
    ac_rfl
   rw [ez]
   by_cases hil:i=l
   ·subst hil
    rw [if_pos rfl]; exact cD _
   ·rw [if_neg hil]; lia
  have e3:sumTo (λ i=>S.d*(b i*valOut m q S (q+i)) - (if i=l then valOut m q S (q+l)*valIn m S q (q+l) else 0)) m=S.d*S.T m q - valOut m q S (q+l)*valIn m S q (q+l):=by
   rw [a6q,A2,D2,sum_one hl λ i hi hne=>if_neg hne,if_pos rfl]
  rw [p2] at e1;have:=dY hw hp;lia
end
end Lp
namespace Rim
open PySem L2 Fr
abbrev w8 (l x:List Int):Int:=(cF (·*·) l x).sum
theorem a3q:∀ (l r x:List Int),w8 (l++r) x=w8 l (x.take l.length)+w8 r (x.drop l.length)
 | [],r,x=>by simp [w8]
 | a::l,r,[]=>by simp [w8]
 | a::l,r,y::x=>by
  have:=a3q l r x;unfold w8 at *;rw [cQ,cJ,bU,this,cY,List.take_succ_cons,List.drop_succ_cons,cJ,bU];lia
theorem a0B:∀ (l x:List Int),w8 (l.map λ y=>-y) x = - w8 l x
 | [],x=>by simp [w8]
 | a::l,[]=>by simp [w8]
 | a::l,y::x=>by
  have:=a0B l x;unfold w8 at *;rw [aV,cJ,bU,this,cJ,bU,eN];lia
theorem Z1:∀ (k:Nat) (x:List Int),w8 (aG k 0) x=0
 | 0,x=>by simp [w8]
 | k+1,[]=>by simp [w8]
 | k+1,y::x=>by
  have:=Z1 k x;unfold w8 at *;rw [cZ,cJ,bU,this]; lia
theorem S9:∀ (l x:List Int),w8 l x=w8 x l
 | [],x=>by simp [w8]
 | a::l,[]=>by simp [w8]
 | a::l,y::x=>by
  have:=S9 l x;unfold w8 at *;rw [cJ,bU,this,cJ,bU,aU]
theorem a8v:∀ {l x:List Int},(∀ y∈l,0<=y)->(∀ y∈x,0<=y)->0<=w8 l x
 | [],x,_,_=>by simp [w8]
 | a::l,[],_,_=>by simp [w8]
 | a::l,y::x,h1,h2=>by
  have:=a8v (l:=l) (x:=x) (λ z hz=>h1 z (.tail _ hz)) (λ z hz=>h2 z (.tail _ hz));unfold w8 at *;rw [cJ,bU];have:=cN (h1 a (.head _)) (h2 y (.head _));lia
theorem J6:∀ (n:Nat) (l x:List Int),l.length=n->x.length=n->Lp.sumTo (λ j=>l.getD j 0*x.getD j 0) n=w8 l x
 | 0,l,x,h1,h2=>by
  rw [gW h1]; simp [w8,Lp.sumTo]
 | n+1,l,x,h1,h2=>by
  obtain ⟨l',a,rfl⟩:∃ l' a,l=l'++[a]:=⟨l.dropLast,l.getLast (by intro z; rw [z] at h1; cases h1),(iV _).symm⟩;obtain ⟨x',b,rfl⟩:∃ l' a,x=l'++[a]:=⟨x.dropLast,x.getLast (by intro z; rw [z] at h2; cases h2),(iV _).symm⟩;have l1:l'.length=n:=by simpa using h1
  have l2:x'.length=n:=by simpa using h2
  show Lp.sumTo _ n+_=_
  have e:Lp.sumTo (λ j=>(l'++[a]).getD j 0*(x'++[b]).getD j 0) n=Lp.sumTo (λ j=>l'.getD j 0*x'.getD j 0) n:=Lp.sum_congr λ j hj=>by
   rw [D7,D7,if_pos (by lia),if_pos (by lia)]
  rw [e,J6 n l' x' l1 l2]
  show _=(cF (·*·) (l'++[a]) (x'++[b])).sum
  rw [a3w (by lia)]
  show w8 l' x'+(l'++[a]).getD n 0*(x'++[b]).getD n 0=_
  rw [D7,D7,if_neg (by lia),if_neg (by lia),l1,l2,fQ]; rfl
theorem a0Q {n:Nat} {F:Nat->Int} {j:Nat} (h:j<n):((aE n).map F).getD j 0=F j:=by
 rw [aI,aD,bG h]; rfl
theorem a2j:∀ {l x:List Int},(∀ y∈l,0<=y)->(∀ y∈x,0<=y)->0<w8 l x->∃ j,j<x.length/\0<x.getD j 0
 | [],x,_,_,h=>by simp [w8] at h
 | a::l,[],_,_,h=>by simp [w8] at h
 | a::l,y::x,h1,h2,h=>by
  by_cases hy:0<y
  ·exact ⟨0,by simp,by simpa using hy⟩
  ·have y0:y=0:=by have:=h2 y (.head _); lia
   subst y0;have h':0<w8 l x:=by
    unfold w8 at *;rw [cJ,bU] at h; lia
   obtain ⟨j,hj,hp⟩:=a2j (λ z hz=>h1 z (.tail _ hz)) (λ z hz=>h2 z (.tail _ hz)) h';exact ⟨j+1,by simp; lia,by simpa using hp⟩
theorem a2e:∀ {l x:List Int},(∀ y∈l,0<y)->(∀ y∈x,0<=y)->l.length=x.length->(∃ j,j<x.length/\0<x.getD j 0)->0<w8 l x
 | [],[],_,_,_,⟨j,hj,_⟩=>by simp at hj
 | a::l,y::x,h1,h2,hl,⟨j,hj,hp⟩=>by
  have nn:0<=w8 l x:=a8v (λ z hz=>bH (h1 z (.tail _ hz))) (λ z hz=>h2 z (.tail _ hz));have ya:=cN (bH (h1 a (.head _))) (h2 y (.head _))
  cases j with
  | zero =>
   have:0<a*y:=dY (h1 a (.head _)) (by simpa using hp);unfold w8 at *;rw [cJ,bU]; lia
  | succ j =>
   have:=a2e (l:=l) (x:=x) (λ z hz=>h1 z (.tail _ hz)) (λ z hz=>h2 z (.tail _ hz)) (by simpa using hl) ⟨j,by simpa using hj,by simpa using hp⟩;unfold w8 at *;rw [cJ,bU]; lia
 | [],_::_,_,_,hl,_=>by simp at hl
 | _::_,[],_,_,hl,_=>by simp at hl
theorem b0Y {m q:Nat} {A:Nat->Nat->Int} {b c:Nat->Int} {S:Lp.Bo} (O:Lp.Of m q A b c S) (sz:Sz 4000 m q S) {v:Nat} (hv:v<q+m):Big 4000 (Lp.valOut m q S v):=by
 rcases O.w.all v hv with ⟨i,hi,e⟩ | ⟨j,hj,e⟩
 ·have:Lp.valOut m q S v=0:=Lp.sum_zero λ k hk=>if_neg λ z=>O.w.io i k hi hk (e.trans z.symm)
  rw [this]
  show (0:Int).natAbs<2 ^ 4000
  exact iT (by decide)
 ·have:Lp.valOut m q S v=S.T m j:=by
   unfold Lp.valOut;rw [Lp.sum_one hj λ k hk hn=>if_neg λ z=>hn (O.w.oo k j hk hj (z.trans e.symm)),if_pos e]
  rw [this];exact sz.1 m j (by lia) (by lia)
section
variable {m q:Nat} {rows:List (List Int)} {bnd goal:List Int} {S:Lp.Bo}
theorem a3m (O:Lp.Of m q (V4 rows) (G8 bnd) (G8 goal) S) {i:Nat} {row:List Int} (hi:i<m) (hr:rows[i]?=some row) (hl:row.length=q):w8 row (u0 m q S)<=bnd.getD i 0*S.d:=by
 have h:=O.primal.1 i hi;have nn:=O.valIn_nn (q+i);have e:Lp.sumTo (λ j=>V4 rows i j*Lp.valIn m S q j) q=w8 row (u0 m q S):=by
  rw [<- J6 q row (u0 m q S) hl (by unfold u0; simp)];refine Lp.sum_congr λ j hj=>?_;rw [Z3 hr];unfold u0;rw [a0Q hj]
 rw [e] at h
 show _<=G8 bnd i*S.d
 lia
theorem a5l (O:Lp.Of m q (V4 rows) (G8 bnd) (G8 goal) S) (hn:∀ j,j<q->¬ S.T m j<0) {i:Nat} {row:List Int} (hi:i<m) (hr:rows[i]?=some row) (hl:row.length=q) (hw:0<Lp.valOut m q S (q+i)):w8 row (u0 m q S)=bnd.getD i 0*S.d:=by
 have h:=O.slack hn hi hw;have e:Lp.sumTo (λ j=>V4 rows i j*Lp.valIn m S q j) q=w8 row (u0 m q S):=by
  rw [<- J6 q row (u0 m q S) hl (by unfold u0; simp)];refine Lp.sum_congr λ j hj=>?_;rw [Z3 hr];unfold u0;rw [a0Q hj]
 rw [e] at h;exact h
theorem a4v (O:Lp.Of m q (V4 rows) (G8 bnd) (G8 goal) S) (hl:goal.length=q):w8 goal (u0 m q S)=S.T m q:=by
 have h:=O.primal.2;have e:Lp.sumTo (λ j=>G8 goal j*Lp.valIn m S q j) q=w8 goal (u0 m q S):=by
  rw [<- J6 q goal (u0 m q S) hl (by unfold u0; simp)];refine Lp.sum_congr λ j hj=>?_;unfold u0;rw [a0Q hj]; rfl
 rw [e] at h;exact h
theorem a3o (O:Lp.Of m q (V4 rows) (G8 bnd) (G8 goal) S) (hn:∀ j,j<q->¬ S.T m j<0) (hl:rows.length=m) {j:Nat} (hj:j<q):goal.getD j 0*S.d<=w8 (col rows j) (K7 m q S):=by
 have h:=O.dual.1 j hj;have nn:0<=Lp.valOut m q S j:=Lp.Of.valOut_nn (λ j hj=>by have:=hn j hj; lia) j;have e:Lp.sumTo (λ i=>V4 rows i j*Lp.valOut m q S (q+i)) m=w8 (col rows j) (K7 m q S):=by
  rw [<- J6 m (col rows j) (K7 m q S) (by unfold col; rw [aA]; exact hl) (by unfold K7; simp)];refine Lp.sum_congr λ i hi=>?_;unfold K7;rw [a0Q hi]
  congr 1
  unfold V4 col;rw [aI (l:=kO _ rows),aD,aI (l:=rows),aH (by lia)]; rfl
 rw [e] at h
 show G8 goal j*S.d<=_
 lia
theorem a9Q (O:Lp.Of m q (V4 rows) (G8 bnd) (G8 goal) S) (hl:bnd.length=m):w8 bnd (K7 m q S)=S.T m q:=by
 have h:=O.dual.2;have e:Lp.sumTo (λ i=>G8 bnd i*Lp.valOut m q S (q+i)) m=w8 bnd (K7 m q S):=by
  rw [<- J6 m bnd (K7 m q S) hl (by unfold K7; simp)];refine Lp.sum_congr λ i hi=>?_;unfold K7;rw [a0Q hi]; rfl
 rw [e] at h;exact h
theorem b2I (hn:∀ j,j<q->¬ S.T m j<0):∀ x∈K7 m q S,0<=x:=λ x hx=>by
 unfold K7 at hx;obtain ⟨i,_,rfl⟩:=bA.mp hx;exact Lp.Of.valOut_nn (λ j hj=>by have:=hn j hj; lia) _
theorem a6M {A:Nat->Nat->Int} {b c:Nat->Int} (O:Lp.Of m q A b c S):∀ x∈u0 m q S,0<=x:=λ x hx=>by
 unfold u0 at hx;obtain ⟨i,_,rfl⟩:=bA.mp hx;exact O.valIn_nn i
theorem a7c:K7 (m+1) q S=(K7 (m+1) q S).take m++[Lp.valOut (m+1) q S (q+m)]:=by
 unfold K7;rw [fR,bC,gX (by simp)]; rfl
end
theorem b2f (a b c xs:List Int):w8 (a++b++c) xs=w8 a (xs.take a.length)+w8 b ((xs.drop a.length).take b.length)+w8 c (xs.drop (a.length+b.length)):=by
 rw [a3q (a++b) c xs,a3q a b,aM,List.take_take,fB (by lia),List.drop_take,eI]
theorem a0O (a b c:List Int) (j:Nat):(a++b++c).getD j 0=if j<a.length then a.getD j 0 else if j<a.length+b.length then b.getD (j - a.length) 0 else c.getD (j - (a.length+b.length)) 0:=by
 rw [D7,aM]
 by_cases h1:j<a.length
 ·rw [if_pos (by lia),if_pos h1,D7,if_pos h1]
 ·by_cases h2:j<a.length+b.length
  ·rw [if_pos h2,if_neg h1,if_pos h2,D7,if_neg h1]
  ·rw [if_neg h2,if_neg h1,if_neg h2]
abbrev ptA (h:j0) (xs:List Int):List Int:=xs.take h.1.length
abbrev pgA (h:j0) (xs:List Int):List Int:=(xs.drop h.1.length).take h.2.length
abbrev psA (z:Str) (h:j0) (xs:List Int):Int:=w8 (xs.drop (h.1.length+h.2.length)) (M8 z)
theorem a6P {z:Str} {g h:j0} (h1:g.1.length=h.1.length) (h2:g.2.length=h.2.length) (xs:List Int):w8 (A6 z g) xs=O1 g (pgA h xs) (psA z h xs) - pay g (ptA h xs):=by
 unfold A6 O1 pay;rw [b2f,aA,a0B,h1,h2,S9 (M8 z)];dsimp only [w8,ptA,pgA,psA];lia
theorem a8F {z:Str} {h:j0} (xs:List Int):w8 (N7 z h) xs=pay h (ptA h xs):=by
 unfold N7 pay;rw [b2f,Z1,Z1];dsimp only [w8,ptA,pgA,psA];lia
theorem a9e {z:Str} {h:j0} (xs:List Int):w8 (K9 z h) xs=O1 h (pgA h xs) (psA z h xs):=by
 unfold K9 O1;rw [b2f,Z1,bP,S9 (M8 z)];dsimp only [w8,ptA,pgA,psA];lia
theorem a9m (rows:List (List Int)) (r:List Int) (j:Nat):col (rows++[r]) j=col rows j++[r.getD j 0]:=by
 unfold col;rw [bC]; rfl
theorem a0M {a b:List Int} {x y:Int} (h:a.length=b.length):w8 (a++[x]) (b++[y])=w8 a b+x*y:=a3w h
theorem a2N (s:Int):∀ (hs:List j0) (ws:List Int),hs.length=ws.length->w8 (hs.map λ _=>s) ws=s*ws.sum
 | [],[],_=>by simp [w8]
 | _::hs,w::ws,h=>by
  have:=a2N s hs ws (by simpa using h);unfold w8 at *;rw [aV,cJ,bU,this,bU,fN]
 | [],_::_,h=>by simp at h
 | _::_,[],h=>by simp at h
section
variable {z:Str} {hs:List j0} {h:j0} {kt kg:Nat} (hk:∀ g∈hs,g.1.length=kt/\g.2.length=kg)
include hk
theorem a7m (ws:List Int) {j:Nat} (hj:j<kt):w8 (col (hs.map (A6 z)) j) ws = - N4 hs ws 0 j:=by
 have e:col (hs.map (A6 z)) j=(col (hs.map (X9 0)) j).map λ y=>-y:=by
  unfold col;rw [aQ,aQ,aQ];refine cW λ g hg=>?_
  show (A6 z g).getD j 0 = - (X9 0 g).getD j 0
  have:=hk g hg;unfold A6;rw [a0O,aA,if_pos (by lia),a4p]; rfl
 rw [e,a0B]; rfl
theorem a7n (ws:List Int) {j:Nat} (hj:j<kg):w8 (col (hs.map (A6 z)) (kt+j)) ws=N4 hs ws 1 j:=by
 have e:col (hs.map (A6 z)) (kt+j)=col (hs.map (X9 1)) j:=by
  unfold col;rw [aQ,aQ];refine cW λ g hg=>?_
  show (A6 z g).getD (kt+j) 0=(X9 1 g).getD j 0
  have:=hk g hg;unfold A6;rw [a0O,aA,if_neg (by lia),if_pos (by lia),this.1,eI]; rfl
 rw [e]; rfl
theorem a9D {ws:List Int} (hw:hs.length=ws.length) (t:Nat):w8 (col (hs.map (A6 z)) (kt+kg+t)) ws=(M8 z).getD t 0*ws.sum:=by
 have e:col (hs.map (A6 z)) (kt+kg+t)=hs.map λ _=>(M8 z).getD t 0:=by
  unfold col;rw [aQ];refine cW λ g hg=>?_
  show (A6 z g).getD (kt+kg+t) 0=_
  have:=hk g hg;unfold A6;rw [a0O,aA,if_neg (by lia),if_neg (by lia),this.1,this.2,eI]
 rw [e,a2N _ _ _ hw]
end
structure b4N (z:Str) (hs:List j0) (h:j0) (S:Lp.Bo) (kt kg:Nat) (ws:List Int):Prop where
 lw:ws.length=hs.length
 nn:∀ x∈ws,0<=x/\Big 20000 x
 size:a3X z ws.sum S.d
 takes:∀ j,j<kt->N4 hs ws 0 j<=h.1.getD j 0*S.T (mE hs) (qE z h)
 gives:∀ j,j<kg->h.2.getD j 0*S.d<=N4 hs ws 1 j
 pos:0<S.T (mE hs) (qE z h)
 le:h∈hs->S.T (mE hs) (qE z h)<=S.d
 fair:∀ g∈hs,O1 g (pgA h (u0 (mE hs) (qE z h) S)) (psA z h (u0 (mE hs) (qE z h) S))<=pay g (ptA h (u0 (mE hs) (qE z h) S))
 pays:pay h (ptA h (u0 (mE hs) (qE z h) S))=S.d
 earns:O1 h (pgA h (u0 (mE hs) (qE z h) S)) (psA z h (u0 (mE hs) (qE z h) S))=S.T (mE hs) (qE z h)
 pr:PrN (ptA h (u0 (mE hs) (qE z h) S)) (pgA h (u0 (mE hs) (qE z h) S)) (psA z h (u0 (mE hs) (qE z h) S)) S.d kt kg
 sign:a2x z (psA z h (u0 (mE hs) (qE z h) S))
theorem a6X {z:Str} {xs:List Int} (hz:Szw z) (nn:∀ x∈xs,0<=x):a2x z (w8 xs (M8 z)):=by
 rcases hz with rfl | rfl | rfl | rfl
 ·have:w8 xs (M8 "any")=0:=by show (cF _ xs []).sum=0; simp
  rw [this]; exact ⟨λ _=>cD _,λ _=>cD _⟩
 ·exact ⟨λ h=>absurd h (by decide),λ h=>absurd h (by decide)⟩
 ·refine ⟨λ _=>?_,λ h=>absurd h (by decide)⟩
  show (cF _ xs [-1]).sum<=0
  cases xs with
  | nil=>simp
  | cons x r=>have:=nn x (.head _); simp; lia
 ·refine ⟨λ h=>absurd h (by decide),λ _=>?_⟩
  show 0<=(cF _ xs [1]).sum
  cases xs with
  | nil=>simp
  | cons x r=>have:=nn x (.head _); simp; lia
theorem a9F {z:Str} {xs:List Int} (h:∀ x∈xs,Big 4000 x) (hl:xs.length<=200):Big 5000 (w8 xs (M8 z)):=by
 have:∀ y∈M8 z,Big 100 y:=λ y hy=>cC (a1x z y hy) (Nat.pow_lt_pow_right (by decide) (by decide));exact (a9P (a7S h this) (by rw [fM]; lia)).mono (by decide)
theorem a6R {z:Str} {hs:List j0} {h:j0} {S:Lp.Bo} {far:Int} {kt kg:Nat} (hz:Szw z) (B:Best z hs h S) (hG:∀ g∈hs,HG far kt kg g) (gh:HG far kt kg h) (kt1:1<=kt) (kt4:kt<=20) (kg4:kg<=20) :
  b4N z hs h S kt kg ((K7 (mE hs) (qE z h) S).take hs.length):=by
 obtain ⟨O,hn,sz⟩:=B;have hk:∀ g∈hs,g.1.length=kt/\g.2.length=kg:=λ g hg=>⟨(hG g hg).lt,(hG g hg).lg⟩;have sg:=a1y z;generalize hm:mE hs=m at *;generalize hq:qE z h=q at *;have hm':m=hs.length+1:=hm.symm;have hq':q=kt+kg+(M8 z).length:=by rw [<- hq]; show h.1.length+h.2.length+_=_; rw [gh.lt,gh.lg]
 replace O:Lp.Of m q (V4 (E1 z hs h)) (G8 (a0k hs)) (G8 (K9 z h)) S:=by rw [hm',<- hq]; exact O
 have lr:(E1 z hs h).length=m:=by unfold E1; simp [hm']
 have lrow:∀ g∈hs,(A6 z g).length=q:=λ g hg=>by unfold A6; simp [(hk g hg).1,(hk g hg).2,hq']; lia
 have lpaid:(N7 z h).length=q:=by unfold N7; simp [gh.lt,gh.lg,hq']; lia
 have lgoal:(K9 z h).length=q:=by unfold K9; simp [gh.lt,gh.lg,hq']; lia
 have lb:(a0k hs).length=m:=by unfold a0k; simp [hm']
 have la:(u0 m q S).length=q:=by unfold u0; simp
 have lw:(K7 m q S).length=m:=by unfold K7; simp
 have hsp:K7 m q S=(K7 m q S).take hs.length++[Lp.valOut m q S (q+hs.length)]:=by rw [hm']; exact a7c
 generalize hws:(K7 m q S).take hs.length=ws at *;generalize hwn:Lp.valOut m q S (q+hs.length)=wn at *;have lws:ws.length=hs.length:=by rw [<- hws,cI,lw]; lia
 have wnn:∀ x∈ws,0<=x/\Big 20000 x:=λ x hx=>by
  have hx':x∈K7 m q S:=by rw [hsp]; exact dN _ hx
  refine ⟨b2I hn x hx',?_⟩;unfold K7 at hx';obtain ⟨k,hk',rfl⟩:=bA.mp hx';exact (b0Y O sz (by have:=cS.mp hk'; lia)).mono (by decide)
 have pos:=O.w.pos;have eT:wn=S.T m q:=by
  have:=a9Q O lb;rw [hsp] at this;unfold a0k at this;rw [a0M (by rw [bP]; exact lws.symm),Z1] at this;lia
 have colA:∀ j,w8 (col (E1 z hs h) j) (K7 m q S)=w8 (col (hs.map (A6 z)) j) ws+(N7 z h).getD j 0*wn:=λ j=>by
  rw [hsp];unfold E1;rw [a9m,a0M (by unfold col; rw [aA,aA,lws])]
 have tk:∀ j,j<kt->N4 hs ws 0 j<=h.1.getD j 0*wn:=λ j hj=>by
  have:=a3o O hn lr (j:=j) (by lia);rw [colA,a7m hk ws hj] at this;unfold K9 N7 at this;rw [a0O,a0O,bP,if_pos (by rw [gh.lt]; lia),if_pos (by rw [gh.lt]; lia),S6] at this;lia
 have gv:∀ j,j<kg->h.2.getD j 0*S.d<=N4 hs ws 1 j:=λ j hj=>by
  have:=a3o O hn lr (j:=kt+j) (by lia);rw [colA,a7n hk ws hj] at this;unfold K9 N7 at this;rw [a0O,a0O,bP,bP,gh.lt,gh.lg,if_neg (by lia),if_pos (by lia),if_neg (by lia),if_pos (by lia),eI,S6] at this;lia
 have szc:∀ t,t<(M8 z).length->(M8 z).getD t 0*S.d<=(M8 z).getD t 0*ws.sum:=λ t ht=>by
  have:=a3o O hn lr (j:=kt+kg+t) (by lia);rw [colA,a9D hk lws.symm t] at this;unfold K9 N7 at this;rw [a0O,a0O,bP,bP,gh.lt,gh.lg,if_neg (by lia),if_neg (by lia),if_neg (by lia),if_neg (by lia),eI,S6] at this;lia
 have size:a3X z ws.sum S.d:=by
  rcases hz with rfl | rfl | rfl | rfl
  ·exact ⟨λ h=>absurd h (by decide),λ h=>absurd h (by decide)⟩
  ·have s0:(1:Int)*S.d<=1*ws.sum:=szc 0 (by decide)
   have s1:(-1:Int)*S.d <= -1*ws.sum:=szc 1 (by decide);exact ⟨λ _=>by lia,λ _=>by lia⟩
  ·have s1:(-1:Int)*S.d <= -1*ws.sum:=szc 0 (by decide)
   exact ⟨λ _=>by lia,λ h=>absurd h (by decide)⟩
  ·have s0:(1:Int)*S.d<=1*ws.sum:=szc 0 (by decide)
   exact ⟨λ h=>absurd h (by decide),λ _=>by lia⟩
 have posT:0<wn:=by
  obtain ⟨y,hy,y0⟩:=gh.p;obtain ⟨j,hj⟩:=iW hy;have hjl:j<kg:=by have:=(bQ.mp hj).1; rw [gh.lg] at this; exact this
  have yD:h.2.getD j 0=y:=by rw [aI,hj]; rfl
  have g1:=gv j hjl;rw [yD] at g1;have g2:0<N4 hs ws 1 j:=kP (dY y0 pos) g1;have nnc:∀ x∈col (hs.map (X9 1)) j,0<=x:=λ x hx=>by
   unfold col at hx;obtain ⟨r,hr,rfl⟩:=bA.mp hx;obtain ⟨g,hg,rfl⟩:=bA.mp hr;have hg':=hG g hg;have hl:j<(X9 1 g).length:=by show j<g.2.length; rw [hg'.lg]; exact hjl
   rw [aI,aH hl];exact (hg'.g _ (cU hl)).1
  obtain ⟨k,hk1,hk2⟩:=a2j nnc (λ x hx=>(wnn x hx).1) g2;have pc:∀ x∈col (hs.map (X9 0)) 0,0<x:=λ x hx=>by
   unfold col at hx;obtain ⟨r,hr,rfl⟩:=bA.mp hx;obtain ⟨g,hg,rfl⟩:=bA.mp hr;have hg':=hG g hg;have hl:0<(X9 0 g).length:=by show 0<g.1.length; rw [hg'.lt]; lia
   rw [aI,aH hl];have:=(hg'.t _ (cU hl)).1
   show 0<(X9 0 g)[0]
   lia
  have g3:0<N4 hs ws 0 0:=a2e pc (λ x hx=>(wnn x hx).1) (by unfold col; rw [aA,aA,lws]) ⟨k,hk1,hk2⟩;have g4:=tk 0 (by lia);have hl:0<h.1.length:=by rw [gh.lt]; lia
  have h0:1<=h.1.getD 0 0:=by
   rw [aI,aH hl];exact (gh.t _ (cU hl)).1
  have g5:0<h.1.getD 0 0*wn:=kP g3 g4
  by_cases hw:0<wn
  ·exact hw
  ·have:=cN (show 0<=h.1.getD 0 0 by lia) (show 0 <= -wn by lia)
   rw [dI] at this;lia
 have fair:∀ g∈hs,O1 g (pgA h (u0 m q S)) (psA z h (u0 m q S))<=pay g (ptA h (u0 m q S)):=λ g hg=>by
  obtain ⟨k,hk'⟩:=iW hg;have hkl:=(bQ.mp hk').1;have hr:(E1 z hs h)[k]?=some (A6 z g):=by
   unfold E1;rw [bO (by rw [aA]; exact hkl),aD,hk']; rfl
  have:=a3m O (i:=k) (by lia) hr (lrow g hg);rw [a6P (h:=h) (by rw [(hk g hg).1,gh.lt]) (by rw [(hk g hg).2,gh.lg])] at this;unfold a0k at this;rw [D7,bP,if_pos hkl,S6,dZ] at this;lia
 have hr:(E1 z hs h)[hs.length]?=some (N7 z h):=by
  unfold E1;rw [bZ (by rw [aA]; exact aF _),aA,fQ]; rfl
 have pays:pay h (ptA h (u0 m q S))=S.d:=by
  have:=a5l O hn (i:=hs.length) (by lia) hr lpaid (by rw [hwn]; exact posT);rw [a8F] at this;unfold a0k at this;rw [D7,bP,if_neg (by lia),fQ] at this;rw [this];exact gD _
 have earns:O1 h (pgA h (u0 m q S)) (psA z h (u0 m q S))=S.T m q:=by rw [<- a9e]; exact a4v O lgoal
 have anb:∀ x∈u0 m q S,0<=x/\Big 4000 x:=λ x hx=>by
  refine ⟨a6M O x hx,?_⟩;unfold u0 at hx;obtain ⟨k,hk',rfl⟩:=bA.mp hx;exact b0p O sz (cS.mp hk')
 have d4:S.d<2 ^ 4000:=by
  have h1:S.d.natAbs<2 ^ 4000:=sz.2;have h3:S.d=(S.d.natAbs:Int):=by lia
  rw [h3]
  exact_mod_cast h1
 refine ⟨lws,wnn,size,λ j hj=>?_,gv,?_,?_,?_,?_,?_,?_,?_⟩
 ·rw [hm,hq,<- eT]; exact tk j hj
 ·rw [hm,hq,<- eT]; exact posT
 ·intro hin; rw [hm,hq,<- earns,<- pays]; exact fair h hin
 ·rw [hm,hq]; exact fair
 ·rw [hm,hq]; exact pays
 ·rw [hm,hq]; exact earns
 ·rw [hm,hq]
  refine ⟨?_,?_,λ x hx=>?_,λ x hx=>?_,?_,pos,d4⟩
  ·rw [cI,la,gh.lt]; lia
  ·rw [cI,dE,la,gh.lt,gh.lg]; lia
  ·have:=anb x (fU hx)
   exact ⟨this.1,this.2.mono (by decide)⟩
  ·have:=anb x (eJ (fU hx))
   exact ⟨this.1,this.2.mono (by decide)⟩
  ·exact a9F (λ x hx=>(anb x (eJ hx)).2) (by rw [dE,la]; lia)
 ·rw [hm,hq]
  exact a6X hz λ x hx=>(anb x (eJ hx)).1
end Rim
namespace L2
open PySem PySem.Spec PyProof.Rows
theorem a7p {P:Program} {w:World} {K:W.Frag} {mg mb:Str->Option Value} {CX:CXT} {k:Nat} {fa a:Addr} {fd:FuncData} {x:Str} {sp:Sp} {s₁:Shared} {vs:List Value} {ns:List Int} {Ps:List Addr}
  (KX:K.In s₁.heap) (hns:s₁.heap.Ns mainGlobals mg) (hb:s₁.heap.Ns builtinsNs mb) (hbb:∀ x:Str,x≠"__name__"->mb x=bootBuiltins x) (hlim:s₁.heap.NoLimit) (hg:s₁.gens=#[])
  (ha:s₁.heap.get? a=some { cls:=.type "list",data:=.seq vs.toArray }) (hi:IntsAre vs ns) (hl:ns.length<=sizeLine) (hr:Room k callerA)
  (hT:∀ p∈Ps,∃ c,s₁.heap.TableAt c p #[]) (hKP:∀ p∈Ps,K.lookup p=none) (BM:T9 mg s₁.heap)
  (F:∀ base:Heap,K.In base->base.Ns mainGlobals mg->T9 mg base->FnOk P w K mg base CX k fa fd [x] sp) (hbind:∀ (s:Shared) (u:Value),BindsTo s fd ⟨[u],[]⟩ [(x,u)])
  (hsp:∀ H:Hp,(∀ p∈Ps,H p=some (.tbl #[]))->SqL K H a (ns.map V.int)->sp [.ref a] H (λ v _=>v=.bl true) λ _ _ _=>False)
  (hCX:∀ H e s',CX [] H s₁ (λ _ _ _=>False) e s'->False) :
  codeAny (model P w) callerA (.call (.ref fa) ⟨[.ref a],[]⟩) (λ r s'=>r=.ok (.ret (.bool true))/\OldK s₁.heap s'.heap/\s'.os=s₁.os/\AllBare s'.gens) s₁:=by
 have rv:=a3d hi;have lenV:=hi.length;have tabObj:∀ p∈Ps,s₁.heap.get? p=some { cls:=.none,data:=.fields #[] }:=λ p hp=>by
  obtain ⟨c,z⟩:=hT p hp;exact z.2
 have core:∀ H:Hp,(∀ b,H b=none\/(∃ o xs,H b=some (.frz o (.lst xs)))\/(b∈Ps/\H b=some (.tbl #[])))->(∀ p∈Ps,H p=some (.tbl #[]))->SqL K H a (ns.map V.int)->HOk P w H s₁.heap->(∀ b,H b≠none->b=a\/b∈Ps)->(H a≠none->K.lookup a=none) →
   codeAny (model P w) callerA (.call (.ref fa) ⟨[.ref a],[]⟩) (λ r s'=>r=.ok (.ret (.bool true))/\OldK s₁.heap s'.heap/\s'.os=s₁.os/\AllBare s'.gens) s₁:=by
  intro H hO hP hS hok hA hK;have base_of:∀ {b:Addr} {o:Obj},s₁.heap.get? b=some o->H b=none->(a2F s₁.heap H).get? b=some o:=λ e n=>a8Q e n;have noA:∀ {b:Addr} {o:Obj} {es:Array DictEntry} {ep:Nat},s₁.heap.get? b=some o->o.data=.dict es ep->H b=none:=λ {b o es ep} e d=>by
   cases q:H b with
   | none=>rfl
   | some u =>
    rcases hA b (by rw [q]; simp) with e' | e'
    ·subst e'
     rw [ha] at e; cases e;have d':Data.seq vs.toArray _=Data.dict es ep:=d
     cases d'
    ·rw [tabObj b e'] at e; cases e
     have d':Data.fields #[]=Data.dict es ep:=d
     cases d'
  have nsK:∀ {b:Addr} {m:Str->Option Value},s₁.heap.Ns b m->(a2F s₁.heap H).Ns b m:=λ {b m} ⟨o,es,ep,e,d,r⟩=>⟨o,es,ep,base_of e (noA e d),d,r⟩;have hKb:K.In (a2F s₁.heap H):=λ b o e=>base_of (KX b o e) (by
   cases q:H b with
   | none=>rfl
   | some u =>
    rcases hA b (by rw [q]; simp) with e' | e'
    ·subst e'
     rw [hK (by rw [q]; simp)] at e; cases e
    ·rw [hKP b e'] at e; cases e)
  have hM:Mod K mg (a2F s₁.heap H):=⟨hKb,nsK hns,⟨mb,nsK hb,hbb⟩,let ⟨mc,h1,h2⟩:=hlim; ⟨mc,nsK h1,h2⟩⟩;have BM':T9 mg (a2F s₁.heap H):=by
   obtain ⟨bm,ob,b1,b2,b3,b4,b5,b6⟩:=BM;refine ⟨bm,ob,b1,b2,base_of b3 ?_,b4,b5,b6⟩
   cases q:H bm with
   | none=>rfl
   | some u =>
    rcases hA bm (by rw [q]; simp) with e' | e'
    ·subst e'
     rw [ha] at b3; cases b3; exact absurd b4 (by intro z; injection z with z; exact absurd z (by decide))
    ·rw [tabObj bm e'] at b3; cases b3; cases b4
  have e0:Env0 P w K mg (a2F s₁.heap H) callerA [] s₁ H:=⟨rfl,hM,λ b o e=>b0P e,hW (a7r _ _),trivial,λ b hb=>absurd (show b∈([]:List Addr) from hb) (by simp),hok,.of_eq hg⟩;refine codeAny_mono ((F _ hKb (nsK hns) BM').run callerA [] s₁ H ⟨[.ref a],[]⟩ [.ref a] [.ref a] _ _ hr e0 (hbind s₁ (.ref a)) (.cons rfl .nil) (hsp H hP hS)) λ r s' h=>?_
  cases r with
  | error e=>exact (hCX H e s' h).elim
  | ok fl =>
   cases fl with
   | next=>exact bM h
   | brk=>exact bM h
   | cont=>exact bM h
   | ret u =>
    obtain ⟨v,H',os,bare,un,hok',r',q⟩:=h;have q':v=.bl true:=q;subst q';obtain rfl:u=Value.bool true:=r';refine ⟨rfl,⟨λ b o e=>?_,λ b o e=>un.there b o e (by simp)⟩,os,bare⟩;rcases hO b with q | ⟨ob,xs,z⟩ | ⟨hbP,z⟩
    ·exact .inl (un.keep b o e q (by intro z; exact absurd (show b∈([]:List Addr) from z) (by simp)) (by simp))
    ·have z2:=un.frzs b ob _ z
     obtain ⟨e1,_⟩:=hok b _ z;obtain ⟨e2,_⟩:=hok' b _ z2;rw [e] at e1; cases e1;exact .inl e2
    ·obtain ⟨more,z2⟩:=un.tbls b _ z
     have e2:s'.heap.get? b=some { cls:=.none,data:=.fields (#[]++more) }:=hok' b _ z2;rw [tabObj b hbP] at e; cases e;obtain ⟨c,ht⟩:=hT b hbP;exact .inr (.inl ⟨ht.isCodeTable,rfl,#[],more,rfl,e2⟩)
 have aP:a ∉ Ps:=λ z=>by
  have:=tabObj a z;rw [ha] at this; cases this
 cases hk:K.lookup a with
 | some o =>
  have e:=KX a o hk;rw [ha] at e
  cases e;refine core (λ b=>if b∈Ps then some (.tbl #[]) else none) (λ b=>?_) (λ p hp=>if_pos hp) (.inr ⟨_,vs.toArray,_,hk,rfl,rfl,rfl,by rw [aT,lenV]; exact hl,by simpa using rv⟩) (λ b u z=>?_) (λ b z=>?_) λ z=>absurd (if_neg aP) z
  ·by_cases hb:b∈Ps
   ·exact .inr (.inr ⟨hb,if_pos hb⟩)
   ·exact .inl (if_neg hb)
  ·by_cases hb:b∈Ps
   ·have z':=(if_pos hb).symm.trans z
    cases z';exact tabObj b hb
   ·have z':=(if_neg hb).symm.trans z
    cases z'
  ·by_cases hb:b∈Ps
   ·exact .inr hb
   ·exact absurd (if_neg hb) z
 | none =>
  refine core (λ b=>if b=a then some (.frz { cls:=.type "list",data:=.seq vs.toArray } (.lst (ns.map V.int))) else if b∈Ps then some (.tbl #[]) else none) (λ b=>?_) (λ p hp=>?_) (.inl (.inr ⟨{ cls:=.type "list",data:=.seq vs.toArray },if_pos rfl⟩)) (λ b u z=>?_) (λ b z=>?_) λ _=>hk
  ·by_cases hb:b=a
   ·exact .inr (.inl ⟨_,_,if_pos hb⟩)
   ·by_cases hb2:b∈Ps
    ·exact .inr (.inr ⟨hb2,(if_neg hb).trans (if_pos hb2)⟩)
    ·exact .inl ((if_neg hb).trans (if_neg hb2))
  ·have hb:p≠a:=λ z=>aP (z ▸ hp)
   exact (if_neg hb).trans (if_pos hp)
  ·by_cases hb:b=a
   ·have z':=(if_pos hb).symm.trans z
    cases z';subst hb;exact ⟨ha,by rw [aA]; exact hl,vs,_,rv,ha⟩
   ·by_cases hb2:b∈Ps
    ·have z':=((if_neg hb).trans (if_pos hb2)).symm.trans z
     cases z';exact tabObj b hb2
    ·have z':=((if_neg hb).trans (if_neg hb2)).symm.trans z
     cases z'
  ·by_cases hb:b=a
   ·exact .inl hb
   ·by_cases hb2:b∈Ps
    ·exact .inr hb2
    ·exact absurd ((if_neg hb).trans (if_neg hb2)) z
theorem walk_ofT {l:W.OpenLaw} {n k:Nat} {q:Program} {loose:List Str} {XP:(Str->Option Value)->Heap->Prop} {YP:World->Heap->Prop} {d:DefRec} {K:Params->W.Frag} {CX:World->CXT} {sp:World->Sp} {x:Str} {Ts:List (Addr×Addr)}
  (hn:l.most=some n) (hn2:n<=sizeLine) (hdf:d.params.defaults=[]) (hr:Room k callerA)
  (hY:∀ (w:World) (h:Heap),YP w h->(K w.params).In h/\∀ t∈Ts,h.get? t.2=some (W.tabObj #[]))
  (hC:∀ (w:World),∀ t∈Ts,W.codeHdIn (K w.params) t.1 t.2=true/\(K w.params).lookup t.2=none)
  (F:∀ (w:World) (mg:Str->Option Value) (fa:Addr) (h:Heap),(K w.params).In h->h.Ns mainGlobals mg->mg d.name=some (.ref fa) →
   ∃ fd:FuncData,(∀ (s:Shared) (u:Value),BindsTo s fd ⟨[u],[]⟩ [(x,u)]) ∧
    ∀ base:Heap,(K w.params).In base->base.Ns mainGlobals mg->T9 mg base->(∀ t∈Ts,W.CodeHd base t.1 t.2)->FnOk l.prog w (K w.params) mg base (CX w) k fa fd [x] (sp w))
  (hsp:∀ (w:World) (H:Hp) (a:Addr) (ns:List Int),ns.length<=n->(∀ t∈Ts,H t.2=some (.tbl #[]))->SqL (K w.params) H a (ns.map V.int)->sp w [.ref a] H (λ v _=>v=.bl true) λ _ _ _=>False)
  (hCX:∀ (w:World) (H:Hp) (s:Shared) (e:Value) (s':Shared),CX w [] H s (λ _ _ _=>False) e s'->False) :
  W.WalkO q loose XP YP l.row.toRowW d [] (λ f vs=>iE f vs):=by
 refine Att.attach_call hn hdf λ w s₀ s₁ mg mb fa o pm cd doc a vs ns G Y ho hd hcd hmg hobj hints hlen hg=>?_;obtain ⟨KX,hTb⟩:=hY w _ Y;obtain ⟨fd,hb,hF⟩:=F w mg fa _ KX G.T.g hmg;have mem:∀ p∈Ts.map (·.2),∃ t∈Ts,t.2=p:=λ p hp=>by
  obtain ⟨t,h1,h2⟩:=bA.mp hp;exact ⟨t,h1,h2⟩
 refine a7p (Ps:=Ts.map (·.2)) KX G.T.g G.T.b G.T.builtins G.T.nolimit hg hobj hints (aW hlen hn2) hr (λ p hp=>?_) (λ p hp=>?_) G.T.bmain (λ base kb nb bm=>hF base kb nb bm λ t ht=>W.codeHd_of_K kb (hC w t ht).1) hb (λ H hP hS=>hsp w H a ns hlen (λ t ht=>hP _ (List.mem_map_of_mem ht)) hS) λ H e s'=>hCX w H s₁ e s'
 ·obtain ⟨t,h1,rfl⟩:=mem p hp
  exact ⟨t.1,(W.codeHd_of_K KX (hC w t h1).1).tab (hTb t h1)⟩
 ·obtain ⟨t,h1,rfl⟩:=mem p hp
  exact (hC w t h1).2
end L2
namespace L2
open PySem
theorem a1b {X:Cx} {P:Program} {w:World}:T3 (CX1 P w) X E0:=λ _ _ _ _ _ _ _ ⟨_,_,_,_,_,_,_,h⟩=>h.elim
theorem Same.to1 {P:Addr} {H H':Hp} (e:Same H H'):Same1 P H H':=λ b o _ h=>e b o h
theorem Same1.trans {P:Addr} {H H1 H2:Hp} (a:Same1 P H H1) (b:Same1 P H1 H2):Same1 P H H2:=λ c o n h=>b c o n (a c o n h)
theorem Same1.write {P a:Addr} {H H':Hp} {o:HO} (e:Same1 P H H') (h:H a=none):Same1 P H (r6 H' a o):=λ b u n q=>by
 rw [c9 (d7 q h)]; exact e b u n q
theorem Same1.get {P:Addr} {pos:Pos} {qual:Str} {H H':Hp} {b:Addr} {o:HO} (T:LamTab P pos qual H) (e:Same1 P H H') (h:H b=some o) (n:∀ ps,o≠.tbl ps):H' b=some o:=e b o (λ z=>by
 subst z;rcases T with t | ⟨c,t,_⟩
 ·rw [h] at t; exact n _ (aL t)
 ·rw [h] at t; exact n _ (aL t)) h
theorem LamTab.write {P a:Addr} {pos:Pos} {qual:Str} {H:Hp} {xs:List V} {o:HO} (T:LamTab P pos qual H) (h:H a=some (.lst xs)):LamTab P pos qual (r6 H a o):=by
 rcases T with e | ⟨c,e1,e2⟩
 ·exact .inl (by rw [c9 (λ z=>by rw [z,h] at e; cases e)]; exact e)
 ·exact .inr ⟨c,by rw [c9 (λ z=>by rw [z,h] at e1; cases e1)]; exact e1,by rw [c9 (λ z=>by rw [z,h] at e2; cases e2)]; exact e2⟩
end L2
namespace Rim
open PySem L2 Fr
theorem a0s:∀ ns:List Int,PyData.depthAll (ns.map PyData.int)<=3
 | []=>by simp [PyData.depthAll]
 | n::r=>by
  rw [aV,PyData.depthAll];exact fV.mpr ⟨by simp [PyData.depth],a0s r⟩
theorem a4l (h:j0):(C6 h).depth<=8:=by
 unfold C6 a6I;have h1:=a0s h.1;have h2:=a0s h.2;rw [PyData.depth,PyData.depthAll,PyData.depth,PyData.depthAll,PyData.depth,PyData.depthAll];lia
theorem P2:∀ hs:List j0,PyData.depthAll (hs.map C6)<=8
 | []=>by simp [PyData.depthAll]
 | h::r=>by
  rw [aV,PyData.depthAll];exact fV.mpr ⟨a4l h,P2 r⟩
theorem U1 {j:Nat} (h:j<=1000):((j:Int)).natAbs.log2<1920:=by
 rw [Int.natAbs_natCast]
 by_cases h0:j=0
 ·subst h0; decide
 ·exact Nat.lt_trans ((iI h0).mpr (cC h (show 1000<2 ^ 10 by decide))) (by decide)
section
variable {P:Program} {w:World} {K:W.Frag} {mg:Str->Option Value} {base:Heap} {f Pt d:Addr} {fd:FuncData} {n:Nat} {C:Addr}
end
section
variable {P:Program} {w:World} {K:W.Frag} {mg:Str->Option Value} {base:Heap} {f Pt d:Addr} {fd:FuncData} {n:Nat} {C:Addr}
end
structure b5x (z:Str) (hs:List j0) (h:j0) (S:Lp.Bo) (kt kg:Nat) (ws:List Int):Prop where
 lw:ws.length=hs.length
 nn:∀ x∈ws,0<=x/\Big 20000 x
 size:a3X z ws.sum (S.T (mE hs) (qE z h))
 takes:∀ j,j<kt->N4 hs ws 0 j<=h.1.getD j 0*S.T (mE hs) (qE z h)
 gives:∀ j,j<kg->h.2.getD j 0*S.d<=N4 hs ws 1 j
 pos:0<S.T (mE hs) (qE z h)
 le:S.T (mE hs) (qE z h)<=S.d
 fair:∀ g∈hs,O1 g (pgA h (u0 (mE hs) (qE z h) S)) (psA z h (u0 (mE hs) (qE z h) S))<=pay g (ptA h (u0 (mE hs) (qE z h) S))
 pays:pay h (ptA h (u0 (mE hs) (qE z h) S)) - psA z h (u0 (mE hs) (qE z h) S)=S.d
 gvs:w8 h.2 (pgA h (u0 (mE hs) (qE z h) S))=S.T (mE hs) (qE z h)
 pr:PrN (ptA h (u0 (mE hs) (qE z h) S)) (pgA h (u0 (mE hs) (qE z h) S)) (psA z h (u0 (mE hs) (qE z h) S)) (S.T (mE hs) (qE z h)) kt kg
 sign:a2x z (psA z h (u0 (mE hs) (qE z h) S))
section
variable {P:Program} {w:World} {K:W.Frag} {mg:Str->Option Value} {base:Heap} {f Pt d CN:Addr} {fd:FuncData} {n:Nat} {C:Addr}
end
end Rim
namespace Lp
section
variable {m q:Nat} {A:Nat->Nat->Int} {b c:Nat->Int} {S:Bo}
theorem Of.bounded1 (O:Of m q A b c S) {l cc:Nat} (hl:l<m) (hA:∀ j,j<q->A l j=c j) (hc:cc<q) (neg:S.T m cc<0) (no:∀ i,i<m->¬ 0<S.T i cc):False:=by
 have K0:=(O.k _).mp (O.w.ray_ker (c:=cc) (by omega));obtain ⟨rows,goal⟩:=ker0.mp K0;have zc:ray m S cc (q+m+1)=0:=by
  rw [<- O.w.oq];exact O.w.ray_out (by omega) (by omega) (by omega)
 have zg:ray m S cc (q+m) = - S.T m cc:=by
  rw [<- O.w.im];exact O.w.ray_in (by omega) (by omega)
 have nl:0<=ray m S cc (q+l):=by
  rcases O.w.all (q+l) (by omega) with ⟨i,hi,e⟩ | ⟨j,hj,e⟩
  ·rw [<- e,O.w.ray_in (by omega) (by omega)]
   have:=no i hi;omega
  ·rw [<- e]
   by_cases hjc:j=cc
   ·subst hjc
    rw [Wf.ray_c];exact bH O.w.pos
   ·rw [O.w.ray_out (by omega) (by omega) hjc]; exact cD _
 have rl:=rows l hl;rw [zc,bD,dR] at rl;have e:sumTo (λ j=>c j*ray m S cc j) q=sumTo (λ j=>A l j*ray m S cc j) q:=sum_congr λ j hj=>by rw [hA j hj]
 rw [zg,e] at goal;omega
end
end Lp
namespace Rim
open PySem L2 Fr
def S1 (z:Str) (g:j0):List Int:=A6 z g++[g.2.sum - g.1.sum]
def J3 (z:Str) (h:j0):List Int:=aG (h.1.length+h.2.length+(M8 z).length) 0++[1]
def J7 (z:Str) (hs:List j0) (h:j0):List (List Int):=hs.map (S1 z)++[(S1 z h).map (λ x=>-x),J3 z h]
def a0e (hs:List j0):List Int:=aG hs.length 0++[0,1]
abbrev mF (hs:List j0):Nat:=hs.length+2
abbrev qF (z:Str) (h:j0):Nat:=h.1.length+h.2.length+(M8 z).length+1
abbrev OfF (z:Str) (hs:List j0) (h:j0) (S:Lp.Bo):Prop:=Lp.Of (mF hs) (qF z h) (V4 (J7 z hs h)) (G8 (a0e hs)) (G8 (J3 z h)) S
def a6G (z:Str) (hs:List j0) (h:j0) (S:Lp.Bo):Prop:=OfF z hs h S/\(∀ j,j<qF z h->¬ S.T (mF hs) j<0)/\Sz 4000 (mF hs) (qF z h) S
theorem b1G:(["takes","gives"]:List Str).Nodup:=by decide +kernel
theorem b1l:(["row","floor"]:List Str).Nodup:=by decide +kernel
theorem b3N:(["one"]:List Str).Nodup:=by decide +kernel
section
variable {P:Program} {w:World} {K:W.Frag} {mg:Str->Option Value} {base:Heap} {f Pt d:Addr} {fd:FuncData} {n:Nat} {C:Addr}
def a6s (K:W.Frag) (Pt:Addr):Sp:=λ vs H Q _=>∃ (ba:Addr) (xs:List V) (hs:List j0) (i:Nat) (h:j0) (z:Str) (far:Int) (kt kg:Nat),vs=[.ref ba,.int i,.str z]/\Szw z/\Q6 K H ba xs hs far kt kg/\far<=2 ^ 50/\hs[i]?=some h/\LT Pt H ∧
 ∀ (S:Lp.Bo) (H':Hp) (t aa wa:Addr),a6G z hs h S->Same1 Pt H H'->LT Pt H'->H' t=some (.tup [.int (S.T (mF hs) (qF z h)),.ref aa,.ref wa,.int S.d]) →
  H' aa=some (.lst ((u0 (mF hs) (qF z h) S).map V.int))->H' wa=some (.lst ((K7 (mF hs) (qF z h) S).map V.int))->Q (.ref t) H'
theorem scFl:m9 ["houses","number","sizes","rows","floors","firm","goal"] ["houses","number","sizes"] (i8 a1j):=⟨rfl,rfl,rfl,by decide +kernel,rfl,by decide +kernel,by decide +kernel⟩
noncomputable def flT {cdv:Value} {A:Around} {outer:List Env} {s:Shared} {H:Hp} {E:XK} {f1 f2:Addr} {d1 d2:FuncData} (N:x5 mg) (Cg:a0f P w K mg base n "greatest" ["goal","rows","bounds"] (P4 K C Pt) f1 d1) (Ch:a0f P w K mg base n "house_rows" ["houses","sizes"] (M5 K) f2 d2)
  (hr:Room n (A.deeper (dC "greatest_floor" (i8 a1j) s.heap.objs.size f cdv))) :
  { t:TS // PSs (K1 E4 P w K mg base ["houses","number","sizes","rows","floors","firm","goal"] "greatest_floor" (i8 a1j) f cdv A outer s H E).nox (w4 a1j) t } :=
 ⟨_,i9 (o4 (i:=3) scFl.nd rfl (aC rfl) (o6 Ch.ok hr rfl Ch.m Ch.k Ch.b .nil w6 (a0 (pv 0) (a0 (pv 2) e9))))
  (p7 (V9 (i:=4) ["takes","gives"] [] scFl.nd rfl rfl rfl (M4 (pv 0)) (λ _ _ _ _=>T4 K (n:=2) rfl rfl (r8 (j8 (i:=0) b1G rfl (aC rfl)) (r8 (j8 (i:=1) b1G rfl (aC rfl)) C2)))
   (λ _ _ _ _=>j4 a1N (j6 (a8b K rfl rfl) rfl N.sum iX (a0 (pv 1) e9)) (j6 (a8b K rfl rfl) rfl N.sum iX (a0 (pv 0) e9))))
  (p7 (V9 (i:=3) ["row","floor"] [] scFl.nd rfl rfl rfl (a8I true true K rfl rfl N.zip (a0 (pv 3) (a0 (pv 4) e9))) (λ _ _ _ _=>T4 K (n:=2) rfl rfl (r8 (j8 (i:=0) b1l rfl (aC rfl)) (r8 (j8 (i:=1) b1l rfl (aC rfl)) C2)))
   (λ _ _ _ _=>j4 C5 (pv 0) (u9 (a0 (pv 1) e9))))
  (p7 (V9 (i:=5) ["one"] [] scFl.nd rfl rfl rfl (M4 (j9 j5 (pv 3) (pv 1) (λ _ _=>rfl))) (λ _ _ _ _=>j8 (i:=0) b3N rfl (aC rfl)) (λ _ _ _ _=>O6 J1 (pv 0)))
  (p7 (o4 (i:=6) scFl.nd rfl (aC rfl) (j4 C5 (j4 W4 (u9 (a0 h8 e9)) (j4 a1N (j6 j7 rfl N.len bB (a0 (pv 5) e9)) h8)) (u9 (a0 h8 e9))))
  (j3 (r9 (o6 Cg.ok hr rfl Cg.m Cg.k Cg.b .nil w6 (a0 (pv 6) (a0 (j4 C5 (pv 3) (u9 (a0 (pv 5) (a0 (pv 6) e9))))
   (a0 (j4 C5 (j4 W4 (u9 (a0 h8 e9)) (j6 j7 rfl N.len bB (a0 (pv 0) e9))) (u9 (a0 h8 (a0 h8 e9)))) e9))))))))))⟩
end
theorem a3M:∀ {l:List Int} {M:Nat},(∀ x∈l,x.natAbs<=M)->l.sum.natAbs<=l.length*M
 | [],_,_=>by simp
 | a::r,M,h=>by
  have h1:=h a (.head _);have h2:=a3M (l:=r) (M:=M) λ x hx=>h x (.tail _ hx);rw [bU,cY,gK];omega
theorem a4D {z:Str} {g:j0} {far:Int} {kt kg:Nat} (hg:HG far kt kg g) (hf:far<=2 ^ 50) (hkt:kt<=20) (hkg:kg<=20):∀ x∈S1 z g,x.natAbs<=2 ^ 60:=λ x hx=>by
 have ht:∀ x∈g.1,x.natAbs<=2 ^ 50:=λ x hx=>by have:=hg.t x hx; omega
 have hg':∀ x∈g.2,x.natAbs<=2 ^ 50:=λ x hx=>by have:=hg.g x hx; omega
 have p:(2:Nat) ^ 50<=2 ^ 60:=by decide
 unfold S1 A6 at hx;rcases aO.mp hx with hx | hx
 ·rcases aO.mp hx with hx | hx
  ·rcases aO.mp hx with hx | hx
   ·obtain ⟨y,hy,rfl⟩:=bA.mp hx
    have:=ht y hy;rw [gE]; omega
   ·have:=hg' x hx; omega
  ·exact a1x z x hx
 ·rw [bF.mp hx]
  have h1:=a3M ht;have h2:=a3M hg';rw [hg.lt] at h1;rw [hg.lg] at h2;have h3:kt*2 ^ 50<=20*2 ^ 50:=iU _ hkt;have h4:kg*2 ^ 50<=20*2 ^ 50:=iU _ hkg;have h5:20*2 ^ 50+20*2 ^ 50<=(2:Nat) ^ 60:=by decide
  omega
theorem R7 {z:Str} {g:j0}:(S1 z g).length=g.1.length+g.2.length+(M8 z).length+1:=by unfold S1 A6; simp [kL]
theorem b3o {z:Str} {hs:List j0} {h:j0} {far:Int} {kt kg:Nat} (hh:HG far kt kg h) (hhs:∀ h∈hs,HG far kt kg h) (hf:far<=2 ^ 50) (hkt:kt<=20) (hkg:kg<=20) (q:Nat) :
  ∀ v,Lp.Fits (2 ^ 60) (mF hs+1) (Lp.Vv (mF hs) q (V4 (J7 z hs h)) (G8 (a0e hs)) (G8 (J3 z h)) v):=by
 have z0:∀ k:Nat,∀ x∈List.replicate k (0:Int),x.natAbs<=2 ^ 60:=λ k x hx=>by rw [(eH.mp hx).2]; decide
 have goal:∀ x∈J3 z h,x.natAbs<=2 ^ 60:=λ x hx=>by
  unfold J3 at hx;rcases aO.mp hx with hx | hx
  ·exact z0 _ x hx
  ·rw [bF.mp hx]; decide
 have rows:∀ r∈J7 z hs h,∀ x∈r,x.natAbs<=2 ^ 60:=λ r hr x hx=>by
  unfold J7 at hr;rcases aO.mp hr with hr | hr
  ·obtain ⟨g,hg,rfl⟩:=bA.mp hr
   exact a4D (hhs g hg) hf hkt hkg x hx
  ·simp only [aJ,aZ,or_false] at hr
   rcases hr with rfl | rfl
   ·obtain ⟨y,hy,rfl⟩:=bA.mp hx
    have:=a4D (z:=z) hh hf hkt hkg y hy;rw [gE]; exact this
   ·exact goal x hx
 have bnds:∀ x∈a0e hs,x.natAbs<=2 ^ 60:=λ x hx=>by
  unfold a0e at hx;rcases aO.mp hx with hx | hx
  ·exact z0 _ x hx
  ·simp only [aJ,aZ,or_false] at hx
   rcases hx with rfl | rfl <;> decide
 intro v i _;unfold Lp.Vv
 split
 ·split
  ·unfold V4
   refine S5 (λ x hx=>?_) v;rw [aI] at hx
   cases e:(J7 z hs h)[i]? with
   | none=>rw [e] at hx; cases hx
   | some r=>rw [e] at hx; exact rows r (bS e) x hx
  ·split
   ·rw [gE]; exact S5 goal v
   ·exact bR _
 ·split
  ·split <;> decide
  ·split
   ·exact S5 bnds i
   ·exact bR _
theorem a5U {z:Str} {hs:List j0} {h:j0} (j:Nat):V4 (J7 z hs h) (hs.length+1) j=G8 (J3 z h) j:=by
 have:(J7 z hs h)[hs.length+1]?=some (J3 z h):=by
  unfold J7;rw [bZ (by simp),aA,eI]; rfl
 rw [Z3 this]; rfl
section
variable {P:Program} {w:World} {K:W.Frag} {mg:Str->Option Value} {base:Heap} {f Pt d:Addr} {fd:FuncData} {n:Nat} {C:Addr}
theorem a9g {H':Hp} {rs:List Addr} {hs:List j0} {z:Str} (hl:rs.length=hs.length) (h:∀ (i:Nat) a g,rs[i]?=some a->hs[i]?=some g->H' a=some (.lst ((S1 z g).map V.int))):RowsL K H' (rs.map V.ref) (hs.map (S1 z)):=by
 induction hs generalizing rs with
 | nil =>
  cases rs with
  | nil=>exact .nil
  | cons a r=>simp at hl
 | cons g hs ih =>
  cases rs with
  | nil=>simp at hl
  | cons a r=>exact .cons ⟨a,rfl,SqL.of (h 0 a g rfl rfl)⟩ (ih (by simpa using hl) λ i b g' h1 h2=>h (i+1) b g' (by simpa using h1) (by simpa using h2))
theorem a9n {f1 f2:Addr} {d1 d2:FuncData} (F:Fun K "greatest_floor" "greatest_floor" a1j f fd) (N:x5 mg) (Cg:a0f P w K mg base n "greatest" ["goal","rows","bounds"] (P4 K C Pt) f1 d1) (Ch:a0f P w K mg base n "house_rows" ["houses","sizes"] (M5 K) f2 d2) :
  FnOk P w K mg base E4 (n+1) f fd ["houses","number","sizes"] (a6s K Pt):=by
 refine F.ok scFl (λ vs H Q E h=>?_) (λ cdv A outer s H vs Q E hr h=>?_)
 ·obtain ⟨ba,xs,hs,i,h,z,far,kt,kg,rfl,_⟩:=h
  rfl
 obtain ⟨ba,xs,hs,i,h,z,far,kt,kg,rfl,hz,B,hf,hh,L,k⟩:=h;refine ⟨_,(flT N Cg Ch hr).2,?_⟩;have xl:xs.length=hs.length:=Paired.length B.b;have few:=B.few;have k20:=B.t;have k21:=B.k;have sg:=a1y z;have gh:=B.g h (bS hh);have hil:i<hs.length:=(bQ.mp hh).1;have s1k:=m8 (show (1000:Nat)<=1000 from aF _);have lrow:∀ g∈hs,(S1 z g).length=kt+kg+(M8 z).length+1:=λ g hg=>by rw [R7,(B.g g hg).lt,(B.g g hg).lg]
 refine ⟨_,rfl,_,rfl,ba,xs,hs,z,kt,kg,rfl,hz,B.l,B.b,by omega,by omega,by omega,λ g hg=>⟨(B.g g hg).lt,(B.g g hg).lg⟩,λ r H1 rs e1 hr1 lr hrs=>?_⟩;refine ⟨λ σ' H2=>∃ fl:Addr,σ'=[some (.ref ba),some (.int i),some (.str z),some (.ref r),some (.ref fl),none,none]/\Same H1 H2/\H2 fl=some (.lst ((hs.map λ g=>g.2.sum - g.1.sum).map V.int)),?_,?_⟩
 ·refine ⟨_,rfl,ba,rfl,⟨_,e1.seq B.l⟩,λ l hl=>?_⟩
  refine a3T (J5 (e1.seq B.l)) hl (by omega) (λ j y _=>∃ g,hs[j]?=some g/\y=.int (g.2.sum - g.1.sum)) (λ _ _ _ _ r _=>r) (λ j x H2 ys N' hx e hl2 hN=>?_) (λ ys H2 e hl2 len pr=>?_)
  ·obtain ⟨g,hg,⟨a,ta,ga,rfl,p1,p2,p3⟩⟩:=Paired.at B.b hx
   have e':=e1.trans e;refine ⟨a,_,rfl,e'.tseq p1,rfl,_,_,rfl,_,_,rfl,rfl,?_,?_⟩
   ·refine ⟨by simp,λ k w ek=>?_⟩
    have:¬ k<2:=λ hk=>by
     unfold blkσ at ek;rw [bO (by simpa using hk),dL] at ek
     split at ek <;> cases ek
    rw [bE (by omega),bE (by omega)]; exact ek
   exact ⟨_,rfl,ga,_,rfl,.inr (e'.tseq p3),_,rfl,ta,_,rfl,.inr (e'.tseq p2),_,_,rfl,rfl,hN _ _ (Same.refl _) ⟨g,hg,rfl⟩⟩
  ·refine ⟨l,rfl,e,?_⟩
   rw [hl2]
   congr 2
   refine cK λ j=>?_
   by_cases hj:j<ys.length
   ·obtain ⟨g,g1,g2⟩:=pr j _ (aH hj)
    rw [aH hj,g2,aD,aD,g1]; rfl
   ·rw [bK (by omega),bK (by rw [aA,aA]; omega)]
 rintro σ1 H2 ⟨fl,rfl,e2,hfl⟩;refine ⟨λ σ' H3=>∃ (ra:Addr) (rs':List Addr),σ'=[some (.ref ba),some (.int i),some (.str z),some (.ref ra),some (.ref fl),none,none]/\Same H2 H3/\H3 ra=some (.lst (rs'.map V.ref))/\rs'.length=hs.length/\∀ (j:Nat) a g,rs'[j]?=some a->hs[j]?=some g->H3 a=some (.lst ((S1 z g).map V.int)),?_,?_⟩
 ·refine ⟨_,rfl,_,rfl,r,fl,rfl,⟨_,SqL.of (e2 _ _ hr1)⟩,⟨_,SqL.of hfl⟩,λ l hl=>?_⟩
  refine a5w (b1:=true) (b2:=true) (SqL.of (e2 _ _ hr1)) (SqL.of hfl) hl (by rw [aA,lr]; omega) (λ j y H3=>∃ a g,y=.ref a/\a≠l/\hs[j]?=some g/\H3 a=some (.lst ((S1 z g).map V.int)))
   (λ j y H3 H4 ⟨a,g,h1,h2,h3,h4⟩ e=>⟨a,g,h1,h2,h3,e a _ h2 h4⟩) (λ j x y H3 zs N' hx hy e hl2 hN=>?_) (λ zs H3 e hl2 len pr=>?_)
  ·obtain ⟨ra,hra,rfl⟩:∃ ra,rs[j]?=some ra/\x=.ref ra:=by
    rw [aD] at hx
    cases q1:rs[j]? with
    | none=>rw [q1] at hx; cases hx
    | some v=>rw [q1] at hx; cases hx; exact ⟨v,rfl,rfl⟩
   have hjl:j<hs.length:=by rw [<- lr]; exact (bQ.mp hra).1
   have hg:hs[j]?=some hs[j]:=aH hjl;have hrow:=hrs j ra _ hra hg;have hyv:y=.int (hs[j].2.sum - hs[j].1.sum):=by
    rw [aD,aD,hg] at hy;exact (aL hy).symm
   subst hyv;generalize hs[j]=g at *;have gg:=B.g g (bS hg);refine ⟨_,rfl,_,rfl,(by show 1<=sizeLine; decide),λ a1 h1=>?_⟩;have n1:ra≠a1:=d7 (e _ _ (e2 _ _ hrow)) h1;refine ⟨ra,a1,_,_,rfl,rfl,(by rw [c9 n1]; exact e _ _ (e2 _ _ hrow)),upd_same,?_,λ a2 h2=>?_⟩
   ·rw [aA]
    unfold A6;simp [gg.lt,gg.lg];omega
   have s2:=(Same.new h1 (.lst [V.int (g.2.sum - g.1.sum)])).trans (Same.new h2 (.lst ((A6 z g).map V.int++[V.int (g.2.sum - g.1.sum)])));refine hN _ _ s2 ⟨a2,g,rfl,λ zz=>?_,hg,?_⟩
   ·rw [zz,(Same.new h1 (.lst [V.int (g.2.sum - g.1.sum)])) _ _ hl2] at h2; cases h2
   ·rw [upd_same]
    unfold S1;rw [bC]; rfl
  ·have hzs:zs=(zs.map a4e).map V.ref:=by
    rw [aQ];refine cK λ j=>?_;rw [aD]
    cases qj:zs[j]? with
    | none=>rfl
    | some y =>
     obtain ⟨a,_,rfl,_⟩:=pr j y qj;rfl
   refine ⟨l,zs.map a4e,rfl,e,by rw [hl2]; rw [<- hzs],by rw [aA,len,aA,aA,aA,lr,Nat.min_self],λ j a g hj hg=>?_⟩;rw [aD] at hj
   cases qj:zs[j]? with
   | none=>rw [qj] at hj; cases hj
   | some y =>
    obtain ⟨a',g',rfl,_,h3,h4⟩:=pr j y qj;rw [qj] at hj;have:a'=a:=aL hj;subst this;rw [hg] at h3
    cases h3;exact h4
 rintro σ2 H3 ⟨ra,rs',rfl,e3,hra,lr',hrs'⟩;have hi':i<rs'.length:=by omega
 have hri:rs'[i]?=some rs'[i]:=aH hi';generalize rs'[i]=ri at hri;have hrow:=hrs' i ri h hri hh;refine ⟨λ σ' H4=>∃ fa:Addr,σ'=[some (.ref ba),some (.int i),some (.str z),some (.ref ra),some (.ref fl),some (.ref fa),none]/\Same H3 H4/\H4 fa=some (.lst (((S1 z h).map λ x=>-x).map V.int)),?_,?_⟩
 ·refine ⟨_,rfl,_,rfl,ra,_,_,.ref ri,rfl,rfl,SqL.of hra,D9 (by rw [aD,hri]; rfl),ri,rfl,⟨_,SqL.of hrow⟩,λ l hl=>?_⟩
  refine R6 (J5 (SqL.of hrow)) hl (by rw [aA,lrow h (bS hh)]; omega) (λ x=>.int (-(vI x))) (λ j x H' N2 hx2 e2 hN2=>?_) ?_
  ·obtain ⟨x',rfl,_⟩:=a0P hx2
   exact ⟨Wk.set (by decide),_,rfl,_,rfl,hN2⟩
  have eg:((S1 z h).map V.int).map (λ x=>V.int (-(vI x)))=((S1 z h).map λ x=>-x).map V.int:=by rw [aQ,aQ]; rfl
  rw [eg];exact ⟨l,rfl,Same.new hl _,upd_same⟩
 rintro σ3 H4 ⟨fa,rfl,e4,hfa⟩;have lfa:(((S1 z h).map λ x=>-x).map V.int).length=kt+kg+(M8 z).length+1:=by rw [aA,aA,lrow h (bS hh)]
 refine ⟨λ σ' H5=>∃ ga:Addr,σ'=[some (.ref ba),some (.int i),some (.str z),some (.ref ra),some (.ref fl),some (.ref fa),some (.ref ga)]/\Same H4 H5/\H5 ga=some (.lst ((J3 z h).map V.int)),?_,?_⟩
 ·refine ⟨(by show 1<=sizeLine; decide),λ a1 h1=>?_⟩
  have s1:=Same.new h1 (.lst [.int 0]);have ek:((kt+kg+(M8 z).length+1:Nat):Int) - 1=((h.1.length+h.2.length+(M8 z).length:Nat):Int):=by rw [gh.lt,gh.lg]; omega
  refine ⟨_,rfl,fa,_,rfl,.inl (SqL.of (s1 _ _ hfa)),_,_,rfl,rfl,a1,_,_,rfl,rfl,upd_same,by rw [lfa,ek]; omega,by rw [lfa,ek,gh.lt,gh.lg]; omega,by rw [lfa,ek,aY,gh.lt,gh.lg]; simp; omega,λ a2 h2=>?_⟩;rw [lfa,ek,aY,S8];have s2:=s1.trans (Same.new h2 (.lst ((aG (h.1.length+h.2.length+(M8 z).length) (0:Int)).map V.int)));refine ⟨(by show 1<=sizeLine; decide),λ a3 h3=>?_⟩;have s3:=s2.trans (Same.new h3 (.lst [.int 1]));have n23:a2≠a3:=d7 upd_same h3;refine ⟨a2,a3,_,_,rfl,rfl,(by rw [c9 n23]; exact upd_same),upd_same,?_,λ a4 h4=>?_⟩
  ·rw [aA,bP,gh.lt,gh.lg]; simp; omega
  refine ⟨a4,rfl,s3.trans (Same.new h4 _),?_⟩;rw [upd_same];unfold J3;rw [bC]; rfl
 rintro σ4 H5 ⟨ga,rfl,e5,hga⟩;have e35:=e4.trans e5;refine ⟨_,rfl,_,rfl,_,rfl,_,rfl,(by show 2<=sizeLine; decide),λ a1 h1=>?_⟩;have s1:=Same.new h1 (.lst [V.ref fa,V.ref ga]);have nr1:ra≠a1:=d7 (e35 _ _ hra) h1;refine ⟨ra,a1,_,_,rfl,rfl,(by rw [c9 nr1]; exact e35 _ _ hra),upd_same,?_,λ a2 h2=>?_⟩
 ·rw [aA,lr']; simp; omega
 have s2:=s1.trans (Same.new h2 (.lst (rs'.map V.ref++[V.ref fa,V.ref ga])));refine ⟨(by show 1<=sizeLine; decide),λ a3 h3=>?_⟩;have s3:=s2.trans (Same.new h3 (.lst [.int 0]));have e05:=e1.trans (e2.trans (e3.trans e35));refine ⟨_,rfl,ba,_,rfl,.inl ((e05.trans s3).seq B.l),a3,_,_,rfl,rfl,upd_same,by omega,by rw [xl]; omega,by rw [xl,aY]; simp; omega,λ a4 h4=>?_⟩;rw [xl,aY,S8];have s4:=s3.trans (Same.new h4 (.lst ((aG hs.length (0:Int)).map V.int)));refine ⟨(by show 2<=sizeLine; decide),λ a5 h5=>?_⟩;have s5:=s4.trans (Same.new h5 (.lst [.int 0,.int 1]));have n45:a4≠a5:=d7 upd_same h5;refine ⟨a4,a5,_,_,rfl,rfl,(by rw [c9 n45]; exact upd_same),upd_same,?_,λ a6 h6=>?_⟩
 ·rw [aA,bP]; simp; omega
 have s6:=s5.trans (Same.new h6 (.lst ((aG hs.length (0:Int)).map V.int++[.int 0,.int 1])));have eb:(aG hs.length (0:Int)).map V.int++[.int 0,.int 1]=(a0e hs).map V.int:=by unfold a0e; rw [bC]; rfl
 have hA:=e05.trans s6;have g2:=(((Same.new h3 (.lst [.int 0])).trans (Same.new h4 (.lst ((aG hs.length (0:Int)).map V.int)))).trans (Same.new h5 (.lst [.int 0,.int 1]))).trans (Same.new h6 (.lst ((aG hs.length (0:Int)).map V.int++[.int 0,.int 1])));refine ⟨ga,a2,a6,J3 z h,rs'.map V.ref++[V.ref fa,V.ref ga],J7 z hs h,a0e hs,mF hs,qF z h,2 ^ 60,rfl,SqL.of (s6 _ _ hga),SqL.of (g2 _ _ upd_same),?_,?_,?_,?_,?_,?_,by show hs.length+2<900; omega,by show h.1.length+h.2.length+(M8 z).length+1<900; rw [gh.lt,gh.lg]; omega,?_,b3o gh B.g hf k20 k21 _,b1n _ (by show hs.length+2<20; omega),L.same hA,
  λ S H' t' aa wa O hn sz e' L' q1 q2 q3=>k S H' t' aa wa ⟨O,hn,sz⟩ (λ b o hb q'=>e' b o hb (hA b o q')) L' q1 q2 q3,λ S H' c O hc hneg hno e' L'=>(O.bounded1 (l:=hs.length+1) (by show hs.length+1<hs.length+2; omega) (λ j _=>a5U j) hc hneg hno).elim⟩
 ·unfold J7
  refine Paired.app ((a9g (K:=K) lr' hrs').same (e35.trans s6)) (.cons ⟨fa,rfl,SqL.of (s6 _ _ (e5 _ _ hfa))⟩ (.cons ⟨ga,rfl,SqL.of (s6 _ _ hga)⟩ .nil))
 ·rw [<- eb]; exact SqL.of upd_same
 ·unfold J7; simp
 ·unfold a0e; simp
 ·unfold J3; simp
 ·intro r' hr'
  unfold J7 at hr';rcases aO.mp hr' with hr' | hr'
  ·obtain ⟨g,hg,rfl⟩:=bA.mp hr'
   rw [lrow g hg]
   show _=h.1.length+h.2.length+(M8 z).length+1
   rw [gh.lt,gh.lg]
  ·simp only [aJ,aZ,or_false] at hr'
   rcases hr' with rfl | rfl
   ·rw [aA,R7]
   ·unfold J3; simp
 ·intro j hj
  unfold G8 a0e;rw [aI]
  by_cases h':j<hs.length
  ·rw [bO (by simpa using h'),dL,if_pos h']; exact cD _
  ·rw [bZ (by simp; omega),bP]
   have hj':j<hs.length+2:=hj;have:j - hs.length=0\/j - hs.length=1:=by omega
   rcases this with q' | q' <;> rw [q'] <;> decide
end
structure b1m (z:Str) (hs:List j0) (h:j0) (pt pg:List Int) (ps:Int):Prop where
 lt:pt.length=h.1.length
 lg:pg.length=h.2.length
 tp:∀ x∈pt,0<x
 gp:∀ x∈pg,0<x
 sign:a2x z ps
 fair:∀ g∈hs,O1 g pg ps<=pay g pt
 firm:O1 h pg ps=pay h pt
def a2q (z:Str) (hs:List j0) (h:j0):Prop:=∃ pt pg ps,b1m z hs h pt pg ps
theorem a3R:∀ {l x y:List Int},x.length=y.length->w8 l (cF (·+·) x y)=w8 l x+w8 l y
 | [],x,y,_=>by simp [w8]
 | a::l,[],[],_=>by simp [w8]
 | a::l,b::x,c::y,h=>by
  have:=a3R (l:=l) (x:=x) (y:=y) (by simpa using h);unfold w8 at *;simp only [cJ,bU];rw [this,fN]; omega
 | a::l,[],c::y,h=>by simp at h
 | a::l,b::x,[],h=>by simp at h
theorem a4G:∀ {l:List Int} {k:Nat} {f:Int},l.length=k->w8 l (aG k f)=l.sum*f
 | [],k,f,_=>by simp [w8]
 | a::l,0,f,h=>by simp at h
 | a::l,k+1,f,h=>by
  have:=a4G (l:=l) (k:=k) (f:=f) (by simpa using h);unfold w8 at *;rw [cZ,cJ,bU,this,bU,cV]
abbrev upL (xs:List Int) (f:Int):List Int:=xs.map (·+f)
theorem a9w {l xs:List Int} {f:Int} (h:l.length=xs.length):w8 l (upL xs f)=w8 l xs+l.sum*f:=by
 have e:upL xs f=cF (·+·) xs (aG xs.length f):=by
  unfold upL;refine cK λ i=>?_
  by_cases hi:i<xs.length
  ·rw [aD,iQ,dL,if_pos hi,aH hi]; rfl
  ·rw [bK (by simp; omega),bK (by simp; omega)]
 rw [e,a3R (by simp),a4G h]
theorem a0N {z:Str} {g h:j0} (h1:g.1.length=h.1.length) (h2:g.2.length=h.2.length) {xs:List Int} {fl:Int} (hl:xs.length=h.1.length+h.2.length+(M8 z).length) :
  w8 (S1 z g) (xs++[fl])=O1 g (upL (pgA h xs) fl) (psA z h xs) - pay g (upL (ptA h xs) fl):=by
 unfold S1;rw [a0M (by unfold A6; simp [h1,h2,hl]; omega),a6P h1 h2];unfold O1 pay;have e1:w8 g.2 (upL (pgA h xs) fl)=w8 g.2 (pgA h xs)+g.2.sum*fl:=a9w (by rw [h2,cI,dE]; omega);have e2:w8 g.1 (upL (ptA h xs) fl)=w8 g.1 (ptA h xs)+g.1.sum*fl:=a9w (by rw [h1,cI]; omega);dsimp only [w8] at *;rw [e1,e2,jZ];omega
theorem a4U {m q:Nat} {S:Lp.Bo}:u0 m (q+1) S=(u0 m (q+1) S).take q++[Lp.valIn m S (q+1) q]:=by
 unfold u0;rw [fR,bC,gX (by simp)]; rfl
section
variable {z:Str} {hs:List j0} {h:j0} {S:Lp.Bo} {kt kg i:Nat}
theorem a1e (xs:List Int) (fl:Int) (hl:xs.length=h.1.length+h.2.length+(M8 z).length):w8 (J3 z h) (xs++[fl])=fl:=by
 unfold J3;rw [a0M (by simp [hl]),Z1,eO,gD]
theorem b1z (i:Nat) {g:j0} (hg:hs[i]?=some g):(J7 z hs h)[i]?=some (S1 z g):=by
 have hil:i<hs.length:=(bQ.mp hg).1;unfold J7;rw [bO (by rw [aA]; exact hil),aD,hg]; rfl
theorem b1p:(J7 z hs h)[hs.length]?=some ((S1 z h).map λ x=>-x):=by
 unfold J7;rw [bZ (by simp),aA,fQ]; rfl
theorem a1M (hi:i<=hs.length):(a0e hs).getD i 0=0:=by
 unfold a0e;rw [D7,bP]
 by_cases h1:i<hs.length
 ·rw [if_pos h1,S6]
 ·rw [if_neg h1,show i - hs.length=0 by omega]; rfl
theorem a4k (hz:Szw z) (B:a6G z hs h S) (hk:∀ g∈hs,g.1.length=kt/\g.2.length=kg) (hh:hs[i]?=some h) (hp:0<S.T (mF hs) (qF z h)) :
  b1m z hs h (upL (ptA h ((u0 (mF hs) (qF z h) S).take (qE z h))) (S.T (mF hs) (qF z h))) (upL (pgA h ((u0 (mF hs) (qF z h) S).take (qE z h))) (S.T (mF hs) (qF z h))) (psA z h ((u0 (mF hs) (qF z h) S).take (qE z h))):=by
 obtain ⟨O,hn,sz⟩:=B;have kh:=hk h (bS hh);have hsp:u0 (mF hs) (qF z h) S=(u0 (mF hs) (qF z h) S).take (qE z h)++[Lp.valIn (mF hs) S (qF z h) (qE z h)]:=a4U;have la:(u0 (mF hs) (qF z h) S).length=qE z h+1:=by unfold u0; simp
 have lx:((u0 (mF hs) (qF z h) S).take (qE z h)).length=h.1.length+h.2.length+(M8 z).length:=by rw [cI,la]; show min (h.1.length+h.2.length+(M8 z).length) (h.1.length+h.2.length+(M8 z).length+1)=_; omega
 have nn:=a6M O;have eT:Lp.valIn (mF hs) S (qF z h) (qE z h)=S.T (mF hs) (qF z h):=by
  have:=a4v O (by unfold J3; simp);rw [hsp,a1e _ _ lx] at this;exact this
 generalize hxs:(u0 (mF hs) (qF z h) S).take (qE z h)=xs at *;have xnn:∀ x∈xs,0<=x:=λ x hx=>nn x (by rw [hsp]; exact dN _ hx);have fair:∀ g∈hs,O1 g (upL (pgA h xs) (S.T (mF hs) (qF z h))) (psA z h xs)<=pay g (upL (ptA h xs) (S.T (mF hs) (qF z h))):=λ g hg=>by
  obtain ⟨k,hk'⟩:=iW hg;have hkl:=(bQ.mp hk').1;have kg':=hk g hg;have:=a3m O (i:=k) (by show k<hs.length+2; omega) (b1z k hk') (by rw [R7,kg'.1,kg'.2,kh.1.symm,kh.2.symm]);rw [hsp,a0N (h:=h) (by rw [kg'.1,kh.1]) (by rw [kg'.2,kh.2]) lx,a1M (by omega),dZ,eT] at this;omega
 refine ⟨by simp [lx]; omega,by simp [lx]; omega,λ x hx=>?_,λ x hx=>?_,a6X hz λ x hx=>xnn x (eJ hx),fair,?_⟩
 ·obtain ⟨y,hy,rfl⟩:=bA.mp hx
  have:=xnn y (fU hy); omega
 ·obtain ⟨y,hy,rfl⟩:=bA.mp hx
  have:=xnn y (eJ (fU hy)); omega
 ·have f1:=fair h (bS hh)
  have:=a3m O (i:=hs.length) (by show hs.length<hs.length+2; omega) b1p (by rw [aA,R7]);rw [hsp,a0B,a0N (h:=h) rfl rfl lx,a1M (aF _),dZ,eT] at this;omega
theorem a4I (hz:Szw z) (B:a6G z hs h S) (hk:∀ g∈hs,g.1.length=kt/\g.2.length=kg) (hh:hs[i]?=some h) (R:a2q z hs h):0<S.T (mF hs) (qF z h):=by
 obtain ⟨O,hn,sz⟩:=B;obtain ⟨pt,pg,ps,R⟩:=R;have kh:=hk h (bS hh);obtain ⟨sx,sl,snn,sv⟩:∃ sx:List Int,sx.length=(M8 z).length/\(∀ x∈sx,0<=x)/\w8 sx (M8 z)=ps:=by
  have sg:=R.sign;rcases hz with rfl | rfl | rfl | rfl
  ·have h1:=sg.1 (.inl rfl)
   have h2:=sg.2 (.inl rfl);exact ⟨[],rfl,nofun,by show (0:Int)=ps; omega⟩
  ·by_cases h0:0<=ps
   ·refine ⟨[ps,0],rfl,λ x hx=>?_,?_⟩
    ·simp only [aJ,aZ,or_false] at hx
     rcases hx with rfl | rfl
     ·exact h0
     ·exact cD _
    ·show ps*1+(0 * -1+0)=ps; omega
   ·refine ⟨[0,-ps],rfl,λ x hx=>?_,?_⟩
    ·simp only [aJ,aZ,or_false] at hx
     rcases hx with rfl | rfl
     ·exact cD _
     ·omega
    ·show 0*1+(-ps * -1+0)=ps; omega
  ·have h1:=sg.1 (.inr rfl)
   exact ⟨[-ps],rfl,λ x hx=>by rw [bF.mp hx]; omega,by show -ps * -1+0=ps; omega⟩
  ·have h1:=sg.2 (.inr rfl)
   exact ⟨[ps],rfl,λ x hx=>by rw [bF.mp hx]; exact h1,by show ps*1+0=ps; omega⟩
 have hxl:(pt.map (· - 1)++pg.map (· - 1)++sx).length=h.1.length+h.2.length+(M8 z).length:=by simp [R.lt,R.lg,sl]; omega
 have e1:upL (ptA h (pt.map (· - 1)++pg.map (· - 1)++sx)) 1=pt:=by
  unfold ptA upL;rw [dM,gX (by simp [R.lt]),aQ];refine (cW λ x _=>?_).trans (kQ _)
  show x - 1+1=x; omega
 have e2:upL (pgA h (pt.map (· - 1)++pg.map (· - 1)++sx)) 1=pg:=by
  unfold pgA upL;rw [dM,kS (by simp [R.lt]),gX (by simp [R.lg]),aQ];refine (cW λ x _=>?_).trans (kQ _)
  show x - 1+1=x; omega
 have e3:psA z h (pt.map (· - 1)++pg.map (· - 1)++sx)=ps:=by
  unfold psA;rw [kS (by simp [R.lt,R.lg])]; exact sv
 generalize hx0:pt.map (· - 1)++pg.map (· - 1)++sx=xs at *;have xnn:∀ x∈xs++[1],0<=x:=λ x hx=>by
  rcases aO.mp hx with hx | hx
  ·rw [<- hx0] at hx
   rcases aO.mp hx with hx | hx
   ·rcases aO.mp hx with hx | hx
    ·obtain ⟨y,hy,rfl⟩:=bA.mp hx
     have:=R.tp y hy; omega
    ·obtain ⟨y,hy,rfl⟩:=bA.mp hx
     have:=R.gp y hy; omega
   ·exact snn x hx
  ·rw [bF.mp hx]; decide
 have lq:(xs++[1]).length=qF z h:=by rw [aM,hxl]; rfl
 have toD:∀ {row:List Int} {i:Nat},(J7 z hs h)[i]?=some row->row.length=qF z h->Lp.sumTo (λ j=>V4 (J7 z hs h) i j*(xs++[1]).getD j 0) (qF z h)=w8 row (xs++[1]):=λ {row i} hr hl=>by
  rw [<- J6 (qF z h) row (xs++[1]) hl lq];exact Lp.sum_congr λ j _=>by rw [Z3 hr]
 have key:=O.weak hn (y:=λ j=>(xs++[1]).getD j 0) (e:=1) (λ j hj=>?_) λ k hk'=>?_
 ·have eg:Lp.sumTo (λ j=>G8 (J3 z h) j*(xs++[1]).getD j 0) (qF z h)=1:=by
   have:=J6 (qF z h) (J3 z h) (xs++[1]) (by unfold J3; simp) lq;rw [a1e _ _ hxl] at this;exact this
  rw [eg] at key;have:=O.w.pos;omega
 ·rw [aI,aH (by rw [lq]; exact hj)]
  exact xnn _ (cU _)
 ·have hk2:k<hs.length+2:=hk'
  show _<=G8 (a0e hs) k*1
  rw [eR]
  by_cases c1:k<hs.length
  ·have hg:hs[k]?=some hs[k]:=aH c1
   have kg':=hk hs[k] (cU c1);rw [toD (b1z k hg) (by rw [R7,kg'.1,kg'.2,kh.1.symm,kh.2.symm]),a0N (h:=h) (by rw [kg'.1,kh.1]) (by rw [kg'.2,kh.2]) hxl,e1,e2,e3]
   show _<=(a0e hs).getD k 0
   rw [a1M (by omega)];have:=R.fair hs[k] (cU c1);omega
  ·by_cases c2:k=hs.length
   ·subst c2
    rw [toD b1p (by rw [aA,R7]),a0B,a0N (h:=h) rfl rfl hxl,e1,e2,e3]
    show _<=(a0e hs).getD hs.length 0
    rw [a1M (aF _)];have:=R.firm;omega
   ·have c3:k=hs.length+1:=by omega
    subst c3;have hr:(J7 z hs h)[hs.length+1]?=some (J3 z h):=by
     unfold J7;rw [bZ (by simp),aA,eI]; rfl
    rw [toD hr (by unfold J3; simp),a1e _ _ hxl]
    show (1:Int)<=(a0e hs).getD (hs.length+1) 0
    unfold a0e;rw [D7,bP,if_neg (by omega),eI]; decide
theorem b0B (hz:Szw z) (B:a6G z hs h S) (hk:∀ g∈hs,g.1.length=kt/\g.2.length=kg) (hh:hs[i]?=some h):0<S.T (mF hs) (qF z h) ↔ a2q z hs h :=
 ⟨λ hp=>⟨_,_,_,a4k hz B hk hh hp⟩,a4I hz B hk hh⟩
end
end Rim
namespace L2
open PySem
section
variable {fr:List Nat} {tc:TT} {σ:St} {H1:Hp} {p:Addr} {D:Hp->Prop} {P:Addr} {pos:Pos} {qual:Str} {n:Nat}
theorem a9z (T:LamTab P pos qual H1) (hp:H1 p=none) (hz:n<sizeLine) (F:Nat->Bool)
  (step:∀ (i:Nat) H ys (N:Bool->Hp->Prop),i<n->Same1 P H1 H->LamTab P pos qual H->H p=some (.lst ys)->(∀ H3,Same1 P H H3->LamTab P pos qual H3->N (F i) H3)->tc ((blkσ 1 fr σ).set 0 (some (.int (i:Int)))) H N)
  (hd:∀ H,Same1 P H1 H->LamTab P pos qual H->H p=some (.lst (((aE n).filter F).map λ (i:Nat)=>V.int (i:Int)))->D H):lcI 1 fr (J8 0) tc (a4t 0) σ (Itr 0 n) H1 p D:=by
 refine ⟨λ i m ys H=>m=n - i/\i<=n/\ys=((aE i).filter F).map (λ (i:Nat)=>V.int (i:Int))/\Same1 P H1 H/\LamTab P pos qual H/\H p=some (.lst ys),⟨n,by simp,bR _,rfl,(Same.new hp _).to1,T.same (Same.new hp _),upd_same⟩,?_⟩;rintro i m ys H ⟨rfl,hi,rfl,e,L,hH⟩
 by_cases hlt:i<n
 ·refine .inr ⟨hlt,λ x H' y=>?_⟩
  obtain ⟨rfl,rfl⟩:=y;rw [eO];have tk:(aE (i+1)).filter F=(aE i).filter F++[i].filter F:=by rw [fR,gQ]
  refine ⟨Wk.set (by decide),step i _ _ _ hlt e L hH λ H3 e3 L3=>?_⟩;have h3:=e3.get L hH nofun
  cases hq:F i with
  | false =>
   rw [if_neg bW];refine ⟨n - (i+1),by omega,rfl,hlt,?_,e.trans e3,L3,h3⟩;rw [tk]; simp [hq]
  | true =>
   rw [if_pos rfl];refine ⟨.int (i:Int),?_,h3,?_,n - (i+1),by omega,rfl,hlt,?_,(e.trans e3).write hp,L3.write h3,upd_same⟩
   ·show ((blkσ 1 fr σ).set 0 (some (.int (i:Int))))[0]?=some (some (.int (i:Int)))
    rw [bV (by simp [blkσ])]
   ·have h1:=gB F (aE i)
    rw [eD] at h1;rw [aA];omega
   ·rw [tk]; simp [hq]
 ·have:i=n:=by omega
  subst this;exact .inl ⟨Nat.le_refl _,hd H e L hH⟩
end
end L2
namespace Rim
open PySem L2 Fr
open Classical in
noncomputable def a2H (z:Str) (hs:List j0):List Nat:=(aE hs.length).filter λ i=>decide (a2q z hs (hs.getD i ([],[])))
section
variable {P:Program} {w:World} {K:W.Frag} {mg:Str->Option Value} {base:Heap} {f Pt d:Addr} {fd:FuncData} {n:Nat} {C:Addr}
def a1E (K:W.Frag) (Pt:Addr):Sp:=λ vs H Q _=>∃ (ba:Addr) (xs:List V) (hs:List j0) (z:Str) (far:Int) (kt kg:Nat),vs=[.ref ba,.str z]/\Szw z/\Q6 K H ba xs hs far kt kg/\far<=2 ^ 50/\LT Pt H ∧
 ∀ (H':Hp) (r:Addr),Same1 Pt H H'->LT Pt H'->H r=none->H' r=some (.lst ((a2H z hs).map λ (i:Nat)=>V.int (i:Int)))->Q (.ref r) H'
theorem b4L:m9 ["book","sizes"] ["book","sizes"] (i8 a5c):=⟨rfl,rfl,rfl,by decide +kernel,rfl,by decide +kernel,by decide +kernel⟩
theorem b4U:(["number","book","sizes"]:List Str).Nodup:=by decide +kernel
theorem a8J {f1:Addr} {d1:FuncData} (F:Fun K "rim_of" "rim_of" a5c f fd) (N:x5 mg) (Cf:a0f P w K mg base n "greatest_floor" ["houses","number","sizes"] (a6s K Pt) f1 d1):FnOk P w K mg base E4 (n+1) f fd ["book","sizes"] (a1E K Pt):=by
 refine F.ok b4L (λ vs H Q E h=>?_) (λ cdv A outer s H vs Q E hr h=>?_)
 ·obtain ⟨ba,xs,hs,z,far,kt,kg,rfl,_⟩:=h
  rfl
 obtain ⟨ba,xs,hs,z,far,kt,kg,rfl,hz,B,hf,L,k⟩:=h;refine ⟨_,j3 (r9 (a5B ["number"] [0,1] rfl (A3 rfl N.range (a0 (j6 j7 rfl N.len bB (a0 (pv 0) e9)) e9)) (λ _ _ _ _=>j8 (i:=0) b4U rfl (aC rfl))
  (λ _ _ _ _=>t9 a0D (j9 (a5C K rfl) (o6 Cf.ok hr rfl Cf.m Cf.k Cf.b .nil w6 (a0 (pv 1) (a0 (pv 0) (a0 (pv 2) e9)))) h8 (λ _ _=>rfl)) h8 (p6 _)) (λ _ _ _ _=>pv 0))),?_⟩
 have xl:xs.length=hs.length:=Paired.length B.b;have few:=B.few;have s1k:=m8 (show (1000:Nat)<=1000 from aF _);have hk:∀ g∈hs,g.1.length=kt/\g.2.length=kg:=λ g hg=>⟨(B.g g hg).lt,(B.g g hg).lg⟩;refine ⟨_,rfl,ba,_,rfl,.inl B.l,_,rfl,by omega,by omega,?_⟩;rw [xl,aY];intro p hp;refine a9z (n:=hs.length) L hp (by omega) _ (λ i H2 ys N' hi e L2' hp2 hN=>?_) (λ H2 e L2' hp2=>k H2 p e L2' hp hp2);have hh:hs[i]?=some hs[i]:=aH hi;refine ⟨_,rfl,_,rfl,_,rfl,ba,xs,hs,i,hs[i],z,far,kt,kg,rfl,hz,⟨SqL.same1 L e B.l,Bk.same1 L e B.b,B.g,B.far,B.few,B.t,B.k⟩,hf,hh,L2',λ S H3 t aa wa BF e3 L3 ht _ _=>?_⟩;refine ⟨t,_,0,_,rfl,rfl,SqT.of ht,D9 (j:=0) rfl,_,_,rfl,rfl,_,rfl,?_⟩;have hd:hs.getD i ([],[])=hs[i]:=by rw [aI,hh]; rfl
 have eb:decide (S.T (mF hs) (qF z hs[i])>0)=(λ i=>@decide (a2q z hs (hs.getD i ([],[]))) (iY _)) i:=by
  have:=b0B hz BF hk hh
  show _=@decide (a2q z hs (hs.getD i ([],[]))) (iY _)
  rw [hd]
  by_cases c:0<S.T (mF hs) (qF z hs[i])
  ·have c2:=this.mp c
   rw [decide_eq_true (show S.T (mF hs) (qF z hs[i])>0 from c)];simp [c2]
  ·have c2:¬ a2q z hs hs[i]:=λ q=>c (this.mpr q)
   rw [decide_eq_false (show ¬ S.T (mF hs) (qF z hs[i])>0 from c)];simp [c2]
 rw [eb];exact hN H3 e3 L3
end
end Rim
namespace Rim
open PySem L2 Fr
structure Mx (z:Str) (hs:List j0) (ws:List Int) (D:Int):Prop where
 lw:ws.length=hs.length
 nn:∀ x∈ws,0<=x
 d:0<D
 size:a3X z ws.sum D
structure Px (z:Str) (hs:List j0) (kt kg:Nat) (pt pg:List Int) (ps:Int):Prop where
 lt:pt.length=kt
 lg:pg.length=kg
 tn:∀ x∈pt,0<=x
 gn:∀ x∈pg,0<=x
 sign:a2x z ps
 fair:∀ g∈hs,O1 g pg ps<=pay g pt
theorem E5 (a b:Int) (l x:List Int):w8 (a::l) (b::x)=a*b+w8 l x:=rfl
theorem a2h {f:j0->List Int} {k:Nat}:∀ {hs:List j0} {ws p:List Int},ws.length=hs.length->(∀ g∈hs,(f g).length=k)->p.length=k →
  w8 (hs.map λ g=>w8 (f g) p) ws=w8 ((aE k).map λ j=>w8 (hs.map λ g=>(f g).getD j 0) ws) p
 | [],ws,p,_,_,hp=>by
  have e:∀ (l:List Nat) (p:List Int),w8 (l.map λ _=>(0:Int)) p=0:=λ l=>by
   induction l with
   | nil=>intro p; simp [w8]
   | cons a r ih =>
    intro p
    cases p with
    | nil=>simp [w8]
    | cons b p=>rw [aV,E5,ih p]; omega
  show (0:Int)=_
  rw [show ((aE k).map λ j=>w8 (([]:List j0).map λ g=>(f g).getD j 0) ws)=(aE k).map λ _=>(0:Int) from cW λ j _=>by simp [w8],e]
 | g::hs,[],p,h,_,_=>by simp at h
 | g::hs,w::ws,p,h,hk,hp=>by
  have ih:=a2h (f:=f) (k:=k) (hs:=hs) (ws:=ws) (p:=p) (by simpa using h) (λ x hx=>hk x (.tail _ hx)) hp;rw [aV,E5,ih];have e1:((aE k).map λ j=>w8 ((g::hs).map λ g=>(f g).getD j 0) (w::ws))=cF (·+·) ((f g).map λ x=>x*w) ((aE k).map λ j=>w8 (hs.map λ g=>(f g).getD j 0) ws):=by
   have lg:=hk g (.head _);refine cK λ j=>?_
   by_cases hj:j<k
   ·rw [aD,bG hj,iQ,aD,aD,bG hj,aH (by rw [lg]; exact hj)]
    simp only [fD];rw [aV,E5,aI,aH (by rw [lg]; exact hj)]; rfl
   ·rw [bK (by simp; omega),bK (by simp; omega)]
  rw [e1,S9 (cF _ _ _) p,a3R (by simp [hk g (.head _)]),S9 p,S9 p]
  congr 1
  have:∀ (l p:List Int),w8 (l.map λ x=>x*w) p=w8 l p*w:=λ l=>by
   induction l with
   | nil=>intro p; simp [w8]
   | cons a r ih =>
    intro p
    cases p with
    | nil=>simp [w8]
    | cons b p =>
     rw [aV,E5,E5,ih p,cV]
     congr 1
     ac_rfl
  rw [this]
theorem a0J:∀ {l m p:List Int},l.length=m.length->(∀ x∈p,0<=x)->(∀ j,j<l.length->l.getD j 0<=m.getD j 0)->w8 l p<=w8 m p
 | [],[],p,_,_,_=>cD _
 | a::l,b::m,[],_,_,_=>cD _
 | a::l,b::m,c::p,h,hp,hj=>by
  have ih:=a0J (l:=l) (m:=m) (p:=p) (by simpa using h) (λ x hx=>hp x (.tail _ hx)) λ j hl=>by
   have:=hj (j+1) (by simpa using hl)
   simpa using this
  have h0:a<=b:=by simpa using hj 0 (by simp)
  rw [E5,E5];have:=dQ h0 (hp c (.head _));omega
 | [],_::_,_,h,_,_=>by simp at h
 | _::_,[],_,h,_,_=>by simp at h
theorem Z9 (s:Int):∀ (l p:List Int),w8 (l.map λ x=>x*s) p=w8 l p*s
 | [],p=>by simp [w8]
 | a::l,[]=>by simp [w8]
 | a::l,b::p=>by
  rw [aV,E5,E5,Z9 s l p,cV]
  congr 1
  ac_rfl
section
variable {z:Str} {hs:List j0} {h:j0} {kt kg:Nat} {ws pt pg:List Int} {D ps:Int}
theorem a6z (j i:Nat):N4 hs ws j i=w8 (hs.map λ g=>(X9 j g).getD i 0) ws:=by
 unfold N4 col;rw [aQ]; rfl
theorem a9a (hz:Szw z) (M:Mx z hs ws D) (P:Px z hs kt kg pt pg ps) (hk:∀ g∈hs,g.1.length=kt/\g.2.length=kg) :
  w8 ((aE kg).map λ j=>N4 hs ws 1 j) pg+ps*D<=w8 ((aE kt).map λ j=>N4 hs ws 0 j) pt:=by
 have e0:w8 (hs.map λ g=>pay g pt) ws=w8 ((aE kt).map λ j=>N4 hs ws 0 j) pt:=by
  have:=a2h (f:=λ g=>g.1) (hs:=hs) (ws:=ws) (p:=pt) M.lw (λ g hg=>(hk g hg).1) P.lt;rw [show (λ j=>N4 hs ws 0 j)=λ j=>w8 (hs.map λ g=>g.1.getD j 0) ws from funext λ j=>a6z 0 j];exact this
 have e1:w8 (hs.map λ g=>w8 g.2 pg) ws=w8 ((aE kg).map λ j=>N4 hs ws 1 j) pg:=by
  have:=a2h (f:=λ g=>g.2) (hs:=hs) (ws:=ws) (p:=pg) M.lw (λ g hg=>(hk g hg).2) P.lg;rw [show (λ j=>N4 hs ws 1 j)=λ j=>w8 (hs.map λ g=>g.2.getD j 0) ws from funext λ j=>a6z 1 j];exact this
 have e2:w8 (hs.map λ g=>O1 g pg ps) ws=w8 (hs.map λ g=>w8 g.2 pg) ws+ps*ws.sum:=by
  have:∀ (hs:List j0) (ws:List Int),hs.length=ws.length->w8 (hs.map λ g=>O1 g pg ps) ws=w8 (hs.map λ g=>w8 g.2 pg) ws+ps*ws.sum:=λ hs=>by
   induction hs with
   | nil =>
    intro ws hl;rw [gW hl.symm]; simp [w8]
   | cons g r ih =>
    intro ws hl
    cases ws with
    | nil=>simp at hl
    | cons w ws =>
     have:=ih ws (by simpa using hl);rw [aV,aV,E5,E5,this,bU];have e:O1 g pg ps=w8 g.2 pg+ps:=rfl;rw [e,cV,fN];omega
  exact this hs ws M.lw.symm
 have le:w8 (hs.map λ g=>O1 g pg ps) ws<=w8 (hs.map λ g=>pay g pt) ws:=by
  refine a0J (by simp) M.nn λ j hj=>?_;have hj':j<hs.length:=by simpa using hj
  rw [aI,aI,aD,aD,aH hj'];exact P.fair _ (cU hj')
 have sz:ps*D<=ps*ws.sum:=by
  obtain ⟨s1,s2⟩:=M.size;obtain ⟨g1,g2⟩:=P.sign;rcases hz with c | c | c | c
  ·have:=g1 (.inl c); have:=g2 (.inl c)
   have:ps=0:=by omega
   rw [this]; simp
  ·have a1:=s1 (.inl c)
   have a2:=s2 (.inl c);have:ws.sum=D:=by omega
   rw [this]; exact cD _
  ·have a1:=g1 (.inr c)
   have a2:=s1 (.inr c);have:=fP a2 (show 0 <= -ps by omega);rw [eN,eN] at this;omega
  ·have a1:=g2 (.inr c)
   have a2:=s2 (.inr c);exact fP a2 a1
 rw [e0,e2,e1] at le;omega
structure Shr (z:Str) (hs:List j0) (h:j0) (kt kg:Nat) (A B:Int) (ws:List Int) (D:Int):Prop where
 m:Mx z hs ws D
 t:∀ j,j<kt->N4 hs ws 0 j*B<=h.1.getD j 0*A*D
 g:∀ j,j<kg->h.2.getD j 0*D<=N4 hs ws 1 j
structure Gro (z:Str) (hs:List j0) (h:j0) (kt kg:Nat) (A B:Int) (ws:List Int) (D:Int):Prop where
 m:Mx z hs ws D
 t:∀ j,j<kt->N4 hs ws 0 j<=h.1.getD j 0*D
 g:∀ j,j<kg->h.2.getD j 0*A*D<=N4 hs ws 1 j*B
theorem a4K {k:Nat} {F:Nat->Int} {j:Nat} (h:j<k):((aE k).map F).getD j 0=F j:=a0Q h
theorem Shr.weak {A B:Int} (hz:Szw z) (S:Shr z hs h kt kg A B ws D) (P:Px z hs kt kg pt pg ps) (hk:∀ g∈hs,g.1.length=kt/\g.2.length=kg) (h1:h.1.length=kt) (h2:h.2.length=kg) (hB:0<B):O1 h pg ps*B<=A*pay h pt:=by
 have L:=a9a hz S.m P hk;have dp:=S.m.d;have a1:w8 h.2 pg*D<=w8 ((aE kg).map λ j=>N4 hs ws 1 j) pg:=by
  rw [<- Z9];refine a0J (by simp [h2]) P.gn λ j hj=>?_;have hj':j<kg:=by simpa [h2] using hj
  rw [a4K hj',aI,aD,aH (by omega)];have:=S.g j hj';rw [aI,aH (by omega)] at this;exact this
 have a2:w8 ((aE kt).map λ j=>N4 hs ws 0 j) pt*B<=w8 h.1 pt*(A*D):=by
  rw [<- Z9,<- Z9];refine a0J (by simp [h1]) P.tn λ j hj=>?_;have hj':j<kt:=by simpa using hj
  rw [aI,aD,aD,bG hj',aI,aD,aH (by omega)];have:=S.t j hj';rw [aI,aH (by omega)] at this
  show N4 hs ws 0 j*B<=h.1[j]*(A*D)
  rw [<- aX]; exact this
 refine iO (a:=D) ?_ dp;have e1:O1 h pg ps=w8 h.2 pg+ps:=rfl;have e2:pay h pt=w8 h.1 pt:=rfl;rw [e1,e2];have b1:=dQ L (bH hB);have b2:=dQ a1 (bH hB);have x1:(w8 h.2 pg+ps)*B*D=w8 h.2 pg*D*B+ps*D*B:=by rw [cV,cV]; congr 1 <;> ac_rfl
 have x2:A*w8 h.1 pt*D=w8 h.1 pt*(A*D):=by ac_rfl
 rw [cV] at b1;rw [x1,x2];omega
def IsShare (z:Str) (hs:List j0) (h:j0) (kt kg:Nat) (A B:Int):Prop:=0<B/\(∃ ws D,Shr z hs h kt kg A B ws D)/\∃ pt pg ps,Px z hs kt kg pt pg ps/\0<pay h pt/\O1 h pg ps*B=A*pay h pt
theorem IsShare.le {A B A' B':Int} (hz:Szw z) (I:IsShare z hs h kt kg A B) (hk:∀ g∈hs,g.1.length=kt/\g.2.length=kg) (h1:h.1.length=kt) (h2:h.2.length=kg) (hB:0<B') {ws:List Int} {D:Int} (S:Shr z hs h kt kg A' B' ws D):A*B'<=A'*B:=by
 obtain ⟨b,_,pt,pg,ps,P,pp,e⟩:=I;have w:=S.weak hz P hk h1 h2 hB;refine iO (a:=pay h pt) ?_ pp;have x:=dQ w (bH b);have y1:O1 h pg ps*B'*B=O1 h pg ps*B*B':=by ac_rfl
 rw [y1,e] at x;have y2:A*pay h pt*B'=A*B'*pay h pt:=by ac_rfl
 have y3:A'*pay h pt*B=A'*B*pay h pt:=by ac_rfl
 omega
theorem IsShare.eq {A B A' B':Int} (hz:Szw z) (I:IsShare z hs h kt kg A B) (J:IsShare z hs h kt kg A' B') (hk:∀ g∈hs,g.1.length=kt/\g.2.length=kg) (h1:h.1.length=kt) (h2:h.2.length=kg):A*B'=A'*B:=by
 obtain ⟨_,⟨ws,D,S⟩,_⟩:=id J;obtain ⟨_,⟨ws',D',S'⟩,_⟩:=id I;have a:=I.le hz hk h1 h2 J.1 S;have b:=J.le hz hk h1 h2 I.1 S';omega
theorem Best.is {S:Lp.Bo} {far:Int} (hz:Szw z) (B:Best z hs h S) (hG:∀ g∈hs,HG far kt kg g) (gh:HG far kt kg h) (kt1:1<=kt) (kt4:kt<=20) (kg4:kg<=20):IsShare z hs h kt kg (S.T (mE hs) (qE z h)) S.d:=by
 have T:=a6R hz B hG gh kt1 kt4 kg4;have dp:=B.1.w.pos;refine ⟨dp,⟨_,_,⟨T.lw,λ x hx=>(T.nn x hx).1,dp,T.size⟩,λ j hj=>?_,T.gives⟩,_,_,_,⟨T.pr.lt,T.pr.lg,λ x hx=>(T.pr.bt x hx).1,λ x hx=>(T.pr.bg x hx).1,T.sign,T.fair⟩,by rw [T.pays]; exact dp,by rw [T.pays,T.earns]⟩;exact dQ (T.takes j hj) (bH dp)
end
section
variable {z:Str} {hs:List j0} {h:j0} {kt kg i:Nat}
end
section
variable {z:Str} {hs hs':List j0} {h:j0} {kt kg:Nat} {far:Int}
end
theorem a2b {X:Cx} {l:List Stmt}:PSs X l λ _ _ _=>False:=λ _ _ _ _ _ _ h=>h.elim
structure ShU (z:Str) (hs:List j0) (h:j0) (kt kg:Nat) (A B:Int):Prop where
 s:IsShare z hs h kt kg A B
 a:Big 20000 A
 p:0<A
 b:0<B
 c:B<2 ^ 8000
theorem Best.u {z:Str} {hs:List j0} {h:j0} {kt kg:Nat} {S:Lp.Bo} {far:Int} (hz:Szw z) (B:Best z hs h S) (hG:∀ g∈hs,HG far kt kg g) (gh:HG far kt kg h) (kt1:1<=kt) (kt4:kt<=20) (kg4:kg<=20):ShU z hs h kt kg (S.T (mE hs) (qE z h)) S.d:=by
 have T:=a6R hz B hG gh kt1 kt4 kg4;obtain ⟨b1,b2⟩:=a6K B;exact ⟨B.is hz hG gh kt1 kt4 kg4,(B.2.2.1 _ _ (by omega) (by omega)).mono (by decide),T.pos,b1,b2⟩
theorem ShU.fr {z:Str} {hs:List j0} {h:j0} {kt kg:Nat} {A B A' B':Int} {far:Int} (hz:Szw z) (x:ShU z hs h kt kg A B) (y:IsShare z hs h kt kg A' B') (hG:∀ g∈hs,HG far kt kg g) (gh:HG far kt kg h):Fr.low A B=Fr.low A' B' :=
 b1M x.b y.1 (x.s.eq hz y (λ g hg=>⟨(hG g hg).lt,(hG g hg).lg⟩) gh.lt gh.lg)
def y4 {α:Type} (l:List α) (i:Nat):List α:=l.take i++l.drop (i+1)
theorem a1X {α:Type} {l:List α} {i:Nat} {g:α} (h:g∈y4 l i):g∈l:=by
 rcases aO.mp h with h | h
 ·exact fU h
 ·exact eJ h
theorem V6 {α:Type} {l:List α} {i:Nat}:(y4 l i).length<=l.length:=by unfold y4; simp; omega
theorem Paired.take {α β:Type} {F:α->β->Prop}:∀ {l₁:List α} {l₂:List β} (i:Nat),aN F l₁ l₂->aN F (l₁.take i) (l₂.take i)
 | _,_,0,_=>.nil
 | _,_,_+1,.nil=>.nil
 | _,_,i+1,.cons r t=>.cons r (Paired.take i t)
theorem Paired.drop {α β:Type} {F:α->β->Prop}:∀ {l₁:List α} {l₂:List β} (i:Nat),aN F l₁ l₂->aN F (l₁.drop i) (l₂.drop i)
 | _,_,0,h=>h
 | _,_,_+1,.nil=>.nil
 | _,_,i+1,.cons _ t=>Paired.drop i t
theorem Paired.app {α β:Type} {F:α->β->Prop}:∀ {l₁ m₁:List α} {l₂ m₂:List β},aN F l₁ l₂->aN F m₁ m₂->aN F (l₁++m₁) (l₂++m₂)
 | _,_,_,_,.nil,h=>h
 | _,_,_,_,.cons r t,h=>.cons r (Paired.app t h)
theorem Bk.out {K:W.Frag} {H:Hp} {xs:List V} {hs:List j0} (i:Nat) (B:Bk K H xs hs):Bk K H (y4 xs i) (y4 hs i):=Paired.app (Paired.take i B) (Paired.drop (i+1) B)
section
variable {P:Program} {w:World} {K:W.Frag} {mg:Str->Option Value} {base:Heap} {f Pt d CN CB:Addr} {fd:FuncData} {n:Nat} {C:Addr}
def a9q (K:W.Frag) (CN Pt:Addr):Sp:=λ vs H Q E=>∃ (ba:Addr) (xs:List V) (hs:List j0) (number:Int) (z:Str) (far:Int) (kt kg:Nat),vs=[.ref ba,.int number,.str z]/\Szw z/\Q6 K H ba xs hs far kt kg/\1<=kt/\number.natAbs.log2<1920/\LT Pt H ∧
 (∀ (i:Nat) (h:j0) (A B:Int) (H':Hp) (u:V),number=(i:Int)->hs[i]?=some h->ShU z hs h kt kg A B->Same1 Pt H H'->LT Pt H'->FrT H' u (low A B)->Q u H')/\(¬ a4C xs.length number->E (.ref CN) none H)
theorem S7 (F:FnOk P w K mg base (CX1 P w) n f fd ["book","number","sizes"] (P6 K CN Pt)):FnOk P w K mg base (CX1 P w) n f fd ["book","number","sizes"] (a9q K CN Pt):=F.imp λ vs H Q E h=>by
 obtain ⟨ba,xs,hs,number,z,far,kt,kg,rfl,hz,B,kt1,lm,L,kG,kE⟩:=h;exact ⟨ba,xs,hs,number,z,far,kt,kg,rfl,hz,B,lm,L,λ i h S H' u hi hh Bs e L' hu=>kG i h _ _ H' u hi hh (Bs.u hz B.g (B.g h (bS hh)) kt1 B.t B.k) e L' hu,kE⟩
def a2J (K:W.Frag) (CN:Addr):Sp:=λ vs H Q E=>∃ (a:Addr) (xs:List V) (m:Int),vs=[.ref a,.int m]/\SqL K H a xs/\xs.length<=1000/\m.natAbs.log2<1920 ∧
 (∀ (i:Nat) (l:Addr) (H':Hp),m=(i:Int)->i<xs.length->Same H H'->H l=none->H' l=some (.lst (y4 xs i))->Q (.ref l) H')/\(¬ a4C xs.length m->E (.ref CN) none H)
theorem b5f:m9 ["houses","number"] ["houses","number"] (i8 a2v):=⟨rfl,rfl,rfl,by decide +kernel,rfl,by decide +kernel,by decide +kernel⟩
theorem a5o {f1:Addr} {d1:FuncData} (F:Fun K "without" "without" a2v f fd) (Ch:a1Y P w K mg base n "house_of" ["book","number"] (a8N K CN) f1 d1):FnOk P w K mg base (CX1 P w) (n+1) f fd ["houses","number"] (a2J K CN):=by
 refine F.ok1 b5f (λ vs H Q E h=>?_) (λ cdv A outer s H vs Q E hr h=>?_)
 ·obtain ⟨a,xs,m,rfl,_⟩:=h
  rfl
 obtain ⟨a,xs,m,rfl,hS,hl,hm,q,hE⟩:=h;refine ⟨_,i9 (D3 (o6 Ch.ok hr rfl Ch.m Ch.k Ch.b .nil a2V (a0 (pv 0) (a0 (pv 1) e9))))
  (PSs.nox (j3 (r9 (j4 C5 (G3 P9 (pv 0) P8 (G4 (pv 1))) (G3 P9 (pv 0) (G4 (j4 C4 (pv 1) h8)) P8))))),?_⟩
 refine ⟨_,rfl,_,rfl,a,xs,m,rfl,hS,hm,λ i x hi hx=>?_,hE⟩;subst hi;have hil:=(bQ.mp hx).1;refine ⟨_,rfl,_,rfl,_,rfl,a,_,rfl,hS,λ a1 h1=>?_⟩;rw [a3s _ _ (by omega)];have s1:=Same.new h1 (.lst (xs.take i));refine ⟨_,rfl,_,rfl,_,_,rfl,rfl,_,rfl,a,_,rfl,s1.seq hS,λ a2 h2=>?_⟩;rw [show ((i:Int)+1)=((i+1:Nat):Int) by omega,a0A _ _ (by omega)];have s2:=Same.new h2 (.lst (xs.drop (i+1)));refine ⟨a1,a2,_,_,rfl,rfl,s2 _ _ upd_same,upd_same,?_,λ p hp=>?_⟩
 ·have:=m8 (show (1000:Nat)<=1000 from aF _)
  simp; omega
 have s3:=Same.new hp (.lst (xs.take i++xs.drop (i+1)));refine q i p _ rfl hil ((s1.trans s2).trans s3) ?_ upd_same
 cases e:H p with
 | none=>rfl
 | some o=>rw [s2 _ _ (s1 _ _ e)] at hp; cases hp
end
end Rim
namespace L2
open PySem PySem.Spec PyProof.Rows
theorem b1b {prog:Program} {w:World} {A:Around} {E:Value->Shared->Prop} {s:Shared} {c:Value} {Q:Bool->Shared->Prop} (h:∀ b,Q b s):wpAny (model prog w) A (Builtin.SmallTypes.calledThroughType c) Q E s:=by
 unfold Builtin.SmallTypes.calledThroughType;exact wpAny_bind (wpAny_stack_any λ st=>wpAny_pure (h _))
section
variable {prog:Program} {w:World} {A:Around} {E:Value->Shared->Prop} {s:Shared}
end
section
variable {b:Bool} {xs:List V} {K:W.Frag} {l:Addr} {fr:List Nat} {te:TE} {σ:St} {H1:Hp} {p:Addr} {D:Hp->Prop}
end
end L2
set_option maxHeartbeats 1000000
namespace L2
open PySem PySem.Spec PyProof.Rows
abbrev U6 (h:Heap) (z ti to:Addr) (f0:Value) (f1:Bool):Prop :=
 h.get? z=some { cls:=.type "zip",dict:=none,data:=.fields #[f0,.bool f1,.bool false,.ref ti,.ref to],slots:=#[] }
def Zf (v:Value):Prop:=v=.none\/∃ a:Nat,v=rawInt a
section
variable {prog:Program} {w:World} {A:Around} {E:Value->Shared->Prop} {s:Shared}
theorem a4P {a:Addr} {Q:Option Obj->Shared->Prop} (h:Q (s.heap.get? a) s):wpAny (model prog w) A (loadIfAlive a) Q E s:=λ Γ p _=>by
 show Sem.wp (model prog w) Γ (.loadIfAlive a .pure) _ _ p s
 rw [Sem.wp_loadIfAlive];exact h
theorem a6v {z ti to:Addr} {f0:Value} {f1:Bool} {Q:Bool->Shared->Prop} (q0:U6 s.heap z ti to f0 f1) (z0:Zf f0) (h1:Q true s) (h2:∀ h',U6 h' z ti to f0 true->Heap.SameBut z s.heap h'->Q false { s with heap:=h' }) :
  wpAny (model prog w) A (Builtin.SmallTypes.ownedTupleIsFree (.ref z)) Q E s:=by
 unfold Builtin.SmallTypes.ownedTupleIsFree;refine wpAny_bind (wpAny_field q0 rfl (x:=f0) rfl ?_);rcases z0 with rfl | ⟨a,rfl⟩
 ·exact wpAny_pure h1
 ·show wpAny _ _ (loadIfAlive (a:Int).toNat >>= _) _ _ s
  refine wpAny_bind (a4P ?_)
  cases hg:s.heap.get? (a:Int).toNat with
  | none=>exact wpAny_pure h1
  | some o =>
   show wpAny _ _ (field (.ref z) 1 >>= _) _ _ s
   refine wpAny_bind (wpAny_field q0 rfl (x:=.bool f1) rfl ?_)
   cases f1 with
   | true=>exact wpAny_pure (h2 s.heap q0 ⟨rfl,λ _ _=>rfl⟩)
   | false =>
    show wpAny _ _ (setField (.ref z) 1 (.bool true) >>= _) _ _ s
    exact wpAny_bind (wpAny_setField_rec q0 (by simp) λ u1 z1 s1=>wpAny_pure (h2 u1 z1 s1))
theorem b0i {b1 b2:Bool} {z ti to j1 j2 t1 t2:Addr} {k1 k2:Nat} {f0:Value} {f1:Bool} {xs ys:Array Value} {x y a b:Value} {Q:Value->Shared->Prop} (D:ZipApart z ti to j1 j2 t1 t2)
  (q0:U6 s.heap z ti to f0 f1) (z0:Zf f0) (p1:IsPair s.heap ti (.ref j1) (.ref j2)) (p2:IsPair s.heap to a b)
  (i1:ItB b1 s.heap j1 t1 k1) (i2:ItB b2 s.heap j2 t2 k2) (l1:IsB b1 s.heap t1 xs) (l2:IsB b2 s.heap t2 ys) (ex:xs[k1]?=some x) (ey:ys[k2]?=some y)
  (q:∀ h' f0' f1' a' b',U6 h' z ti to f0' f1'->Zf f0'->IsPair h' to a' b'->ItB b1 h' j1 t1 (k1+1)->ItB b2 h' j2 t2 (k2+1)->IsPair h' s.heap.objs.size x y->h'.objs.size=s.heap.objs.size+1 →
   (∀ c o,c≠z->c≠to->c≠j1->c≠j2->s.heap.get? c=some o->h'.get? c=some o)->Q (.ref s.heap.objs.size) { s with heap:=h' }) :
  wpAny (model prog w) A (Builtin.«zip.__next__» ⟨[.ref z],[]⟩) (λ fin s'=>∃ v,fin=.done (.ret v)/\Q v s') E s:=by
 show wpAny _ _ (field (.ref z) 2 >>= _) _ _ _
 refine wpAny_bind (wpAny_field q0 rfl (x:=.bool false) rfl (show wpAny _ _ (field (.ref z) 3 >>= _) _ _ _ from wpAny_bind (wpAny_field q0 rfl (x:=.ref ti) rfl (wpAny_bind (wpAny_seqItems p1 rfl ?_)))))
 show wpAny _ _ (do let free <- Builtin.SmallTypes.ownedTupleIsFree (.ref z); _) _ _ _
 refine wpAny_bind (a6v q0 z0 ?_ λ v1 z1 s1=>?_)
 ·simp only [if_true]
  refine wpAny_bind (wpAny_rule (wpAny_bind (wpAny_field q0 rfl (x:=.ref to) rfl (wpAny_bind (wpAny_setField_rec q0 (by simp) λ u1 z1 s1=>?_)))));have z1':U6 u1 z ti to .ellipsis f1:=z1;refine wpAny_bind ?_;simp only [gO,gP,eL,eZ];refine wpAny_bind (wpAny_bind (wpAny_onRaise (show wpAny _ _ (Builtin.SmallTypes.nextOf (.ref j1) >>= _) _ _ _ from wpAny_bind (K4 (i1.extBut s1.extBut D.i1z) (l1.extBut s1.extBut D.l1z) ex λ u2 j1' s2=>wpAny_pure ?_))));have to2:IsPair u2 to a b:=s2.extBut _ _ D.TOi1 (s1.extBut _ _ D.TOz p2);refine wpAny_bind (wpAny_seqItems to2 rfl (wpAny_bind (wpAny_updateSeq_pair to2 λ u3 to3 s3=>wpAny_bind (wpAny_letGo (wpAny_pure ?_)))));have to3':IsPair u3 to x b:=to3;refine wpAny_bind (wpAny_bind (wpAny_onRaise (show wpAny _ _ (Builtin.SmallTypes.nextOf (.ref j2) >>= _) _ _ _ from wpAny_bind (K4 (((i2.extBut s1.extBut D.i2z).extBut s2.extBut D.i12.symm).extBut s3.extBut D.TOi2.symm)
   (((l2.extBut s1.extBut D.l2z).extBut s2.extBut D.l2i1).extBut s3.extBut D.l2TO) ey λ u4 j2' s4=>wpAny_pure ?_))))
  have to4:IsPair u4 to x b:=s4.extBut _ _ D.TOi2 to3';refine wpAny_bind (wpAny_seqItems to4 rfl (wpAny_bind (wpAny_updateSeq_pair to4 λ u5 to5 s5=>wpAny_bind (wpAny_letGo (wpAny_pure (wpAny_pure ?_))))));have to5':IsPair u5 to x y:=to5;refine wpAny_bind (wpAny_seqItems to5' rfl (wpAny_bind (wpAny_newTuple ?_)));have sz:u5.objs.size=s.heap.objs.size:=by rw [s5.1,s4.1,s3.1,s2.1,s1.1]
  have z5:U6 u5 z ti to .ellipsis f1:=s5.extBut _ _ D.TOz.symm (s4.extBut _ _ D.i2z.symm (s3.extBut _ _ D.TOz.symm (s2.extBut _ _ D.i1z.symm z1')));have kp:∀ c o,c≠z->c≠to->c≠j1->c≠j2->s.heap.get? c=some o->u5.get? c=some o:=λ c o n1 n2 n3 n4 e=>s5.extBut _ _ n2 (s4.extBut _ _ n4 (s3.extBut _ _ n2 (s2.extBut _ _ n3 (s1.extBut _ _ n1 e))));have a1:ItB b1 u5 j1 t1 (k1+1):=((j1'.extBut s3.extBut D.TOi1.symm).extBut s4.extBut D.i12).extBut s5.extBut D.TOi1.symm;have a2:ItB b2 u5 j2 t2 (k2+1):=j2'.extBut s5.extBut D.TOi2.symm;have zl:z<u5.objs.size:=Heap.lt_size z5
  show wpAny _ _ (do let r <- Builtin.SmallTypes.ownedTupleHandOut (.ref z) (.ref u5.objs.size); _) _ _ _
  unfold Builtin.SmallTypes.ownedTupleHandOut;have z6:U6 (u5.push { cls:=.type "tuple",data:=.seq #[x,y] }) z ti to .ellipsis f1:=Heap.get?_push_of_some _ z5;refine wpAny_bind (wpAny_bind (wpAny_setField_rec z6 (by simp) λ u7 z7 s7=>?_));have z7':U6 u7 z ti to (rawInt u5.objs.size) f1:=z7;refine wpAny_setField_rec z7' (by simp) λ u8 z8 s8=>?_;have z8':U6 u8 z ti to (rawInt u5.objs.size) false:=z8;have up:∀ c o,c≠z->u5.get? c=some o->u8.get? c=some o:=λ c o n1 e=>s8.extBut _ _ n1 (s7.extBut _ _ n1 (Heap.get?_push_of_some _ e));have nt8:IsPair u8 u5.objs.size x y:=s8.extBut _ _ (cP zl) (s7.extBut _ _ (cP zl) (Heap.get?_push_size _ rfl));have sz8:u8.objs.size=s.heap.objs.size+1:=by rw [s8.1,s7.1,Heap.size_push,sz]
  rw [sz] at z8' nt8;refine wpAny_pure ⟨_,rfl,?_⟩
  show Q (.ref u5.objs.size) _
  rw [sz];exact q u8 _ _ _ _ z8' (.inr ⟨_,rfl⟩) (up _ _ D.TOz to5') (ItB.at' a1 λ o e=>up _ o D.i1z e) (ItB.at' a2 λ o e=>up _ o D.i2z e) nt8 sz8 λ c o n1 n2 n3 n4 e=>up c o n1 (kp c o n1 n2 n3 n4 e)
 ·simp only [gL,if_false]
  rw [kU];simp only [eL,eZ];refine wpAny_bind (wpAny_bind (wpAny_bind (wpAny_holding (show wpAny _ _ (Builtin.SmallTypes.nextOf (.ref j1) >>= _) _ _ _ from wpAny_bind (K4 (i1.extBut s1.extBut D.i1z) (l1.extBut s1.extBut D.l1z) ex λ u2 j1' s2=>wpAny_pure ?_)))));refine wpAny_pure ?_;refine wpAny_bind (wpAny_bind (wpAny_holding (show wpAny _ _ (Builtin.SmallTypes.nextOf (.ref j2) >>= _) _ _ _ from wpAny_bind (K4 ((i2.extBut s1.extBut D.i2z).extBut s2.extBut D.i12.symm) ((l2.extBut s1.extBut D.l2z).extBut s2.extBut D.l2i1) ey λ u3 j2' s3=>wpAny_pure ?_))));refine wpAny_pure (wpAny_pure (wpAny_bind (wpAny_newTuple ?_ (by show 2<=sizeLine; decide))));have sz:u3.objs.size=s.heap.objs.size:=by rw [s3.1,s2.1,s1.1]
  have z3:U6 u3 z ti to f0 true:=s3.extBut _ _ D.i2z.symm (s2.extBut _ _ D.i1z.symm z1);have kp:∀ c o,c≠z->c≠j1->c≠j2->s.heap.get? c=some o->u3.get? c=some o:=λ c o n1 n3 n4 e=>s3.extBut _ _ n4 (s2.extBut _ _ n3 (s1.extBut _ _ n1 e));have a1:ItB b1 u3 j1 t1 (k1+1):=j1'.extBut s3.extBut D.i12;have up:∀ c o,u3.get? c=some o->(u3.push { cls:=.type "tuple",data:=.seq #[x,y] }).get? c=some o:=λ c o e=>Heap.get?_push_of_some _ e;have nt:IsPair (u3.push { cls:=.type "tuple",data:=.seq #[x,y] }) s.heap.objs.size x y:=by rw [<- sz]; exact Heap.get?_push_size _ rfl
  have sz8:(u3.push { cls:=.type "tuple",data:=.seq #[x,y] }).objs.size=s.heap.objs.size+1:=by rw [Heap.size_push,sz]
  refine wpAny_pure ⟨_,rfl,?_⟩
  show Q (.ref u3.objs.size) _
  rw [sz];exact q _ f0 true a b (up _ _ z3) z0 (up _ _ (kp _ _ D.TOz D.TOi1 D.TOi2 p2)) (ItB.at' a1 λ o e=>up _ o e) (ItB.at' j2' λ o e=>up _ o e) nt sz8 λ c o n1 _ n3 n4 e=>up _ _ (kp c o n1 n3 n4 e)
theorem b2Q {b1 b2:Bool} {z ti to j1 j2 t1 t2:Addr} {k1 k2:Nat} {f0:Value} {f1:Bool} {xs ys:Array Value} {a b:Value} {Q:gA->Shared->Prop} (hh:A.handled=none) (D:ZipApart z ti to j1 j2 t1 t2)
  (q0:U6 s.heap z ti to f0 f1) (z0:Zf f0) (p1:IsPair s.heap ti (.ref j1) (.ref j2)) (p2:IsPair s.heap to a b)
  (i1:ItB b1 s.heap j1 t1 k1) (i2:ItB b2 s.heap j2 t2 k2) (l1:IsB b1 s.heap t1 xs) (l2:IsB b2 s.heap t2 ys) (en:xs[k1]?=none\/ys[k2]?=none)
  (q:∀ h' e,(∀ c o,c≠z->c≠to->c≠j1->c≠j2->s.heap.get? c=some o->h'.get? c=some o)->(∃ o,h'.get? e=some o/\o.cls=.type "StopIteration")->E (.ref e) { s with heap:=h' }) :
  wpAny (model prog w) A (Builtin.«zip.__next__» ⟨[.ref z],[]⟩) Q E s:=by
 show wpAny _ _ (field (.ref z) 2 >>= _) _ _ _
 refine wpAny_bind (wpAny_field q0 rfl (x:=.bool false) rfl (show wpAny _ _ (field (.ref z) 3 >>= _) _ _ _ from wpAny_bind (wpAny_field q0 rfl (x:=.ref ti) rfl (wpAny_bind (wpAny_seqItems p1 rfl ?_)))))
 show wpAny _ _ (do let free <- Builtin.SmallTypes.ownedTupleIsFree (.ref z); _) _ _ _
 refine wpAny_bind (a6v q0 z0 ?_ λ v1 z1 s1=>?_)
 ·simp only [if_true]
  refine wpAny_bind (wpAny_rule (wpAny_bind (wpAny_field q0 rfl (x:=.ref to) rfl (wpAny_bind (wpAny_setField_rec q0 (by simp) λ u1 z1 s1=>?_)))));have z1':U6 u1 z ti to .ellipsis f1:=z1;refine wpAny_bind ?_;simp only [gO,gP,eL,eZ]
  cases ex:xs[k1]? with
  | none =>
   refine wpAny_bind (wpAny_bind (wpAny_onRaise (show wpAny _ _ (Builtin.SmallTypes.nextOf (.ref j1) >>= _) _ _ _ from wpAny_bind (a0b hh (i1.extBut s1.extBut D.i1z) (l1.extBut s1.extBut D.l1z) ex λ u2 e s2 ⟨oe,e1,e2⟩=>?_))));have z2:U6 u2 z ti to .ellipsis f1:=s2 _ _ D.i1z.symm z1';have ne:e≠z:=λ c=>by subst c; rw [z2] at e1; cases e1; simp at e2
   exact wpAny_setField_rec z2 (by simp) λ u3 _ s3=>q u3 e (λ c o n1 _ n3 _ m=>s3.extBut _ _ n1 (s2 _ _ n3 (s1.extBut _ _ n1 m))) ⟨oe,s3.extBut _ _ ne e1,e2⟩
  | some x =>
   have ey:ys[k2]?=none:=by
    rcases en with m | m
    ·rw [ex] at m; cases m
    ·exact m
   refine wpAny_bind (wpAny_bind (wpAny_onRaise (show wpAny _ _ (Builtin.SmallTypes.nextOf (.ref j1) >>= _) _ _ _ from wpAny_bind (K4 (i1.extBut s1.extBut D.i1z) (l1.extBut s1.extBut D.l1z) ex λ u2 j1' s2=>wpAny_pure ?_))));have to2:IsPair u2 to a b:=s2.extBut _ _ D.TOi1 (s1.extBut _ _ D.TOz p2);refine wpAny_bind (wpAny_seqItems to2 rfl (wpAny_bind (wpAny_updateSeq_pair to2 λ u3 to3 s3=>wpAny_bind (wpAny_letGo (wpAny_pure ?_)))));refine wpAny_bind (wpAny_bind (wpAny_onRaise (show wpAny _ _ (Builtin.SmallTypes.nextOf (.ref j2) >>= _) _ _ _ from wpAny_bind (a0b hh (((i2.extBut s1.extBut D.i2z).extBut s2.extBut D.i12.symm).extBut s3.extBut D.TOi2.symm)
    (((l2.extBut s1.extBut D.l2z).extBut s2.extBut D.l2i1).extBut s3.extBut D.l2TO) ey λ u4 e s4 ⟨oe,e1,e2⟩=>?_))))
   have z4:U6 u4 z ti to .ellipsis f1:=s4 _ _ D.i2z.symm (s3.extBut _ _ D.TOz.symm (s2.extBut _ _ D.i1z.symm z1'));have ne:e≠z:=λ c=>by subst c; rw [z4] at e1; cases e1; simp at e2
   exact wpAny_setField_rec z4 (by simp) λ u5 _ s5=>q u5 e (λ c o n1 n2 n3 n4 m=>s5.extBut _ _ n1 (s4 _ _ n4 (s3.extBut _ _ n2 (s2.extBut _ _ n3 (s1.extBut _ _ n1 m))))) ⟨oe,s5.extBut _ _ ne e1,e2⟩
 ·simp only [gL,if_false]
  rw [kU];simp only [eL,eZ]
  cases ex:xs[k1]? with
  | none =>
   exact wpAny_bind (wpAny_bind (wpAny_bind (wpAny_holding (show wpAny _ _ (Builtin.SmallTypes.nextOf (.ref j1) >>= _) _ _ _ from wpAny_bind (a0b hh (i1.extBut s1.extBut D.i1z) (l1.extBut s1.extBut D.l1z) ex λ u2 e s2 r=>q u2 e (λ c o n1 _ n3 _ m=>s2 _ _ n3 (s1.extBut _ _ n1 m)) r)))))
  | some x =>
   have ey:ys[k2]?=none:=by
    rcases en with m | m
    ·rw [ex] at m; cases m
    ·exact m
   refine wpAny_bind (wpAny_bind (wpAny_bind (wpAny_holding (show wpAny _ _ (Builtin.SmallTypes.nextOf (.ref j1) >>= _) _ _ _ from wpAny_bind (K4 (i1.extBut s1.extBut D.i1z) (l1.extBut s1.extBut D.l1z) ex λ u2 j1' s2=>wpAny_pure ?_)))));refine wpAny_pure ?_;exact wpAny_bind (wpAny_bind (wpAny_holding (show wpAny _ _ (Builtin.SmallTypes.nextOf (.ref j2) >>= _) _ _ _ from wpAny_bind (a0b hh ((i2.extBut s1.extBut D.i2z).extBut s2.extBut D.i12.symm) ((l2.extBut s1.extBut D.l2z).extBut s2.extBut D.l2i1) ey λ u3 e s3 r=>q u3 e (λ c o n1 _ n3 n4 m=>s3 _ _ n4 (s2.extBut _ _ n3 (s1.extBut _ _ n1 m))) r))))
theorem a9Z {b1 b2:Bool} {z ti to j1 j2 t1 t2:Addr} {k1 k2:Nat} {f0:Value} {f1:Bool} {xs ys:Array Value} {x y a b:Value} {Q:Value->Shared->Prop} (D:ZipApart z ti to j1 j2 t1 t2)
  (q0:U6 s.heap z ti to f0 f1) (z0:Zf f0) (p1:IsPair s.heap ti (.ref j1) (.ref j2)) (p2:IsPair s.heap to a b)
  (i1:ItB b1 s.heap j1 t1 k1) (i2:ItB b2 s.heap j2 t2 k2) (l1:IsB b1 s.heap t1 xs) (l2:IsB b2 s.heap t2 ys) (ex:xs[k1]?=some x) (ey:ys[k2]?=some y)
  (q:∀ h' f0' f1' a' b',U6 h' z ti to f0' f1'->Zf f0'->IsPair h' to a' b'->ItB b1 h' j1 t1 (k1+1)->ItB b2 h' j2 t2 (k2+1)->IsPair h' s.heap.objs.size x y->h'.objs.size=s.heap.objs.size+1 →
   (∀ c o,c≠z->c≠to->c≠j1->c≠j2->s.heap.get? c=some o->h'.get? c=some o)->Q (.ref s.heap.objs.size) { s with heap:=h' }) :
  wpAny (model prog w) A (Builtin.SmallTypes.nextOf (.ref z)) Q E s:=by
 have ty:s.TypeIs (.ref z) "zip":=⟨_,q0,rfl⟩;unfold Builtin.SmallTypes.nextOf;exact wpAny_bind (wpAny_callSpecial?_slot (name:=Str.ofString "__next__") ty F.slot_zip_next (wpAny_call_entry F.slot_zip_next ty F.entry_zip_next
  (b0i D q0 z0 p1 p2 i1 i2 l1 l2 ex ey λ h' f0' f1' a' b' c1 c2 c3 c4 c5 c6 c7 c8=>wpAny_pure (q h' f0' f1' a' b' c1 c2 c3 c4 c5 c6 c7 c8)) (F.args_zip_next_1 _)))
theorem b0W {b1 b2:Bool} {z ti to j1 j2 t1 t2:Addr} {k1 k2:Nat} {f0:Value} {f1:Bool} {xs ys:Array Value} {a b:Value} {Q:Value->Shared->Prop} (hh:A.handled=none) (D:ZipApart z ti to j1 j2 t1 t2)
  (q0:U6 s.heap z ti to f0 f1) (z0:Zf f0) (p1:IsPair s.heap ti (.ref j1) (.ref j2)) (p2:IsPair s.heap to a b)
  (i1:ItB b1 s.heap j1 t1 k1) (i2:ItB b2 s.heap j2 t2 k2) (l1:IsB b1 s.heap t1 xs) (l2:IsB b2 s.heap t2 ys) (en:xs[k1]?=none\/ys[k2]?=none)
  (q:∀ h' e,(∀ c o,c≠z->c≠to->c≠j1->c≠j2->s.heap.get? c=some o->h'.get? c=some o)->(∃ o,h'.get? e=some o/\o.cls=.type "StopIteration")->E (.ref e) { s with heap:=h' }) :
  wpAny (model prog w) A (Builtin.SmallTypes.nextOf (.ref z)) Q E s:=by
 have ty:s.TypeIs (.ref z) "zip":=⟨_,q0,rfl⟩;unfold Builtin.SmallTypes.nextOf;exact wpAny_bind (wpAny_callSpecial?_slot (name:=Str.ofString "__next__") ty F.slot_zip_next (wpAny_call_entry F.slot_zip_next ty F.entry_zip_next
  (b2Q hh D q0 z0 p1 p2 i1 i2 l1 l2 en q) (F.args_zip_next_1 _)))
theorem b0c {e it:Addr} {i:Nat} {old:Value} {G:Value->Heap->Prop} {Q:Option Value->Shared->Prop} (he:IsEnum s.heap e it i old)
  (hn:∀ (Q':Value->Shared->Prop) (E':Value->Shared->Prop),(∀ x h',IsEnum h' e it i old->G x h'->Q' x { s with heap:=h' })->wpAny (model prog w) A.in1 (Builtin.SmallTypes.nextOf (.ref it)) Q' E' s)
  (hQ:∀ x h1 h' tk,G x h1->IsEnumOut h' e it ((i:Int)+1) x h1.objs.size->h'.get? h1.objs.size=some { cls:=.type "tuple",data:=.seq #[.int i tk,x] }->(∀ b o,b≠e->h1.get? b=some o->h'.get? b=some o)->Q (some (.ref h1.objs.size)) { s with heap:=h',toks:=tk+1 }) :
  wpAny (model prog w) A (pyNext (.ref e)) Q E s:=by
 have hT:s.TypeIs (.ref e) "enumerate":=⟨_,he,rfl⟩;unfold pyNext;refine wpAny_bind (wpAny_attempt (wpAny_callSpecial?_slot (name:=Str.ofString "__next__") hT F.slot_enumerate_next (wpAny_call_entry F.slot_enumerate_next hT F.entry_enumerate_next ?_ (F.args_enumerate_next_1 _))))
 show wpAny _ _ (field (.ref e) 2 >>= _) _ _ _
 refine wpAny_bind (wpAny_field he rfl (x:=.ref it) rfl ?_);refine wpAny_bind (hn _ _ λ x h1 he1 g=>?_);obtain ⟨hp,gg,d,tk,os⟩:=s
 show wpAny _ _ (field (.ref e) 3 >>= _) _ _ ⟨h1,gg,d,tk,os⟩
 refine wpAny_bind (wpAny_field he1 rfl (x:=rawInt i) rfl ?_)
 show wpAny _ _ (field (.ref e) 4 >>= _) _ _ ⟨h1,gg,d,tk,os⟩
 refine wpAny_bind (wpAny_field he1 rfl (x:=.none) rfl ?_)
 show wpAny _ _ (mkInt i >>= _) _ _ ⟨h1,gg,d,tk,os⟩
 refine wpAny_bind (wpAny_mkInt ?_)
 show wpAny _ _ (setField (.ref e) 3 (rawInt ((i:Int)+1)) >>= _) _ _ ⟨h1,gg,d,tk+1,os⟩
 refine wpAny_bind (wpAny_setField_rec he1 (by simp) λ h2 he2 s2=>?_);have he2':IsEnum h2 e it ((i:Int)+1) old:=he2
 show wpAny _ _ (setField (.ref e) 4 .none >>= _) _ _ ⟨h2,gg,d,tk+1,os⟩
 refine wpAny_bind (wpAny_setField_rec he2' (by simp) λ h3 he3 s3=>?_);have he3':IsEnum h3 e it ((i:Int)+1) old:=he3
 show wpAny _ _ (newTuple [.int i tk,x] >>= _) _ _ ⟨h3,gg,d,tk+1,os⟩
 refine wpAny_bind (wpAny_newTuple ?_);have he4:IsEnum (h3.push { cls:=.type "tuple",data:=.seq #[.int i tk,x] }) e it ((i:Int)+1) old:=Heap.get?_push_of_some _ he3';have sz:h3.objs.size=h1.objs.size:=by rw [s3.1,s2.1]
 have el:e<h1.objs.size:=Heap.lt_size he1;have tt:(h3.push { cls:=.type "tuple",data:=.seq #[.int i tk,x] }).get? h1.objs.size=some { cls:=.type "tuple",data:=.seq #[.int i tk,x] }:=by rw [<- sz]; exact Heap.get?_push_size _ rfl
 have kp:∀ b o,b≠e->h1.get? b=some o->(h3.push { cls:=.type "tuple",data:=.seq #[.int i tk,x] }).get? b=some o:=λ b o nb q=>Heap.get?_push_of_some _ (s3.extBut b o nb (s2.extBut b o nb q))
 show wpAny _ _ (Builtin.SmallTypes.ownedTupleIsFree (.ref e) >>= _) _ _ ⟨h3.push { cls:=.type "tuple",data:=.seq #[.int i tk,x] },gg,d,tk+1,os⟩
 rw [sz];generalize h3.push { cls:=.type "tuple",data:=.seq #[.int i tk,x] }=h4 at *;refine wpAny_bind ?_;unfold Builtin.SmallTypes.ownedTupleIsFree;refine wpAny_bind (wpAny_field he4 rfl (x:=.none) rfl (wpAny_pure ?_));simp only [if_true];refine wpAny_bind (wpAny_rule (wpAny_bind (wpAny_field he4 rfl (x:=old) rfl (wpAny_bind (wpAny_setField_rec he4 (by simp) λ h5 he5 s5=>?_)))));have he5':IsEnum h5 e it ((i:Int)+1) x:=he5
 show wpAny _ _ (Builtin.SmallTypes.ownedTupleHandOut (.ref e) (.ref h1.objs.size) >>= _) _ _ ⟨h5,gg,d,tk+1,os⟩
 refine wpAny_bind ?_;unfold Builtin.SmallTypes.ownedTupleHandOut;refine wpAny_bind (wpAny_setField_rec he5' (by simp) λ h6 he6 s6=>?_);have he6':IsEnumOut h6 e it ((i:Int)+1) x h1.objs.size:=he6;refine wpAny_setField_rec he6' (by simp) λ h7 he7 s7=>?_;have he7':IsEnumOut h7 e it ((i:Int)+1) x h1.objs.size:=he7;have up:∀ b o,b≠e->h4.get? b=some o->h7.get? b=some o:=λ b o nb q=>s7.extBut b o nb (s6.extBut b o nb (s5.extBut b o nb q));exact wpAny_bind (wpAny_letGo (wpAny_pure ⟨_,rfl,wpAny_pure (hQ x h1 h7 tk g he7' (up _ _ (cP el) tt) λ b o nb q=>up b o nb (kp b o nb q))⟩))
theorem b1O {e it:Addr} {i:Int} {old:Value} {Q:Option Value->Shared->Prop} (he:IsEnum s.heap e it i old)
  (hn:∀ (Q':Value->Shared->Prop) (E':Value->Shared->Prop),(∀ h' x,(∃ o,h'.get? x=some o/\o.cls=.type "StopIteration")->Q none { s with heap:=h' }->E' (.ref x) { s with heap:=h' })->wpAny (model prog w) A.in1 (Builtin.SmallTypes.nextOf (.ref it)) Q' E' s) :
  wpAny (model prog w) A (pyNext (.ref e)) Q E s:=by
 have hT:s.TypeIs (.ref e) "enumerate":=⟨_,he,rfl⟩;unfold pyNext;refine wpAny_bind (wpAny_attempt (wpAny_callSpecial?_slot (name:=Str.ofString "__next__") hT F.slot_enumerate_next (wpAny_call_entry F.slot_enumerate_next hT F.entry_enumerate_next ?_ (F.args_enumerate_next_1 _))))
 show wpAny _ _ (field (.ref e) 2 >>= _) _ _ _
 refine wpAny_bind (wpAny_field he rfl (x:=.ref it) rfl ?_);refine wpAny_bind (hn _ _ λ h' x ⟨o,ho,hc⟩ q=>?_);exact wpAny_bind (wpAny_isInstance (T:="StopIteration") (b:=true) ⟨o,ho,hc⟩ isSubtype_stop (wpAny_pure q))
end
def Itz (b1 b2:Bool) (K:W.Frag) (l1 l2:Addr):It :=
  ⟨(Itg b1 b2 K l1 l2).go,
   λ i H x H'=>∃ p r a b,H r=none/\(r6 H r (.tup [a,b])) p=none/\x=.ref p/\H'=r6 (r6 H r (.tup [a,b])) p (.tup [.int (i:Int),.ref r])/\∀ xs ys,SqB b1 K H l1 xs->SqB b2 K H l2 ys->xs[i]?=some a/\ys[i]?=some b,
   (Itg b1 b2 K l1 l2).stop⟩
theorem b0Z {b1 b2:Bool} {P:Program} {w:World} {K:W.Frag} {elts:List Expr} {x1:Nat} {pos:Pos} {e z ti to j1 j2 l1 l2:Addr} (D:ZipApart z ti to j1 j2 l1 l2) (hne:∀ c∈[z,ti,to,j1,j2,l1,l2],c≠e) :
  a5A P w K (.Tuple elts x1 pos) (Itz b1 b2 K l1 l2) [e,z,ti,to,j1,j2] e (λ i h=>(∃ old,IsEnum h e z (i:Int) old)/\(∃ f0 f1,U6 h z ti to f0 f1/\Zf f0)/\IsPair h ti (.ref j1) (.ref j2)/\(∃ a b,IsPair h to a b)/\ItB b1 h j1 l1 i/\ItB b2 h j2 l2 i) where
 mem:=by simp
 obj:=λ i h st c hb=>by
  obtain ⟨⟨old,he⟩,⟨f0,f1,hz,z0⟩,hti,⟨a,b,hto⟩,h1,h2⟩:=st;obtain ⟨o1,e1,v1,d1⟩:=h1.obj;obtain ⟨o2,e2,v2,d2⟩:=h2.obj;simp only [aJ,aZ,or_false] at hb;rcases hb with rfl | rfl | rfl | rfl | rfl | rfl
  ·exact ⟨_,he,λ v q=>by cases q⟩
  ·exact ⟨_,hz,λ v q=>by cases q⟩
  ·exact ⟨_,hti,λ v q=>by cases q⟩
  ·exact ⟨_,hto,λ v q=>by cases q⟩
  ·exact ⟨o1,e1,λ v q=>by rw [d1] at q; cases q⟩
  ·exact ⟨o2,e2,λ v q=>by rw [d2] at q; cases q⟩
 keep:=λ i h h' st k=>by
  obtain ⟨⟨old,he⟩,⟨f0,f1,hz,z0⟩,hti,⟨a,b,hto⟩,h1,h2⟩:=st;exact ⟨⟨old,k e (by simp) _ he⟩,⟨f0,f1,k z (by simp) _ hz,z0⟩,k ti (by simp) _ hti,⟨a,b,k to (by simp) _ hto⟩,ItB.at' h1 λ o q=>k j1 (by simp) o q,ItB.at' h2 λ o q=>k j2 (by simp) o q⟩
 item:=by
  intro X hP hw hK hc i pins s σ H E I hf st hg;subst hP hw hK;obtain ⟨xs,ys,x,y,hq1,hq2,hx,hy⟩:=hg;obtain ⟨⟨old,he⟩,⟨f0,f1,hz,z0⟩,hti,⟨a,b,hto⟩,h1,h2⟩:=st;obtain ⟨its1,rv1,p1,_⟩:=I.sqB hq1;obtain ⟨its2,rv2,p2,_⟩:=I.sqB hq2;obtain ⟨u1,hu1,ru1⟩:=rv1.get hx;obtain ⟨u2,hu2,ru2⟩:=rv2.get hy;have nE:∀ {c:Addr},c∈[z,ti,to,j1,j2,l1,l2]->c≠e:=λ hb=>hne _ hb;refine b0c (it:=z) (G:=λ v h'=>v=.ref s.heap.objs.size/\(∃ f0 f1,U6 h' z ti to f0 f1/\Zf f0)/\(∃ a b,IsPair h' to a b)/\ItB b1 h' j1 l1 (i+1)/\ItB b2 h' j2 l2 (i+1)/\IsPair h' s.heap.objs.size u1 u2/\h'.objs.size=s.heap.objs.size+1/\IsEnum h' e z i old ∧
   ∀ c o,c≠z->c≠to->c≠j1->c≠j2->s.heap.get? c=some o->h'.get? c=some o) he (λ Q' E' k=>a9Z D hz z0 hti hto h1 h2 p1 p2 (x:=u1) (y:=u2) (by simpa using hu1) (by simpa using hu2) λ h' f0' f1' a' b' c1 c2 c3 c4 c5 c6 c7 c8=>?_) ?_
  ·have he':IsEnum h' e z i old:=c8 e _ (nE (by simp)).symm (nE (by simp)).symm (nE (by simp)).symm (nE (by simp)).symm he
   exact k _ h' he' ⟨rfl,⟨f0',f1',c1,c2⟩,⟨a',b',c3⟩,c4,c5,c6,c7,he',c8⟩
  ·rintro v g1 h' tk ⟨rfl,⟨f0',f1',c1,c2⟩,⟨a',b',c3⟩,c4,c5,c6,c7,he1,c8⟩ hout htup kp
   refine ⟨_,rfl,wpAny_letOwnedTupleGo_enum (s:={ s with heap:=h',toks:=tk+1 }) hout λ h'' he'' hs''=>?_⟩;have inS:∀ b∈[e,z,ti,to,j1,j2],∃ o,s.heap.get? b=some o:=λ b hb=>by
    obtain ⟨o1,e1,_⟩:=h1.obj;obtain ⟨o2,e2,_⟩:=h2.obj;simp only [aJ,aZ,or_false] at hb;rcases hb with rfl | rfl | rfl | rfl | rfl | rfl
    ·exact ⟨_,he⟩
    ·exact ⟨_,hz⟩
    ·exact ⟨_,hti⟩
    ·exact ⟨_,hto⟩
    ·exact ⟨_,e1⟩
    ·exact ⟨_,e2⟩
   have neT:∀ b∈[e,z,ti,to,j1,j2],b≠s.heap.objs.size:=λ b hb q=>by
    obtain ⟨o,ho⟩:=inS b hb;exact absurd (Heap.lt_size ho) (by rw [q]; exact bJ _)
   have gti:g1.get? ti=_:=c8 ti _ D.TIz D.TITO D.TIi1 D.TIi2 hti;have I1:Inv X pins σ (r6 H s.heap.objs.size (.tup [x,y])) { s with heap:=g1 }:=by
    refine I.turnedLaid (h':=g1) (fp:=[e,z,ti,to,j1,j2]) hf (λ c o hb q=>?_) (λ c hb=>?_) (aF _) (by show 2<=sizeLine; decide) (show Vals [x,y] [u1,u2] from .cons ru1 (.cons ru2 .nil)) ⟨_,c6,rfl,0,rfl⟩
    ·simp only [aJ,aZ,or_false,not_or] at hb
     exact c8 c o hb.2.1 hb.2.2.2.1 hb.2.2.2.2.1 hb.2.2.2.2.2 q
    ·obtain ⟨o1,e1,_⟩:=c4.obj
     obtain ⟨o2,e2,_⟩:=c5.obj;simp only [aJ,aZ,or_false] at hb;rcases hb with rfl | rfl | rfl | rfl | rfl | rfl
     ·exact ⟨_,he1⟩
     ·exact ⟨_,c1⟩
     ·exact ⟨_,gti⟩
     ·exact ⟨_,c3⟩
     ·exact ⟨_,e1⟩
     ·exact ⟨_,e2⟩
   have hf1:∀ b∈[e,z,ti,to,j1,j2],U7 X pins (r6 H s.heap.objs.size (.tup [x,y])) b:=λ b hb=>⟨by rw [c9 (neT b hb)]; exact (hf b hb).1,(hf b hb).2⟩;have el1:e<g1.objs.size:=Heap.lt_size he1;have up:∀ c o,c≠e->g1.get? c=some o->h''.get? c=some o:=λ c o nc q=>hs''.extBut c o nc (kp c o nc q);have neT2:∀ b∈[e,z,ti,to,j1,j2],b≠g1.objs.size:=λ b hb q=>by
    obtain ⟨o,ho⟩:=inS b hb;exact absurd (Heap.lt_size ho) (by rw [q,c7]; exact Nat.not_lt.mpr (gG _))
   have I2:Inv X pins σ (r6 (r6 H s.heap.objs.size (.tup [x,y])) g1.objs.size (.tup [.int (i:Int),.ref s.heap.objs.size])) { s with heap:=h'',toks:=tk+1 }:=by
    refine (Inv.tok (I1.turnedLaid (h':=h'') (fp:=[e,z,ti,to,j1,j2]) hf1 (λ c o hb q=>?_) (λ c hb=>?_) (aF _) (by show 2<=sizeLine; decide) (show Vals [.int (i:Int),.ref s.heap.objs.size] [Value.int (i:Int) tk,.ref s.heap.objs.size] from .cons ⟨_,rfl⟩ (.cons rfl .nil)) ⟨_,hs''.extBut _ _ (cP el1) htup,rfl,0,rfl⟩) _)
    ·simp only [aJ,aZ,or_false,not_or] at hb
     exact up c o hb.1 q
    ·obtain ⟨o1,e1,_⟩:=c4.obj
     obtain ⟨o2,e2,_⟩:=c5.obj;simp only [aJ,aZ,or_false] at hb;rcases hb with rfl | rfl | rfl | rfl | rfl | rfl
     ·exact ⟨_,he''⟩
     ·exact ⟨_,up _ _ (nE (by simp)) c1⟩
     ·exact ⟨_,up _ _ (nE (by simp)) gti⟩
     ·exact ⟨_,up _ _ (nE (by simp)) c3⟩
     ·exact ⟨_,up _ _ (nE (by simp)) e1⟩
     ·exact ⟨_,up _ _ (nE (by simp)) e2⟩
   refine ⟨.ref g1.objs.size,_,I2,rfl,⟨g1.objs.size,s.heap.objs.size,x,y,I.fresh,I1.fresh,rfl,rfl,λ xs' ys' q1 q2=>?_⟩,⟨⟨_,he''⟩,⟨f0',f1',up _ _ (nE (by simp)) c1,c2⟩,up _ _ (nE (by simp)) gti,⟨a',b',up _ _ (nE (by simp)) c3⟩,ItB.at' c4 λ o q=>up _ o (nE (by simp)) q,ItB.at' c5 λ o q=>up _ o (nE (by simp)) q⟩,λ c hb=>?_⟩
   ·rw [I.sqB_inj q1 hq1,I.sqB_inj q2 hq2]; exact ⟨hx,hy⟩
   ·rw [c9 (neT2 c hb),c9 (neT c hb)]; exact (hf c hb).1
 done:=by
  intro X hP hw hK hc i pins s σ H E I hf st hg;subst hP hw hK;obtain ⟨xs,ys,hq1,hq2,hend⟩:=hg;obtain ⟨⟨old,he⟩,⟨f0,f1,hz,z0⟩,hti,⟨a,b,hto⟩,h1,h2⟩:=st;obtain ⟨its1,rv1,p1,_⟩:=I.sqB hq1;obtain ⟨its2,rv2,p2,_⟩:=I.sqB hq2;have hl1:=rv1.length;have hl2:=rv2.length;refine b1O he λ Q' E' k=>b0W (show X.A.in1.handled=none from I.ok.hd hc) D hz z0 hti hto h1 h2 p1 p2 (by
   rcases hend with q | q
   ·exact .inl (by simp; omega)
   ·exact .inr (by simp; omega)) λ h' x kk r=>k h' x r ⟨rfl,I.turnedAll hf λ c o hb q=>?_⟩
  simp only [aJ,aZ,or_false,not_or] at hb;exact kk c o hb.2.1 hb.2.2.2.1 hb.2.2.2.2.1 hb.2.2.2.2.2 q
 self:=λ _ _ _ _ _ st h=>by
  obtain ⟨⟨old,he⟩,_⟩:=st;exact wpAny_pyIter_enum he h
abbrev ez1 (h:Heap) (z:Addr):Heap:=h.push { cls:=.type "enumerate",data:=.fields #[.none,.bool false,.ref z,rawInt 0,.none,.none] }
theorem b2E (z ti to:Addr) :
  Meets (Builtin.«enumerate.__new__» ⟨[.type "enumerate",.ref z],[]⟩) (λ _ R s=>IsZip s.heap z ti to .none/\R (.ok (.ret (.ref s.heap.objs.size))) { s with heap:=ez1 s.heap z }) :=
 .of_wp λ prog w A R s h=>by
  obtain ⟨hp,g,d,tk,os⟩:=s;obtain ⟨e1,h⟩:=h;have hsub:=sub_enumerate;have m1:IsZip (Shared.heap ⟨hp,g,d,tk,os⟩) z ti to .none:=e1
  wp_walk using wpAny_pyIter_zip m1,b1b
  intro c
  cases c
  ·wp_walk using wpAny_pyIter_zip m1
   exact ⟨_,rfl,h⟩
  ·wp_walk using wpAny_pyIter_zip m1
   exact ⟨_,rfl,h⟩
section
variable {prog:Program} {w:World} {A:Around} {E:Value->Shared->Prop} {s:Shared}
theorem a9X {z ti to:Addr} {Q:Value->Shared->Prop} (l1:IsZip s.heap z ti to .none)
  (q:∀ h',IsEnum h' s.heap.objs.size z 0 .none->(∀ c o,s.heap.get? c=some o->h'.get? c=some o)->Q (.ref s.heap.objs.size) { s with heap:=h' }) :
  wpAny (model prog w) A (call (.type "enumerate") [.ref z]) Q E s:=by
 refine callType_new F.called_enumerate (by decide) (F.typeCall_enumerate_1 _) (F.newCall_enumerate_1 _) (λ ob=>F.args_object_init_2 ob _) F.entry_enumerate_new (b2E z ti to) ⟨l1,?_⟩;have p1:(ez1 s.heap z).get? s.heap.objs.size=some _:=Heap.get?_push_size _ rfl;exact ⟨⟨_,p1,rfl⟩,q _ p1 λ c o m=>Heap.get?_push_of_some _ m⟩
end
def iEz (b1 b2:Bool) (K:W.Frag) (ta:TA):TI:=λ σ H R=>ta σ H λ vs H1=>∃ l1 l2,vs=[.ref l1,.ref l2]/\(∃ xs,SqB b1 K H1 l1 xs)/\(∃ ys,SqB b2 K H1 l2 ys)/\R (Itz b1 b2 K l1 l2) H1
theorem b4a (b1 b2:Bool) (K:W.Frag) {X:Cx} {a b:Expr} {ta:TA} {p pos p2 pos2 pos':Pos} {elts:List Expr} {x1:Nat} (hK:X.K=K) (hg:Gl X "enumerate") (hm:X.mg "enumerate"=none) (hg2:Gl X "zip") (hm2:X.mg "zip"=none) (ha:PA X [a,b] ta)
  (hs:starEach [a,b] X.env=[(false,eval a X.env),(false,eval b X.env)]:=by rfl) (hs2:starEach [b] X.env=[(false,eval b X.env)]:=by rfl)
  (hs3:starEach [.Call (.Name "zip" p2) [a,b] [] pos2] X.env=[(false,eval (.Call (.Name "zip" p2) [a,b] [] pos2) X.env)]:=by rfl) (hs4:starEach ([]:List Expr) X.env=[]:=by rfl) :
  PI X (.Tuple elts x1 pos') (.Call (.Name "enumerate" p) [.Call (.Name "zip" p2) [a,b] [] pos2] [] pos) (iEz b1 b2 K ta):=by
 subst hK;intro pins s σ H R I h;refine Call_ (U5 I hg hm boot_enumerate (fJ ?_ (by rw [hs3,hs4]) (by rw [hs4]; rfl)));rw [hs3]
 show wpAny _ _ (spliced ((false,eval (.Call (.Name "zip" p2) [a,b] [] pos2) X.env)::[])) _ _ s
 refine Calls.spliced_cons ?_;refine Call_ (U5 I hg2 hm2 boot_zip (fJ (A8 (ha pos2 pins s σ H _ I h) λ us s1 ⟨vs,H1,I1,r1,q1⟩=>?_) (by rw [hs,hs2]) (by rw [hs2]; rfl)));obtain ⟨l1,l2,e,⟨xs,q1⟩,⟨ys,q2⟩,q⟩:=q1;subst e;obtain ⟨u1,u2,rfl,ru1,ru2⟩:=a2A r1
 cases ru1
 cases ru2;obtain ⟨its1,rv1,p1,_⟩:=I1.sqB q1;obtain ⟨its2,rv2,p2,_⟩:=I1.sqB q2;refine a6f p1 p2 λ h1 z1 z2 z3 z4 z5 k1=>?_;refine wpAny_pure ?_;refine a9X z1 λ h2 e1 k2=>?_;have I2:Inv X pins σ H1 { s1 with heap:=h2 }:=I1.kept (t':=s1.toks) λ c o m=>k2 c o (k1 c o m);refine wpAny_pyIter_enum e1 ?_;have D:ZipApart (s1.heap.objs.size+4) (s1.heap.objs.size+2) (s1.heap.objs.size+3) s1.heap.objs.size (s1.heap.objs.size+1) l1 l2:=a9k _ _ _ p1.lt p2.lt;have z1s:s1.heap.objs.size+4<h1.objs.size:=Heap.lt_size z1;have lt1:=p1.lt;have lt2:=p2.lt;refine ⟨h1.objs.size,[h1.objs.size,s1.heap.objs.size+4,s1.heap.objs.size+2,s1.heap.objs.size+3,s1.heap.objs.size,s1.heap.objs.size+1],_,_,H1,rfl,I2,b0Z D (λ c hb z0=>?_),⟨⟨_,e1⟩,⟨_,_,k2 _ _ z1,.inl rfl⟩,k2 _ _ z2,⟨_,_,k2 _ _ z3⟩,ItB.at' z4 λ o m=>k2 _ o m,ItB.at' z5 λ o m=>k2 _ o m⟩,λ b hb=>?_,q⟩
 ·simp only [aJ,aZ,or_false] at hb
  have:c<h1.objs.size:=by
   rcases hb with rfl | rfl | rfl | rfl | rfl | rfl | rfl
   ·exact z1s
   ·exact cC (by omega) z1s
   ·exact cC (by omega) z1s
   ·exact cC (by omega) z1s
   ·exact cC (by omega) z1s
   ·exact aR lt1 (cO (cC (by omega) z1s))
   ·exact aR lt2 (cO (cC (by omega) z1s))
  rw [z0] at this;exact bJ _ this
 ·have hb':s1.heap.objs.size<=b:=by
   simp only [aJ,aZ,or_false] at hb;rcases hb with rfl | rfl | rfl | rfl | rfl | rfl
   ·exact cO (cC (by omega) z1s)
   ·exact dP _ _
   ·exact dP _ _
   ·exact dP _ _
   ·exact aF _
   ·exact dP _ _
  exact I1.fpOk hb' (I1.hok.fresh hb')
def ChAt (H:Hp) (xs ys:List V) (is:List Nat) (ts:List V):Prop:=Paired (λ (i:Nat) v=>∃ t x y,v=V.ref t/\xs[i]?=some x/\ys[i]?=some y/\H t=some (.tup [.int (i:Int),x,y])) is ts
theorem ChAt.same {H H':Hp} {xs ys:List V} {is:List Nat} {ts:List V} (h:ChAt H xs ys is ts) (e:∀ b zs,H b=some (.tup zs)->H' b=some (.tup zs)):ChAt H' xs ys is ts:=by
 induction h with
 | nil=>exact .nil
 | cons r _ ih =>
  obtain ⟨t,x,y,h1,h2,h3,h4⟩:=r;exact .cons ⟨t,x,y,h1,h2,h3,e _ _ h4⟩ ih
theorem ChAt.snoc {H:Hp} {xs ys:List V} {is:List Nat} {ts:List V} {i:Nat} {t:Addr} {x y:V} (h:ChAt H xs ys is ts) (h2:xs[i]?=some x) (h3:ys[i]?=some y) (h4:H t=some (.tup [.int (i:Int),x,y])):ChAt H xs ys (is++[i]) (ts++[.ref t]):=by
 induction h with
 | nil=>exact .cons ⟨t,x,y,rfl,h2,h3,h4⟩ .nil
 | cons r _ ih=>exact .cons r ih
section
variable {b1 b2:Bool} {xs ys:List V} {K:W.Frag} {l1 l2:Addr} {fr:List Nat} {tc:TT} {σ:St} {H1:Hp} {p:Addr} {D:Hp->Prop}
theorem b0U {n:Nat} {fr:List Nat} {σ:St} {i j k:Nat} {u v x:V} (hi:i<n) (hj:j<n) (hk:k<n):Wk (blkσ n fr σ) ((((blkσ n fr σ).set i (some v)).set j (some u)).set k (some x)):=by
 refine ⟨by simp,λ m w e=>?_⟩;have:¬ m<n:=λ hm=>by
  unfold blkσ at e;rw [bO (by simpa using hm),dL] at e
  split at e <;> cases e
 rw [bE (by omega),bE (by omega),bE (by omega)]; exact e
theorem b3Z (h1:SqB b1 K H1 l1 xs) (h2:SqB b2 K H1 l2 ys) (hp:H1 p=none) (hz:xs.length<sizeLine) (q:Nat->Bool)
  (step:∀ (i:Nat) x y H (N:Bool->Hp->Prop),xs[i]?=some x->ys[i]?=some y->Same H1 H->N (q i) H->tc ((((blkσ 3 fr σ).set 0 (some (.int (i:Int)))).set 1 (some x)).set 2 (some y)) H N)
  (hd:∀ ts H,Same H1 H->H p=some (.lst ts)->ChAt H xs ys ((aE (min xs.length ys.length)).filter q) ts->D H) :
  lcI 3 fr (a5x K 2 (W8 (J8 0) (W8 (a5x K 2 (W8 (J8 1) (W8 (J8 2) a7A))) a7A))) tc (a7H (a0i (a4t 0) (a0i (a4t 1) (a0i (a4t 2) a3y)))) σ (Itz b1 b2 K l1 l2) H1 p D:=by
 refine ⟨λ i m ts H=>m=min xs.length ys.length - i/\i<=min xs.length ys.length/\Same H1 H/\H p=some (.lst ts)/\ChAt H xs ys ((aE i).filter q) ts,⟨_,rfl,bR _,Same.new hp _,upd_same,.nil⟩,?_⟩;rintro i m ts H ⟨rfl,hi,e,hH,ch⟩
 by_cases hlt:i<min xs.length ys.length
 ·have hx:xs[i]?=some xs[i]:=aH (by omega)
  have hy:ys[i]?=some ys[i]:=aH (by omega);refine .inr ⟨⟨xs,ys,_,_,e.sqB h1,e.sqB h2,hx,hy⟩,λ u H' yl=>?_⟩;obtain ⟨pp,r,a,b,hr,hpp,rfl,rfl,hab⟩:=yl;obtain ⟨ha,hb⟩:=hab xs ys (e.sqB h1) (e.sqB h2);have s1:=Same.new hr (.tup [a,b]);have s2:=Same.new hpp (.tup [.int (i:Int),.ref r]);have s12:=s1.trans s2;have tk:(aE (i+1)).filter q=(aE i).filter q++[i].filter q:=by rw [fR,gQ]
  refine ⟨pp,_,rfl,SqT.of upd_same,rfl,_,_,rfl,_,_,rfl,⟨r,_,rfl,SqT.of (s2 _ _ upd_same),rfl,_,_,rfl,_,_,rfl,rfl,?_⟩⟩;refine ⟨rfl,b0U (by decide) (by decide) (by decide),step i a b _ _ ha hb (e.trans s12) ?_⟩;have h3:=s12 _ _ hH;have ch3:=ch.same λ b zs k=>s12 b _ k
  cases hq:q i with
  | false =>
   rw [if_neg bW];refine ⟨_,?_,rfl,hlt,e.trans s12,h3,?_⟩
   ·omega
   ·rw [tk]; simpa [hq] using ch3
  | true =>
   rw [if_pos rfl];have ln:ts.length=((aE i).filter q).length:=ch.length.symm;have l2':=gB q (aE i);rw [eD] at l2';refine ⟨.int (i:Int),?_,a,?_,b,?_,(by show 3<=sizeLine; decide),λ t ht=>?_⟩
   ·rw [bE (by omega),bE (by omega),bV (by simp [blkσ])]
   ·rw [bE (by omega),bV (by simp [blkσ])]
   ·rw [bV (by simp [blkσ])]
   have s3:=Same.new ht (.tup [.int (i:Int),a,b]);have h4:=s3 _ _ h3;refine ⟨h4,by omega,_,?_,rfl,hlt,((e.trans s12).trans s3).write hp,upd_same,?_⟩
   ·omega
   ·rw [tk]
    have ch4:=ch3.same λ b zs k=>s3 b _ k;have:=(ch4.snoc ha hb (upd_same (H:=r6 (r6 H r (.tup [a,b])) pp (.tup [.int (i:Int),.ref r])) (a:=t) (o:=.tup [.int (i:Int),a,b])));have fin:=this.same (H':=r6 (r6 (r6 (r6 H r (.tup [a,b])) pp (.tup [.int (i:Int),.ref r])) t (.tup [.int (i:Int),a,b])) p (.lst (ts++[.ref t]))) λ c zs k=>by rw [c9 (y9 k h4 nofun)]; exact k
    simpa [hq] using fin
 ·have:i=min xs.length ys.length:=by omega
  subst this;refine .inl ⟨⟨xs,ys,e.sqB h1,e.sqB h2,by omega⟩,hd ts H e hH ch⟩
end
abbrev TJ:=St->Hp->(Hp->Prop)->Prop
def PJ (X:Cx) (es:List Expr) (t:TJ):Prop :=
 ∀ (pins:List (Addr×Obj)) (s:Shared) (σ:St) (H:Hp) (out:Str) (Q:Hp->Prop),Inv X pins σ H s->out.length+2000*es.length<=100000->t σ H Q →
  wpAny (model X.prog X.w) X.A (joinParts out (evalEach es X.env)) (λ u s'=>∃ x tk H',u=Value.str x tk/\Inv X pins σ H' s'/\Q H') X.xe s
section
variable {X:Cx} {e:Expr} {es:List Expr} {te:TE} {t:TJ} {a:Str} {j:Nat} {p1 p2 p3:Pos}
theorem a9h:PJ X [] λ _ H Q=>Q H:=by
 intro pins s σ H out Q I hl h;refine joinParts_nilE (joinParts_nil ⟨_,_,H,rfl,I.tok _,h⟩ ?_);rw [sizeLine_eq];simp at hl;omega
theorem a2r (h:PJ X es t) (ha:a.length<=1000:=by decide):PJ X (.Constant (.str a) j p1::es) t:=by
 intro pins s σ H out Q I hl ht;refine joinParts_consE (joinParts_cons ?_);refine A8 (D8 pins s σ H (λ v H'=>v=.str a/\H'=H) I ⟨rfl,rfl⟩) λ u s1 ⟨v,H1,I1,r,hv,hH⟩=>?_;subst hv; subst hH;obtain ⟨tk,rfl⟩:=r;simp only [cY] at hl;have e0:(out++a).length=out.length+a.length:=strLen_append ..;exact ⟨by rw [e0,sizeLine_eq]; omega,h pins s1 σ H1 (out++a) Q I1 (by rw [e0]; omega) ht⟩
theorem a5O (he:PE X e te) (h:PJ X es t):PJ X (.FormattedValue e (-1) none p2::es) λ σ H Q=>te σ H λ v H1=>∃ i:Int,v=.int i/\i.natAbs.log2<1920/\t σ H1 Q:=by
 intro pins s σ H out Q I hl ht;refine joinParts_consE (joinParts_cons (FormattedValue_plain ?_));refine A8 (he pins s σ H _ I ht) λ u s2 ⟨v,H2,I2,r,i,hv,hi,q⟩=>?_;subst hv;obtain ⟨tk2,rfl⟩:=r;refine formatField_int_small hi ?_;simp only [cY] at hl;have h1:=int_text_length_le (a:=i) (k:=1920) (by decide) hi;have e0:(out++Str.ofString (toString i)).length=out.length+(toString i).length:=by rw [strLen_append,jO]
 have hle:(toString i).length<=2000:=by omega
 exact ⟨by rw [e0,sizeLine_eq]; omega,h pins _ σ H2 _ Q (I2.tok _) (by rw [e0]; omega) q⟩
def tFg (t:TJ):TE:=λ σ H Q=>t σ H λ H1=>∀ x,Q (.str x) H1
theorem a4T {v1 v2:Expr} (h:PJ X (v1::v2::es) t) (hl:es.length<=20:=by decide):PE X (.JoinedStr (v1::v2::es) p3) (tFg t):=by
 intro pins s σ H Q I ht;refine JoinedStr_many ?_;refine A8 (h pins s σ H Str.empty _ I ?_ ht) λ u s' ⟨x,tk,H',e1,I',q⟩=>?_
 ·show 0+2000*(es.length+1+1)<=100000
  omega
 ·subst e1
  exact ⟨.str x,H',I',⟨_,rfl⟩,q x⟩
end
end L2
namespace L2
open PySem
theorem a9C (K:W.Frag) {X:Cx} {k:Nat} (h:X.K=K) (hr:Room k X.A):OpR X (compareOp .NotEq) (b3u K):=by subst h; exact a2o hr
end L2
namespace Rim
open PySem L2 Fr
theorem C9 {α β:Type} {F:α->β->Prop}:∀ {l:List α} {l':List β} {i:Nat} {a:α},aN F l l'->l[i]?=some a->∃ b,l'[i]?=some b/\F a b
 | _,_,_,_,.nil,e=>by simp at e
 | _,_,0,_,.cons r _,e=>by simp at e; subst e; exact ⟨_,rfl,r⟩
 | _,_,i+1,x,.cons _ t,e=>by
  obtain ⟨b,h1,h2⟩:=C9 (i:=i) (a:=x) t (by simpa using e);exact ⟨b,by simpa using h1,h2⟩
def a3E (l:Int) (ns:List Int):Prop:=∀ x∈ns,l<=x/\x<=1000000000
def GoodK (h:j0) (m n:Int):Prop:=((h.1.length:Int)=m/\a3E 1 h.1)/\((h.2.length:Int)=n/\a3E 0 h.2)/\∃ x∈h.2,0<x
def V0 (h:j0):Prop:=h.1.length<=1000/\h.2.length<=1000
theorem GoodK.hg {h:j0} {kt kg:Nat} (g:GoodK h kt kg):HG (10 ^ 9) kt kg h:=⟨by have:=g.1.1; omega,by have:=g.2.1.1; omega,λ x hx=>⟨(g.1.2 x hx).1,(g.1.2 x hx).2⟩,λ x hx=>⟨(g.2.1.2 x hx).1,(g.2.1.2 x hx).2⟩,g.2.2⟩
section
variable {P:Program} {w:World} {K:W.Frag} {mg:Str->Option Value} {base:Heap} {f CN CB CT:Addr} {fd:FuncData} {n:Nat}
theorem a0u {X:Cx}:G2 X (.builtin "isinstance") (λ vs H Q=>∃ a xs n b,vs=[.ref a,.ty n]/\SqT X.K H a xs/\W.kitOne X.K (.type "tuple") (.type n)=some b/\Q (.bl b) H):=by
 intro pins s σ H vs us Q I r h;obtain ⟨a,xs,n,b,rfl,hs,e,q⟩:=h;obtain ⟨u,v,rfl,ru,rv⟩:=a2A r
 cases rv
 cases (show u=Value.ref a from ru);have hx:∃ o,s.heap.get? a=some o/\o.cls=.type "tuple":=by
  rcases hs with hs | ⟨o,its,n,h1,h2,_⟩
  ·obtain ⟨_,_,_,p⟩:=(show ObjOk X.prog X.w H s.heap a (.tup xs) from hs.ok I.hok)
   obtain ⟨o,h1,h2,_⟩:=p;exact ⟨o,h1,h2⟩
  ·exact ⟨o,I.kIn a o h1,h2⟩
 exact W.kia_one W.kitx_tuple I.kIn hx e (λ z=>nomatch z) λ tk=>⟨.bl b,H,I.tok _,rfl,q⟩
def a8l:Sp:=λ vs H Q _=>∃ i:Int,vs=[.int i]/\Q (.bl true) H
theorem b2G:m9 ["thing"] ["thing"] (i8 a0r):=⟨rfl,rfl,rfl,by decide +kernel,rfl,by decide +kernel,by decide +kernel⟩
theorem a9Y (F:Fun K "is_whole" "is_whole" a0r f fd) (T:x5 mg):FnOk P w K mg base E4 (n+1) f fd ["thing"] a8l:=by
 refine F.ok b2G (λ vs H Q E h=>?_) (λ cdv A outer s H vs Q E hr h=>?_)
 ·obtain ⟨i,rfl,_⟩:=h
  rfl
 obtain ⟨i,rfl,q⟩:=h;refine ⟨_,j3 (r9 (X0 (j6 V7 rfl T.isi dD (a0 (pv 0) (a0 (T0 (v:=.ty "int") rfl T.int fT rfl) e9)))
  (a0T (b2P (j6 V7 rfl T.isi dD (a0 (pv 0) (a0 (T0 (v:=.ty "bool") rfl T.bool mP rfl) e9))))))),?_⟩
 refine ⟨_,rfl,_,_,"int",true,rfl,.int i,M9 _,_,rfl,Q9 ?_⟩;exact ⟨_,rfl,_,_,"bool",false,rfl,.int i,a3G,_,rfl,q⟩
def a8s (K:W.Frag):Sp:=λ vs H Q _=>∃ (a:Addr) (ns:List Int) (m l:Int),vs=[.ref a,.int m,.int l]/\SqT K H a (ns.map V.int)/\ns.length<=1000 ∧
 ∀ (b:Bool) (H':Hp),Same H H'->(b=true ↔ ((ns.length:Int)=m/\a3E l ns))->Q (.bl b) H'
theorem b1N:m9 ["thing","many","least"] ["thing","many","least"] (i8 R3):=⟨rfl,rfl,rfl,by decide +kernel,rfl,by decide +kernel,by decide +kernel⟩
theorem b2J:(["amount","least"]:List Str).Nodup:=by decide +kernel
theorem a9o {N:VK} {b b':Bool} {H:Hp} (h:N (.bl b) H) (e:b'=b):N (.bl b') H:=by rw [e]; exact h
theorem b0o {g:Addr} {gd:FuncData} (F:Fun K "are_amounts" "are_amounts" R3 f fd) (T:x5 mg) (C:∃ t,mg "MOST_AMOUNT"=some (.int 1000000000 t)) (G:Cal P w K mg base n "is_whole" ["thing"] a8l g gd):FnOk P w K mg base E4 (n+1) f fd ["thing","many","least"] (a8s K):=by
 refine F.ok b1N (λ vs H Q E h=>?_) (λ cdv A outer s H vs Q E hr h=>?_)
 ·obtain ⟨a,ns,m,l,rfl,_⟩:=h
  rfl
 obtain ⟨a,ns,m,l,rfl,hS,hz,q⟩:=h;obtain ⟨tm,hma⟩:=C;refine ⟨_,i9 (A4 (PW.pt (a4A (U3 (U9 (j6 a0u rfl T.isi dD (a0 (pv 0) (a0 (T0 (v:=.ty "tuple") rfl T.tuple fG rfl) e9))))) (a2t (t9 a9B (j6 j7 rfl T.len bB (a0 (pv 0) e9)) (pv 1) (p6 _))))) (j3 (r9 a3h)) v8)
  (j3 (r9 (j6 (a9y rfl) rfl T.all mQ (a0
   (V2 ["amount"] [2] rfl (a1Z (pv 0)) (λ _ _ _ _=>j8 (i:=0) b2J rfl (aC rfl))
    (λ _ _ _ _=>X0 (o6 G.ok hr rfl G.m G.k G.b .nil w6 (a0 (pv 0) e9)) (a0T (a7W a4i a4i (pv 1) (pv 0) (K2 (v:=.int 1000000000) rfl hma ⟨_,rfl⟩))))) e9)))),?_⟩
 have hl:(ns.map V.int).length=ns.length:=aA _;refine ⟨_,rfl,a,_,"tuple",true,rfl,hS,M9 _,_,rfl,a0c ?_⟩;refine ⟨_,rfl,a,_,rfl,.inr hS,_,rfl,rfl,_,rfl,?_⟩;refine D0 (λ c=>?_) (λ c=>?_)
 ·refine q _ _ (Same.refl _) ?_
  have c':¬ (ns.length:Int)=m:=λ h=>by simp [h] at c
  simp [c']
 ·have c':(ns.length:Int)=m:=by simpa using c
  refine ⟨_,rfl,a,rfl,⟨_,hS⟩,λ p hp=>?_⟩;refine R6 (W7 hS) hp (by rw [hl]; exact m8 hz) (λ x=>.bl (decide (l<=vI x/\vI x<=1000000000))) (λ i x H' N hx e hN=>?_) ?_
  ·obtain ⟨k,rfl⟩:=L8 hx
   refine ⟨Wk.set (by decide),_,rfl,k,rfl,_,rfl,Q9 ?_⟩;refine ⟨_,rfl,_,rfl,_,_,rfl,rfl,_,rfl,?_⟩;refine D0 (λ c=>?_) (λ c=>?_)
   ·have c1:l<=k:=of_decide_eq_true c
    refine ⟨_,_,rfl,rfl,?_⟩;exact a9o hN (by simp [vI,c1])
   ·have c1:¬ l<=k:=of_decide_eq_false (eM.mpr c)
    exact a9o hN (by simp [vI,c1])
  ·refine ⟨p,ns.map (λ i=>decide (l<=i/\i<=1000000000)),rfl,.inl (SqL.of (by rw [upd_same,aQ,aQ]; rfl)),?_⟩
   refine q _ _ (Same.new hp _) ?_;rw [List.all_map,fY];constructor
   ·intro z
    exact ⟨c',λ x hx=>by simpa using z x hx⟩
   ·intro z x hx
    simpa using z.2 x hx
def a8A (K:W.Frag):Sp:=λ vs H Q _=>∃ (v:V) (h:j0) (m n:Int),vs=[v,.int m,.int n]/\HS K H v h/\V0 h ∧
 ∀ (b:Bool) (H':Hp),Same H H'->(b=true ↔ GoodK h m n)->Q (.bl b) H'
theorem scIsHK:m9 ["thing","many_takes","many_gives","takes","gives"] ["thing","many_takes","many_gives"] (i8 a0m):=⟨rfl,rfl,rfl,by decide +kernel,rfl,by decide +kernel,by decide +kernel⟩
theorem b2y:(["give"]:List Str).Nodup:=by decide +kernel
theorem b0a {g:Addr} {gd:FuncData} (F:Fun K "is_house" "is_house" a0m f fd) (T:x5 mg) (G:Cal P w K mg base n "are_amounts" ["thing","many","least"] (a8s K) g gd) :
  FnOk P w K mg base E4 (n+1) f fd ["thing","many_takes","many_gives"] (a8A K):=by
 refine F.ok scIsHK (λ vs H Q E h=>?_) (λ cdv A outer s H vs Q E hr h=>?_)
 ·obtain ⟨v,h,m,l,rfl,_⟩:=h
  rfl
 obtain ⟨v,h,m,l,rfl,⟨a,t,gv,rfl,h0,h1,h2⟩,⟨hz1,hz2⟩,q⟩:=h;refine ⟨_,i9 (A4 (PW.pt (a4A (U3 (U9 (j6 a0u rfl T.isi dD (a0 (pv 0) (a0 (T0 (v:=.ty "tuple") rfl T.tuple fG rfl) e9))))) (a2t (t9 a9B (j6 j7 rfl T.len bB (a0 (pv 0) e9)) h8 (p6 _))))) (j3 (r9 a3h)) v8)
  (i9 (G9 (pv 0) (T8 rfl (r8 (j8 (i:=3) scIsHK.nd rfl (aC rfl)) (r8 (j8 (i:=4) scIsHK.nd rfl (aC rfl)) C2))))
  (i9 (A4 (U3 (PW.pt (a3B (U9 (o6 G.ok hr rfl G.m G.k G.b .nil w6 (a0 (pv 3) (a0 (pv 1) (a0 h8 e9))))) (a1J (U9 (o6 G.ok hr rfl G.m G.k G.b .nil w6 (a0 (pv 4) (a0 (pv 2) (a0 h8 e9)))))))))
   (j3 (r9 a3h)) v8)
  (j3 (r9 (j6 (a9b rfl) rfl T.any mS (a0 (V2 ["give"] [] rfl (a1Z (pv 4)) (λ _ _ _ _=>j8 (i:=0) b2y rfl (aC rfl)) (λ _ _ _ _=>A9 a0D (pv 0) h8 (p6 _))) e9)))))),?_⟩
 refine ⟨_,rfl,a,_,"tuple",true,rfl,h0,M9 _,_,rfl,a0c ?_⟩;refine ⟨_,rfl,a,_,rfl,.inr h0,rfl,_,rfl,b3m rfl ?_⟩;refine ⟨_,rfl,a,_,rfl,h0,rfl,_,_,rfl,_,_,rfl,rfl,?_⟩;refine ⟨_,rfl,_,rfl,t,h.1,m,1,rfl,h1,hz1,λ b1 H1 e1 i1=>⟨_,rfl,?_⟩⟩;refine D0 (λ c1=>?_) (λ c1=>?_)
 ·refine ⟨_,rfl,_,rfl,gv,h.2,l,0,rfl,e1.tseq h2,hz2,λ b2 H2 e2 i2=>⟨_,rfl,?_⟩⟩
  refine D0 (λ c2=>?_) (λ c2=>?_)
  ·refine q _ _ (e1.trans e2) ?_
   have:¬ b2=true:=by simpa using c2
   constructor
   ·intro z; cases z
   ·intro z; exact absurd (i2.mpr z.2.1) this
  ·have c2':b2=true:=by simpa using c2
   have e12:=e1.trans e2;have hl:(h.2.map V.int).length=h.2.length:=aA _;refine ⟨_,rfl,gv,rfl,⟨_,e12.tseq h2⟩,λ p hp=>?_⟩;refine R6 (W7 (e12.tseq h2)) hp (by rw [hl]; exact m8 hz2) (λ x=>.bl (decide (0<vI x))) (λ i x H' N hx e hN=>?_) ?_
   ·obtain ⟨k,rfl⟩:=L8 hx
    exact ⟨Wk.set (by decide),_,rfl,_,_,rfl,rfl,hN⟩
   ·refine ⟨p,h.2.map (λ i=>decide (0<i)),rfl,.inl (SqL.of (by rw [upd_same,aQ,aQ]; rfl)),?_⟩
    refine q _ _ (e12.trans (Same.new hp _)) ?_;rw [List.any_map,iG];constructor
    ·rintro ⟨x,hx,z⟩
     exact ⟨i1.mp c1,i2.mp c2',x,hx,by simpa using z⟩
    ·rintro ⟨_,_,x,hx,z⟩
     exact ⟨x,hx,by simpa using z⟩
 ·refine Q9 ?_
  refine q _ _ e1 ?_;constructor
  ·intro z; cases z
  ·intro z; exact absurd (i1.mpr z.1) c1
def a4b (K:W.Frag) (CB:Addr):Sp:=λ vs H Q E=>∃ (v:V) (h:j0) (m n:Int),vs=[v,.int m,.int n]/\HS K H v h/\V0 h/\m.natAbs.log2<1920/\n.natAbs.log2<1920 ∧
 (GoodK h m n->∀ H',Same H H'->Q .non H')/\(¬ GoodK h m n->∀ H',Same H H'->E (.ref CB) none H')
theorem a8z:m9 ["thing","many_takes","many_gives"] ["thing","many_takes","many_gives"] (i8 P0):=⟨rfl,rfl,rfl,by decide +kernel,rfl,by decide +kernel,by decide +kernel⟩
theorem a7Q {g:Addr} {gd:FuncData} (F:Fun K "refuse_unfit" "refuse_unfit" P0 f fd) (kB:V5 K CB) (mB:mg "NoBook"=some (.ref CB)) (G:Cal P w K mg base n "is_house" ["thing","many_takes","many_gives"] (a8A K) g gd) :
  FnOk P w K mg base (CX1 P w) (n+1) f fd ["thing","many_takes","many_gives"] (a4b K CB):=by
 refine F.ok1 a8z (λ vs H Q E h=>?_) (λ cdv A outer s H vs Q E hr h=>?_)
 ·obtain ⟨v,h,m,l,rfl,_⟩:=h
  rfl
 obtain ⟨v,h,m,l,rfl,hH,hz,hm,hl,q,hE⟩:=h;refine ⟨_,j3 (A4 (U3 (U9 (o6 G.ok hr rfl G.m G.k G.b .nil w6 (a0 (pv 0) (a0 (pv 1) (a0 (pv 2) e9)))))) (j3 (a2z kB rfl mB hr.hd (a0 (a4T (a2r (a5O (pv 1) (a2r (a5O (pv 2) (a2r a9h)))))) e9))) v8),?_⟩;refine ⟨_,rfl,_,rfl,_,rfl,v,h,m,l,rfl,hH,hz,λ b H1 e1 i1=>⟨_,rfl,?_⟩⟩
 cases b with
 | true=>exact a0c (q (i1.mp rfl) H1 e1)
 | false =>
  refine Q9 ?_;exact ⟨_,rfl,m,rfl,hm,_,rfl,l,rfl,hl,λ x=>⟨(by show 1<=1000; decide),hE (λ z=>by have:=i1.mpr z; cases this) H1 e1⟩⟩
def a3i (K:W.Frag) (CB CT:Addr):Sp:=λ vs H Q E=>∃ (l:Addr) (v:V) (xs:List V) (h:j0) (m n:Int),vs=[.ref l,v,.int m,.int n]/\H l=some (.lst xs)/\xs.length<=1000/\HS K H v h/\V0 h/\m.natAbs.log2<1920/\n.natAbs.log2<1920 ∧
 (GoodK h m n->xs.length<16->∀ (r:Addr) (H':Hp),Same H H'->H r=none->H' r=some (.lst (xs++[v]))->Q (.ref r) H')/\(¬ GoodK h m n->∀ H',Same H H'->E (.ref CB) none H')/\(GoodK h m n->16<=xs.length->∀ H',Same H H'->E (.ref CT) none H')
theorem a7B:m9 ["houses","house","many_takes","many_gives"] ["houses","house","many_takes","many_gives"] (i8 N1):=⟨rfl,rfl,rfl,by decide +kernel,rfl,by decide +kernel,by decide +kernel⟩
theorem a5j {g:Addr} {gd:FuncData} (F:Fun K "with_one_more" "with_one_more" N1 f fd) (T:x5 mg) (kT:V5 K CT) (mT:mg "TooMany"=some (.ref CT)) (C:∃ t,mg "MOST_HOUSES"=some (.int 16 t))
  (G:a1Y P w K mg base n "refuse_unfit" ["thing","many_takes","many_gives"] (a4b K CB) g gd):FnOk P w K mg base (CX1 P w) (n+1) f fd ["houses","house","many_takes","many_gives"] (a3i K CB CT):=by
 refine F.ok1 a7B (λ vs H Q E h=>?_) (λ cdv A outer s H vs Q E hr h=>?_)
 ·obtain ⟨l,v,xs,h,m,n,rfl,_⟩:=h
  rfl
 obtain ⟨l,v,xs,h,m,k,rfl,hl,hz,hH,hs,hm,hk,q,hB,hT⟩:=h;obtain ⟨tm,hmh⟩:=C;refine ⟨_,i9 (D3 (o6 G.ok hr rfl G.m G.k G.b .nil a2V (a0 (pv 1) (a0 (pv 2) (a0 (pv 3) e9)))))
  (i9 (A4 (t9 a8n (j6 j7 rfl T.len bB (a0 (pv 0) e9)) (K2 (v:=.int 16) rfl hmh ⟨_,rfl⟩) (p6 _)) (j3 (a2z kT rfl mT hr.hd (a0 (a4T (a2r (a5O (K2 (v:=.int 16) rfl hmh ⟨_,rfl⟩) (a2r a9h)))) e9))) v8)
  (PSs.nox (j3 (r9 (j4 C5 (pv 0) (u9 (a0 (pv 1) e9))))))),?_⟩
 refine ⟨_,rfl,_,rfl,_,rfl,v,h,m,k,rfl,hH,hs,hm,hk,λ g1 H1 e1=>?_,hB⟩;refine ⟨_,rfl,l,xs,rfl,.inl (SqL.of (e1 _ _ hl)),_,_,rfl,rfl,_,rfl,?_⟩;refine D0 (λ c=>?_) (λ c=>?_)
 ·have c':16<=xs.length:=by have:=of_decide_eq_true c; omega
  exact ⟨16,rfl,by decide,λ x=>⟨(by show 1<=1000; decide),hT g1 c' H1 e1⟩⟩
 ·have c':xs.length<16:=by have:=of_decide_eq_false (eM.mpr c); omega
  refine ⟨_,rfl,_,rfl,(by show 1<=sizeLine; decide),λ b1 hb1=>?_⟩;have s2:=Same.new hb1 (.lst [v]);refine ⟨l,b1,_,_,rfl,rfl,s2 _ _ (e1 _ _ hl),upd_same,?_,λ p hp=>?_⟩
  ·have:=m8 (show (1000:Nat)<=1000 from aF _)
   simp; omega
  have s3:=Same.new hp (.lst (xs++[v]));refine q g1 c' p _ (e1.trans (s2.trans s3)) ?_ upd_same;exact (e1.trans s2).free hp
theorem b3U:m9 ["ahead","behind"] ["ahead","behind"] (i8 a1a):=⟨rfl,rfl,rfl,by decide +kernel,rfl,by decide +kernel,by decide +kernel⟩
theorem a8B:(["number","was","now"]:List Str).Nodup:=by decide +kernel
abbrev FrL (K:W.Frag) (H:Hp):List V->List Q2->Prop:=aN λ v q=>FrV K H v q
def chI (ps qs:List Q2):List Nat:=(aE (min ps.length qs.length)).filter λ i=>decide (ps.getD i (0,0)≠qs.getD i (0,0))
def a9G (K:W.Frag):Sp:=λ vs H Q _=>∃ (l1 l2:Addr) (xs ys:List V) (ps qs:List Q2),vs=[.ref l1,.ref l2]/\SqL K H l1 xs/\SqL K H l2 ys/\FrL K H xs ps/\FrL K H ys qs/\xs.length<=1000 ∧
 ∀ (l:Addr) (ts:List V) (H':Hp),Same H H'->H l=none->H' l=some (.lst ts)->ChAt H' xs ys (chI ps qs) ts->Q (.ref l) H'
theorem a7X (x y:Q2):PyData.eqv (dF x) (dF y)=decide (x=y):=by
 unfold dF;rw [PyData.eqv,PyData.eqvAll,PyData.eqvAll,PyData.eqvAll,PyData.eqv,PyData.eqv,Bool.and_true];obtain ⟨a,b⟩:=x;obtain ⟨c,d⟩:=y
 by_cases h1:a=c
 ·by_cases h2:b=d
  ·subst h1 h2; simp
  ·simp [h1,h2]
 ·simp [h1]
theorem a5u (F:Fun K "changes" "changes" a1a f fd) (T:x5 mg):FnOk P w K mg base E4 (n+1) f fd ["ahead","behind"] (a9G K):=by
 refine F.ok b3U (λ vs H Q E h=>?_) (λ cdv A outer s H vs Q E hr h=>?_)
 ·obtain ⟨l1,l2,xs,ys,ps,qs,rfl,_⟩:=h
  rfl
 obtain ⟨l1,l2,xs,ys,ps,qs,rfl,h1,h2,f1,f2,hz,q⟩:=h;refine ⟨_,j3 (r9 (a5B ["number","was","now"] [] rfl (b4a true true K rfl rfl T.enum rfl T.zip (a0 (pv 0) (a0 (pv 1) e9)))
   (λ _ _ _ _=>T4 K (n:=2) rfl rfl (r8 (j8 (i:=0) a8B rfl (aC rfl)) (r8 (T4 K (n:=2) rfl rfl (r8 (j8 (i:=1) a8B rfl (aC rfl)) (r8 (j8 (i:=2) a8B rfl (aC rfl)) C2))) C2)))
   (λ _ _ _ _=>t9 (a9C K rfl hr) (pv 1) (pv 2) (p6 _)) (λ _ _ _ _=>D4 (a0 (pv 0) (a0 (pv 1) (a0 (pv 2) e9)))))),?_⟩
 have lp:xs.length=ps.length:=f1.length;have lq:ys.length=qs.length:=f2.length;refine ⟨_,rfl,_,rfl,l1,l2,rfl,⟨_,h1⟩,⟨_,h2⟩,λ p hp=>?_⟩;refine b3Z (b1:=true) (b2:=true) h1 h2 hp (m8 hz) (λ i=>decide (ps.getD i (0,0)≠qs.getD i (0,0))) (λ i x y H' N hx hy e hN=>?_) (λ ts H' e hp' ch=>?_)
 ·obtain ⟨pq,e1,r1⟩:=C9 f1 hx
  obtain ⟨qq,e2,r2⟩:=C9 f2 hy;have g1:ps.getD i (0,0)=pq:=by rw [aI,e1]; rfl
  have g2:qs.getD i (0,0)=qq:=by rw [aI,e2]; rfl
  rw [g1,g2] at hN;refine ⟨_,rfl,_,rfl,dF pq,dF qq,FrV.dp (FrV.same e r1),FrV.dp (FrV.same e r2),X2 _,X2 _,aW (dU _ _) (a8u _),_,rfl,?_⟩;rw [a7X];have:(!decide (pq=qq))=decide (pq≠qq):=by simp
  rw [this];exact hN
 ·rw [lp,lq] at ch
  exact q p ts H' e hp hp' ch
end
end Rim
namespace L2
open PySem PySem.Spec PyProof.Rows
end L2
namespace Rim
open PySem L2 Fr
end Rim
namespace L2
open PySem
def a6V (o:Option HO):Prop:=∀ u,o=some u->(∀ zs,u≠.tup zs)/\∀ a b,u≠.frz a b
structure Fr0 (X:Addr->Prop) (H H':Hp):Prop where
 k:∀ b o,¬ X b->H b=some o->H' b=some o
 m:∀ x,X x->a6V (H x)
section
variable {X:Addr->Prop} {H H':Hp} {K:W.Frag} {a:Addr} {xs:List V}
theorem Fr0.tup (e:Fr0 X H H') (h:H a=some (.tup xs)):H' a=some (.tup xs):=e.k a _ (λ x=>(e.m a x _ h).1 xs rfl) h
theorem Fr0.seqT (e:Fr0 X H H') (h:SqT K H a xs):SqT K H' a xs:=by
 rcases h with (h | ⟨o,h⟩) | h
 ·exact .inl (.inl (e.tup h))
 ·exact .inl (.inr ⟨o,e.k a _ (λ x=>(e.m a x _ h).2 _ _ rfl) h⟩)
 ·exact .inr h
theorem x4 {o:Option HO} {xs:List V} (h:o=some (.lst xs)):a6V o:=λ u e=>by
 rw [h] at e;obtain rfl:=aL e;exact ⟨λ zs z=>HO.noConfusion z,λ a b z=>HO.noConfusion z⟩
theorem L9 {o:Option HO} {C dx:Addr} {fs:List (Str×V)} (h:o=some (.ins C dx fs)):a6V o:=λ u e=>by
 rw [h] at e;obtain rfl:=aL e;exact ⟨λ zs z=>HO.noConfusion z,λ a b z=>HO.noConfusion z⟩
theorem L6 {P:Addr} {pos:Pos} {qual:Str} {H:Hp} (T:LamTab P pos qual H):a6V (H P):=λ u e=>by
 rcases T with t | ⟨c,t,_⟩ <;> (rw [t] at e; obtain rfl:=aL e; exact ⟨λ zs z=>HO.noConfusion z,λ a b z=>HO.noConfusion z⟩)
end
end L2
namespace Rim
open PySem L2 Fr
theorem HS.fr0 {X:Addr->Prop} {K:W.Frag} {H H':Hp} {v:V} {h:j0} (e:Fr0 X H H') (x:HS K H v h):HS K H' v h:=by
 obtain ⟨a,t,g,h0,h1,h2,h3⟩:=x;exact ⟨a,t,g,h0,e.seqT h1,e.seqT h2,e.seqT h3⟩
theorem Bk.fr0 {X:Addr->Prop} {K:W.Frag} {H H':Hp} {vs:List V} {hs:List j0} (e:Fr0 X H H') (x:Bk K H vs hs):Bk K H' vs hs:=Paired.imp' (λ _ _ r=>HS.fr0 e r) x
theorem FrT.fr0 {X:Addr->Prop} {H H':Hp} {v:V} {q:Q2} (e:Fr0 X H H') (x:FrT H v q):FrT H' v q:=by
 obtain ⟨a,rfl,h⟩:=x;exact ⟨a,rfl,e.tup h⟩
abbrev KFs (kt kg:Nat) (z:Str) (ta wa pa:Addr):List (Str×V):=[("many_takes",.int (kt:Int)),("many_gives",.int (kg:Int)),("sizes",.str z),("there",.ref ta),("worth",.ref wa),("past",.ref pa)]
structure TK (K:W.Frag) (C:Addr):Prop where
 cl:Cls K C
 nT:NoAttr K C "many_takes"
 nG:NoAttr K C "many_gives"
 nS:NoAttr K C "sizes"
 nH:NoAttr K C "there"
 nW:NoAttr K C "worth"
 nP:NoAttr K C "past"
abbrev Lev:=List j0×List Q2
def LevAt (K:W.Frag) (H:Hp) (lo:List Addr) (ta wa:Addr) (L:Lev):Prop:=ta∈lo/\wa∈lo/\(∃ xs,H ta=some (.lst xs)/\Bk K H xs L.1)/\∃ ys,H wa=some (.lst ys)/\aN (FrT H) ys L.2
def PastAt (K:W.Frag) (H:Hp) (lo:List Addr):List V->List Lev->Prop:=aN λ v L=>∃ t ta wa,v=.ref t/\H t=some (.tup [.ref ta,.ref wa])/\LevAt K H lo ta wa L
structure KpAt (K:W.Frag) (C:Addr) (H:Hp) (p:Addr) (kt kg:Nat) (z:Str) (L:Lev) (past:List Lev) (pa:Addr) (lo:List Addr):Prop where
 no:pa ∉ lo
 ls:∀ b∈lo,∃ xs,H b=some (.lst xs)
 ex:∃ dx ta wa pv,H p=some (.ins C dx (KFs kt kg z ta wa pa))/\LevAt K H lo ta wa L/\H pa=some (.lst pv)/\PastAt K H lo pv past
theorem LevAt.fr0 {X:Addr->Prop} {K:W.Frag} {H H':Hp} {lo lo':List Addr} {ta wa:Addr} {L:Lev} (e:Fr0 X H H') (n:∀ b∈lo,¬ X b) (s:∀ b∈lo,b∈lo') (h:LevAt K H lo ta wa L):LevAt K H' lo' ta wa L:=by
 obtain ⟨h1,h2,⟨xs,h3,h4⟩,ys,h5,h6⟩:=h;exact ⟨s _ h1,s _ h2,⟨xs,e.k _ _ (n _ h1) h3,h4.fr0 e⟩,ys,e.k _ _ (n _ h2) h5,Paired.imp' (λ _ _ r=>FrT.fr0 e r) h6⟩
theorem PastAt.fr0 {X:Addr->Prop} {K:W.Frag} {H H':Hp} {lo lo':List Addr} {pv:List V} {past:List Lev} (e:Fr0 X H H') (n:∀ b∈lo,¬ X b) (s:∀ b∈lo,b∈lo') (h:PastAt K H lo pv past):PastAt K H' lo' pv past :=
 Paired.imp' (λ _ _ ⟨t,ta,wa,h1,h2,h3⟩=>⟨t,ta,wa,h1,e.tup h2,h3.fr0 e n s⟩) h
theorem KpAt.fr0 {X:Addr->Prop} {K:W.Frag} {C:Addr} {H H':Hp} {p:Addr} {kt kg:Nat} {z:Str} {L:Lev} {past:List Lev} {pa:Addr} {lo:List Addr} (e:Fr0 X H H') (n:∀ b∈lo,¬ X b) (np:¬ X p) (na:¬ X pa) (h:KpAt K C H p kt kg z L past pa lo):KpAt K C H' p kt kg z L past pa lo:=by
 obtain ⟨dx,ta,wa,pv,h1,h2,h3,h4⟩:=h.ex;exact ⟨h.no,λ b hb=>by obtain ⟨xs,q⟩:=h.ls b hb; exact ⟨xs,e.k _ _ (n b hb) q⟩,dx,ta,wa,pv,e.k _ _ np h1,h2.fr0 e n (λ _ h=>h),e.k _ _ na h3,h4.fr0 e n (λ _ h=>h)⟩
theorem KpAt.same {K:W.Frag} {C:Addr} {H H':Hp} {p:Addr} {kt kg:Nat} {z:Str} {L:Lev} {past:List Lev} {pa:Addr} {lo:List Addr} (e:Same H H') (h:KpAt K C H p kt kg z L past pa lo):KpAt K C H' p kt kg z L past pa lo :=
 h.fr0 (X:=λ _=>False) ⟨λ b o _ q=>e b o q,λ _ x=>x.elim⟩ (λ _ _ x=>x) (λ x=>x) λ x=>x
def Shs (z:Str) (hs:List j0) (kt kg:Nat) (qs:List Q2):Prop:=qs.length=hs.length/\∀ (i:Nat) (h:j0) (q:Q2),hs[i]?=some h->qs[i]?=some q->∃ A B,ShU z hs h kt kg A B/\q=low A B
section
variable {P:Program} {w:World} {K:W.Frag} {mg:Str->Option Value} {base:Heap} {f C CN CB CT CL Pt:Addr} {fd:FuncData} {n:Nat}
def a3Z (K:W.Frag) (C:Addr):Sp:=λ vs H Q _=>∃ (p dx:Addr) (kt kg:Nat) (z:Str),vs=[.ref p,.int (kt:Int),.int (kg:Int),.str z]/\H p=some (.ins C dx []) ∧
 ∀ (H':Hp) (pa:Addr) (lo:List Addr),KpAt K C H' p kt kg z ([],[]) [] pa lo->(∀ b o,b≠p->H b=some o->H' b=some o)->H pa=none->(∀ b∈lo,H b=none)->Q .non H'
theorem b0m:m9 ["self","takes","gives","sizes"] ["self","takes","gives","sizes"] (i8 N0):=⟨rfl,rfl,rfl,by decide +kernel,rfl,by decide +kernel,by decide +kernel⟩
theorem a9l (F:Fun K "__init__" "Kept.__init__" N0 f fd) (T:TK K C):FnOk P w K mg base E4 (n+1) f fd ["self","takes","gives","sizes"] (a3Z K C):=by
 refine F.ok b0m (λ vs H Q E h=>?_) (λ cdv A outer s H vs Q E hr h=>?_)
 ·obtain ⟨p,dx,kt,kg,z,rfl,_⟩:=h
  rfl
 obtain ⟨p,dx,kt,kg,z,rfl,hp,q⟩:=h;refine ⟨_,i9 (G7 (pv 0) (pv 1) rfl) (i9 (G7 (pv 0) (pv 2) rfl) (i9 (G7 (pv 0) (pv 3) rfl) (i9 (G7 (pv 0) (u9 e9) rfl) (i9 (G7 (pv 0) (u9 e9) rfl) (j3 (G7 (pv 0) (u9 e9) rfl)))))),?_⟩;refine ⟨_,rfl,_,rfl,p,C,dx,_,rfl,hp,T.cl,T.nT,(by show 0<1000; decide),?_⟩;refine ⟨_,rfl,_,rfl,p,C,dx,_,rfl,upd_same,T.cl,T.nG,(by show 1<1000; decide),?_⟩;rw [T7];refine ⟨_,rfl,_,rfl,p,C,dx,_,rfl,upd_same,T.cl,T.nS,(by show 2<1000; decide),?_⟩;rw [T7];refine ⟨(by show 0<=sizeLine; decide),λ ta hta=>?_⟩;have n1:p≠ta:=d7 upd_same hta;refine ⟨_,rfl,p,C,dx,_,rfl,by rw [c9 n1]; exact upd_same,T.cl,T.nH,(by show 3<1000; decide),?_⟩;refine ⟨(by show 0<=sizeLine; decide),λ wa hwa=>?_⟩;have n2:p≠wa:=d7 upd_same hwa;refine ⟨_,rfl,p,C,dx,_,rfl,by rw [c9 n2]; exact upd_same,T.cl,T.nW,(by show 4<1000; decide),?_⟩;refine ⟨(by show 0<=sizeLine; decide),λ pa hpa=>?_⟩;have n3:p≠pa:=d7 upd_same hpa;refine ⟨_,rfl,p,C,dx,_,rfl,by rw [c9 n3]; exact upd_same,T.cl,T.nP,(by show 5<1000; decide),?_⟩;have w1:wa≠ta:=λ z0=>by
  subst z0;rw [c9 n2.symm,upd_same] at hwa; cases hwa
 have w2:pa≠wa:=λ z0=>by
  subst z0;rw [c9 n3.symm,upd_same] at hpa; cases hpa
 have w3:pa≠ta:=λ z0=>by
  subst z0;rw [c9 n3.symm,c9 w1.symm,c9 n3.symm,upd_same] at hpa; cases hpa
 have f1:H ta=none:=by rw [c9 n1.symm] at hta; exact hta
 have f2:H wa=none:=by rw [c9 n2.symm,c9 w1,c9 n2.symm] at hwa; exact hwa
 have f3:H pa=none:=by rw [c9 n3.symm,c9 w2,c9 n3.symm,c9 w3,c9 n3.symm] at hpa; exact hpa
 refine q _ pa [ta,wa] ⟨?_,λ b hb=>?_,dx,ta,wa,[],upd_same,⟨.head _,.tail _ (.head _),⟨[],?_,.nil⟩,[],?_,.nil⟩,?_,.nil⟩ (λ b o hb e=>?_) f3 λ b hb=>?_
 ·intro hb
  rcases aJ.mp hb with z0 | hb
  ·exact w3 z0
  ·exact w2 (bF.mp hb)
 ·rcases aJ.mp hb with rfl | hb
  ·exact ⟨[],by rw [c9 n1.symm,c9 w3.symm,c9 n1.symm,c9 w1.symm,c9 n1.symm,upd_same]⟩
  ·rw [bF.mp hb]
   exact ⟨[],by rw [c9 n2.symm,c9 w2.symm,c9 n2.symm,upd_same]⟩
 ·rw [c9 n1.symm,c9 w3.symm,c9 n1.symm,c9 w1.symm,c9 n1.symm,upd_same]
 ·rw [c9 n2.symm,c9 w2.symm,c9 n2.symm,upd_same]
 ·rw [c9 n3.symm,upd_same]
 ·rw [c9 hb,c9 (d7 e f3),c9 hb,c9 (d7 e f2),c9 hb,c9 (d7 e f1),c9 hb]; exact e
 ·rcases aJ.mp hb with rfl | hb
  ·exact f1
  ·rw [bF.mp hb]; exact f2
def Left (Pt p pa:Addr) (H H':Hp):Prop:=∀ b o,b≠p->b≠Pt->b≠pa->H b=some o->H' b=some o
structure Fit (z:Str) (kt kg:Nat):Prop where
 z:Szw z
 t1:1<=kt
 t4:kt<=4
 g4:kg<=4
def a3r (K:W.Frag) (C Pt:Addr):Sp:=λ vs H Q _=>∃ (p ha pa:Addr) (kt kg:Nat) (z:Str) (L:Lev) (past:List Lev) (lo:List Addr) (xs:List V) (hs:List j0),vs=[.ref p,.ref ha]/\KpAt K C H p kt kg z L past pa lo/\Fit z kt kg/\H ha=some (.lst xs)/\Bk K H xs hs/\(∀ g∈hs,HG (10 ^ 9) kt kg g)/\hs.length<=16 ∧
 ha≠pa/\past.length<=1000/\LT Pt H ∧
 ∀ (H':Hp) (wa:Addr) (qs:List Q2),KpAt K C H' p kt kg z (hs,qs) (past++[L]) pa (ha::wa::lo)->Shs z hs kt kg qs->H wa=none->Left Pt p pa H H'->LT Pt H'->Q .non H'
theorem scTurnK:m9 ["self","houses","worth"] ["self","houses"] (i8 C7):=⟨rfl,rfl,rfl,by decide +kernel,rfl,by decide +kernel,by decide +kernel⟩
theorem b0v:(["number","self","houses"]:List Str).Nodup:=by decide +kernel
noncomputable def b4f {cdv:Value} {A:Around} {outer:List Env} {s:Shared} {H:Hp} {E:XK} {f1:Addr} {d1:FuncData} (T:x5 mg) (Cs:a1Y P w K mg base n "share" ["book","number","sizes"] (P6 K CN Pt) f1 d1) (hr:Room n (A.deeper (dC "Kept.turn_to" (i8 C7) s.heap.objs.size f cdv))) :
  { t:TS // PSs (K1 E4 P w K mg base ["self","houses","worth"] "Kept.turn_to" (i8 C7) f cdv A outer s H E).nox (w4 C7) t } :=
 ⟨_,p7 (V9 (i:=2) ["number"] [0,1] scTurnK.nd rfl rfl rfl (A3 rfl T.range (a0 (j6 j7 rfl T.len bB (a0 (pv 1) e9)) e9)) (λ _ _ _ _=>j8 (i:=0) b0v rfl (aC rfl))
   (λ _ _ _ _=>o6 (S7 Cs.ok) hr rfl Cs.m Cs.k Cs.b .nil a1b (a0 (pv 2) (a0 (pv 0) (a0 (a1K K rfl (pv 1) rfl) e9)))))
  (i9 (D3 (a0L eE fE fF J4 (t7 (pv 0) rfl) (a0 (D4 (a0 (t7 (pv 0) rfl) (a0 (t7 (pv 0) rfl) e9))) e9)))
  (i9 (G7 (pv 0) (pv 1) rfl)
  (j3 (G7 (pv 0) (pv 2) rfl))))⟩
end
end Rim
namespace L2
open PySem
theorem LamTab.ne {P:Addr} {pos:Pos} {qual:Str} {H:Hp} {b:Addr} {o:HO} (T:LamTab P pos qual H) (h:H b=some o) (n:∀ ps,o≠.tbl ps):b≠P:=λ z=>by
 subst z;rcases T with t | ⟨c,t,_⟩
 ·rw [h] at t; exact n _ (aL t)
 ·rw [h] at t; exact n _ (aL t)
section
variable {fr:List Nat} {te:TE} {σ:St} {H1:Hp} {p:Addr} {D:Hp->Prop} {P:Addr} {pos:Pos} {qual:Str} {n:Nat}
theorem a6A (T:LamTab P pos qual H1) (hp:H1 p=none) (hz:n<sizeLine) (R:Nat->V->Hp->Prop)
  (hR:∀ i y H H',LamTab P pos qual H->(∃ zs,H p=some (.lst zs))->R i y H->(∀ b o,b≠p->b≠P->H b=some o->H' b=some o)->R i y H')
  (step:∀ (i:Nat) H ys (N:VK),i<n->Same1 P H1 H->LamTab P pos qual H->H p=some (.lst ys)->(∀ v H3,Same1 P H H3->LamTab P pos qual H3->R i v H3->N v H3)->te ((blkσ 1 fr σ).set 0 (some (.int (i:Int)))) H N)
  (hd:∀ ys H,Same1 P H1 H->LamTab P pos qual H->H p=some (.lst ys)->ys.length=n->(∀ i y,ys[i]?=some y->R i y H)->D H):lcW 1 fr (J8 0) te σ (Itr 0 n) H1 p D:=by
 refine ⟨λ i m ys H=>m=n - i/\i<=n/\Same1 P H1 H/\LamTab P pos qual H/\H p=some (.lst ys)/\ys.length=i/\∀ j y,ys[j]?=some y->R j y H,⟨n,by simp,bR _,(Same.new hp _).to1,T.same (Same.new hp _),upd_same,rfl,λ j y e=>by simp at e⟩,?_⟩;rintro i m ys H ⟨rfl,hi,e,L,hH,len,pr⟩
 by_cases hlt:i<n
 ·refine .inr ⟨hlt,λ x H' y=>?_⟩
  obtain ⟨rfl,rfl⟩:=y;rw [eO];refine ⟨Wk.set (by decide),step i _ _ _ hlt e L hH λ v H3 e3 L3 r3=>?_⟩;have h3:=e3.get L hH nofun;refine ⟨h3,by omega,n - (i+1),by omega,rfl,hlt,(e.trans e3).write hp,L3.write h3,upd_same,by rw [aM,len]; rfl,λ j y ey=>?_⟩;have up:∀ b o,b≠p->b≠P->H3 b=some o->r6 H3 p (.lst (ys++[v])) b=some o:=λ b o hb _ q=>by rw [c9 hb]; exact q
  by_cases hj:j<ys.length
  ·rw [bO hj] at ey
   exact hR j y _ _ L ⟨_,hH⟩ (pr j y ey) λ b o hb hP q=>up b o hb hP (e3 _ _ hP q)
  ·rw [bZ (by omega)] at ey
   have hj':j - ys.length=0:=by
    cases q:j - ys.length with
    | zero=>rfl
    | succ k=>rw [q] at ey; simp at ey
   rw [hj'] at ey;have:j=i:=by omega
   subst this;simp at ey;subst ey;exact hR j v _ _ L3 ⟨_,h3⟩ r3 up
 ·have:i=n:=by omega
  subst this;exact .inl ⟨Nat.le_refl _,hd ys H e L hH len pr⟩
end
end L2
namespace Rim
open PySem L2 Fr
section
variable {P:Program} {w:World} {K:W.Frag} {mg:Str->Option Value} {base:Heap} {f C CN CB CT CL Pt:Addr} {fd:FuncData} {n:Nat}
theorem a8t {H:Hp} {ys:List V} {R:Nat->Q2->Prop}:(∀ (i:Nat) y,ys[i]?=some y->∃ q,R i q/\FrT H y q)->∃ qs:List Q2,aN (FrT H) ys qs/\∀ (i:Nat) q,qs[i]?=some q->R i q:=by
 induction ys generalizing R with
 | nil=>exact λ _=>⟨[],.nil,λ i q e=>by simp at e⟩
 | cons y ys ih =>
  intro h;obtain ⟨q,r,hq⟩:=h 0 y rfl;obtain ⟨qs,p,k⟩:=ih (R:=λ i q=>R (i+1) q) λ i z e=>h (i+1) z (by simpa using e);refine ⟨q::qs,.cons hq p,λ i q' e=>?_⟩
  cases i with
  | zero=>simp at e; subst e; exact r
  | succ i=>exact k i q' (by simpa using e)
theorem a8g {f1:Addr} {d1:FuncData} (F:Fun K "turn_to" "Kept.turn_to" C7 f fd) (T:x5 mg) (TKd:TK K C) (Cs:a1Y P w K mg base n "share" ["book","number","sizes"] (P6 K CN Pt) f1 d1) :
  FnOk P w K mg base E4 (n+1) f fd ["self","houses"] (a3r K C Pt):=by
 refine F.ok scTurnK (λ vs H Q E h=>?_) (λ cdv A outer s H vs Q E hr h=>?_)
 ·obtain ⟨p,ha,pa,kt,kg,z,L,past,lo,xs,hs,rfl,_⟩:=h
  rfl
 obtain ⟨p,ha,pa,kt,kg,z,L,past,lo,xs,hs,rfl,KP,ft,hha,hB,hG,h16,nha,hpl,LTH,q⟩:=h;refine ⟨_,(b4f T Cs hr).2,?_⟩;obtain ⟨dx,ta,wa,pv,hp,hlv,hpa,hps⟩:=KP.ex;have xl:xs.length=hs.length:=Paired.length hB;have small:=m8 (show xs.length<=1000 by omega);refine ⟨λ σ' H'=>∃ wl ys qs,σ'=[some (.ref p),some (.ref ha),some (.ref wl)]/\Same1 Pt H H'/\LT Pt H'/\H wl=none/\H' wl=some (.lst ys)/\aN (FrT H') ys qs/\Shs z hs kt kg qs,?_,?_⟩
 ·refine ⟨_,rfl,ha,_,rfl,.inl (SqL.of hha),_,rfl,by omega,by omega,λ wl hwl=>?_⟩
  refine a6A (P:=Pt) (pos:=a5J) (qual:=b1V) LTH hwl small (λ i y H'=>∃ q h A B,(hs[i]?=some h/\ShU z hs h kt kg A B/\q=low A B)/\FrT H' y q) (λ i y H1 H2 L1 hz r k=>?_) (λ i H1 ys N' hi e1 L1 hp1 hN=>?_) (λ ys H1 e1 L1 hp1 len pr=>?_)
  ·obtain ⟨zs,hzs⟩:=hz
   obtain ⟨q,h,A,B,x,a,rfl,r⟩:=r;exact ⟨q,h,A,B,x,a,rfl,k _ _ (y9 r hzs nofun) (L1.ne r nofun) r⟩
  ·have bin:Q6 K H1 ha xs hs (10 ^ 9) kt kg:=⟨SqL.of (e1.get LTH hha nofun),Bk.same1 LTH e1 hB,hG,by decide,h16,by have:=ft.t4; omega,by have:=ft.g4; omega⟩
   refine ⟨_,rfl,_,rfl,_,rfl,p,C,dx,_,_,rfl,e1.get LTH hp nofun,TKd.cl,TKd.nS,rfl,ha,xs,hs,(i:Int),z,10 ^ 9,kt,kg,rfl,ft.z,bin,ft.t1,U1 (by omega),L1,λ i' h' A' B' H7 u' hi' hh' X' e7 L7 hu'=>?_,λ bad=>absurd ⟨by omega,by omega⟩ bad⟩;have:i'=i:=by omega
   subst this;exact hN _ _ e7 L7 ⟨_,h',A',B',⟨hh',X',rfl⟩,hu'⟩
  ·obtain ⟨qs,pq,kq⟩:=a8t (H:=H1) (ys:=ys) (R:=λ i q=>∃ h A B,hs[i]?=some h/\ShU z hs h kt kg A B/\q=low A B) λ i y e=>by
    obtain ⟨q,h,A,B,x,r⟩:=pr i y e;exact ⟨q,⟨h,A,B,x⟩,r⟩
   refine ⟨wl,ys,qs,rfl,e1,L1,hwl,hp1,pq,by rw [<- pq.length,len,xl]; simp,λ i h q hh hq=>?_⟩;obtain ⟨h',A,B,hh',X,e⟩:=kq i q hq;rw [hh] at hh'; cases hh';exact ⟨A,B,X,e⟩
 intro σ1 H1 hM_; refine X1 λ G_ hG_=>?_; obtain ⟨wl,ys,qs,rfl,e1,L1,hwl,hwl1,pq,sh⟩:=hM_; subst hG_;have g1:∀ {b:Addr} {o:HO},H b=some o->(∀ ps,o≠.tbl ps)->H1 b=some o:=λ h n=>e1.get LTH h n;have hp1:=g1 hp nofun;have hpa1:=g1 hpa nofun;refine ⟨_,rfl,p,C,dx,_,_,rfl,hp1,TKd.cl,TKd.nP,rfl,.inl ⟨rfl,_,SqL.of hpa1⟩,?_⟩;refine ⟨_,rfl,p,C,dx,_,_,rfl,hp1,TKd.cl,TKd.nH,rfl,_,rfl,p,C,dx,_,_,rfl,hp1,TKd.cl,TKd.nW,rfl,(by show 2<=sizeLine; decide),λ t ht=>?_⟩;have s2:=Same.new ht (.tup [V.ref ta,V.ref wa]);have lpv:pv.length=past.length:=hps.length;refine ⟨pa,_,_,rfl,rfl,s2 _ _ hpa1,cC (show pv.length<=1000 by omega) (by decide),?_⟩;have npp:p≠pa:=y9 hp hpa nofun;refine ⟨_,rfl,_,rfl,p,C,dx,_,rfl,by rw [c9 npp]; exact s2 _ _ hp1,TKd.cl,TKd.nH,(by show 6<1000; decide),?_⟩;refine ⟨_,rfl,_,rfl,p,C,dx,_,rfl,upd_same,TKd.cl,TKd.nW,(by show 6<1000; decide),?_⟩;rw [T7];have nt:t≠pa:=(d7 hpa1 ht).symm;have ntp:t≠p:=(d7 hp1 ht).symm;have nwp:wl≠p:=y9 hwl1 hp1 nofun;have nwa:wl≠pa:=λ z0=>by subst z0; rw [hpa] at hwl; cases hwl
 have nwt:wl≠t:=d7 hwl1 ht;have nhp:ha≠p:=y9 hha hp nofun;have hha1:=g1 hha nofun;have fr:Fr0 (λ b=>b=p\/b=pa\/b=Pt) H (r6 (r6 (r6 H1 t (HO.tup [V.ref ta,V.ref wa])) pa (HO.lst (pv++[V.ref t]))) p (HO.ins C dx (S2 "worth" (V.ref wl) (S2 "there" (V.ref ha) (KFs kt kg z ta wa pa))))):=by
  refine ⟨λ b o hx e=>?_,λ x hx=>?_⟩
  ·have n1:b≠p:=λ z=>hx (.inl z)
   have n2:b≠pa:=λ z=>hx (.inr (.inl z));have n3:b≠Pt:=λ z=>hx (.inr (.inr z));rw [c9 n1,c9 n2];exact s2 _ _ (e1 _ _ n3 e)
  ·rcases hx with rfl | rfl | rfl
   ·exact L9 hp
   ·exact x4 hpa
   ·exact L6 LTH
 have fr1:Fr0 (λ b=>b=p\/b=pa) H1 (r6 (r6 (r6 H1 t (HO.tup [V.ref ta,V.ref wa])) pa (HO.lst (pv++[V.ref t]))) p (HO.ins C dx (S2 "worth" (V.ref wl) (S2 "there" (V.ref ha) (KFs kt kg z ta wa pa))))):=by
  refine ⟨λ b o hx e=>?_,λ x hx=>?_⟩
  ·rw [c9 λ z=>hx (.inl z),c9 λ z=>hx (.inr z)]
   exact s2 _ _ e
  ·rcases hx with rfl | rfl
   ·exact L9 hp1
   ·exact x4 hpa1
 have nlo:∀ b∈lo,¬ (b=p\/b=pa\/b=Pt):=λ b hb hx=>by
  obtain ⟨zs,hz⟩:=KP.ls b hb;rcases hx with rfl | rfl | rfl
  ·rw [hp] at hz; cases hz
  ·exact KP.no hb
  ·exact LTH.ne hz nofun rfl
 refine q _ wl qs ⟨?_,λ b hb=>?_,dx,ha,wl,pv++[.ref t],upd_same,⟨.head _,.tail _ (.head _),⟨xs,fr.k _ _ ?_ hha,hB.fr0 fr⟩,ys,fr1.k _ _ ?_ hwl1,Paired.imp' (λ _ _ r=>FrT.fr0 fr1 r) pq⟩,?_,?_⟩ sh hwl (λ b o n1 n2 n3 e=>fr.k b o (λ hx=>hx.elim n1 λ hx=>hx.elim n3 n2) e) ?_
 ·intro hb
  rcases aJ.mp hb with z0 | hb
  ·exact nha z0.symm
  ·rcases aJ.mp hb with z0 | hb
   ·exact nwa z0.symm
   ·exact KP.no hb
 ·rcases aJ.mp hb with rfl | hb
  ·exact ⟨xs,fr1.k _ _ (λ hx=>hx.elim nhp nha) hha1⟩
  ·rcases aJ.mp hb with rfl | hb
   ·exact ⟨ys,fr1.k _ _ (λ hx=>hx.elim nwp nwa) hwl1⟩
   ·obtain ⟨zs,hz⟩:=KP.ls b hb
    exact ⟨zs,fr.k _ _ (nlo b hb) hz⟩
 ·exact λ hx=>hx.elim nhp λ hx=>hx.elim nha (LTH.ne hha nofun)
 ·exact λ hx=>hx.elim nwp nwa
 ·rw [c9 npp.symm,upd_same]
 ·refine Paired.app (hps.fr0 fr nlo λ b hb=>.tail _ (.tail _ hb)) (.cons ⟨t,ta,wa,rfl,?_,hlv.fr0 fr nlo λ b hb=>.tail _ (.tail _ hb)⟩ .nil)
  rw [c9 ntp,c9 nt,upd_same]
 ·have L2:LT Pt (r6 H1 t (HO.tup [V.ref ta,V.ref wa])):=L1.same s2
  have L3:=L2.write (o:=.lst (pv++[V.ref t])) (s2 _ _ hpa1);rcases L3 with x | ⟨c,x,y⟩
  ·exact .inl (by rw [c9 (λ z0=>by rw [z0,c9 npp,s2 _ _ hp1] at x; cases x)]; exact x)
  ·exact .inr ⟨c,by rw [c9 (λ z0=>by rw [z0,c9 npp,s2 _ _ hp1] at x; cases x)]; exact x,by rw [c9 (λ z0=>by rw [z0,c9 npp,s2 _ _ hp1] at y; cases y)]; exact y⟩
end
end Rim
namespace HT
open PySem PySem.Spec PyProof.Rows L2
section
variable {prog:Program} {w:World} {A:Around} {E:Value->Shared->Prop} {s:Shared}
theorem getItem_tuple_whole {t sl:Addr} {items:Array Value} {vl vu:Value} {lo hi:Option Int} {Q:Value->Shared->Prop} (ht:IsTup s.heap t items) (hs:s.heap.IsSliceOf sl vl vu .none) (pl:IsPart vl lo) (pu:IsPart vu hi)
  (hw:sIx items.size 0 lo=0/\sIx items.size items.size hi=items.size)
  (h:Q (.ref t) s):wpAny (model prog w) A (getItem (.ref t) (.ref sl)) Q E s:=by
 obtain ⟨os,hos,hcs,hds⟩:=id hs;have hTs:s.TypeIs (.ref sl) "slice":=⟨os,hos,hcs⟩;unfold getItem
 try with_reducible refine wpAny_holding ?_
 first | refine wpAny_bind (wpAny_pure ?_) | skip
 refine wpAny_bind (wpAny_sequenceKey ht.typeIs (by decide) ?_);refine wpAny_bind (wpAny_callSpecial?_slot (name:=Str.ofString "__getitem__") ht.typeIs fL
  (wpAny_call_entry fL ht.typeIs entry_tuple_getitem ?_ (args_tuple_getitem _ _)))
 show wpAny _ _ (Builtin.Tuple.tupleItemsOf (.ref t) >>= _) _ _ s
 refine wpAny_bind (tupleItemsOf_ ht ?_);refine wpAny_bind (wpAny_typeOf hTs ?_);rw [if_pos (by decide)];refine wpAny_bind (S4 hs pl pu ?_);have hyes:(((sIx items.size 0 lo:Nat):Int)==0&&(1:Int)==1&&(sIx items.size items.size hi - sIx items.size 0 lo)==items.size)=true:=by
  rw [hw.1,hw.2];simp
 show wpAny _ _ (if (((sIx items.size 0 lo:Nat):Int)==0&&(1:Int)==1&&(sIx items.size items.size hi - sIx items.size 0 lo)==items.size)=true then _ else _) _ _ s
 rw [if_pos hyes];refine wpAny_bind ?_;unfold Builtin.Tuple.tupleIsExact
 first
  | refine wpAny_bind (wpAny_typeOf ht.typeIs (wpAny_pure ?_))
  | refine wpAny_typeOf ht.typeIs ?_
 rw [if_pos (by decide)]
 first
  | exact wpAny_bind (wpAny_rule (wpAny_pure ⟨_,rfl,wpAny_pure h⟩))
  | exact wpAny_bind (wpAny_pure (wpAny_pure ⟨_,rfl,wpAny_pure h⟩))
  | trace_state
end
end HT
namespace L2
open PySem PySem.Spec PyProof.Rows
section
variable {X:Cx}
def b5g (K:W.Frag):V->Option Int->Option Int->Hp->VK->Prop:=λ x lo hi H Q=>∃ a xs,x=.ref a/\SqT K H a xs ∧
 ((HT.sIx xs.length 0 lo=0/\HT.sIx xs.length xs.length hi=xs.length)->Q (.ref a) H)/\(¬ (HT.sIx xs.length 0 lo=0/\HT.sIx xs.length xs.length hi=xs.length)->∀ p,H p=none->Q (.ref p) (r6 H p (.tup (E8 xs lo hi))))
theorem a6H:SlR X (b5g X.K):=by
 intro pins s σ H x v vl vu lo hi sl Q I rx hs pl pu h;obtain ⟨a,xs,rfl,hx,q1,q2⟩:=h
 by_cases hw:HT.sIx xs.length 0 lo=0/\HT.sIx xs.length xs.length hi=xs.length
 ·cases rx
  obtain ⟨its,r,ht,hz⟩:=I.tuple hx;have hlen:its.toArray.size=xs.length:=by rw [aT]; exact r.length.symm
  refine ⟨"tuple",_,fL.lookup,ht.typeIs,?_⟩;exact HT.getItem_tuple_whole ht hs pl pu (by rw [hlen]; exact hw) ⟨.ref a,H,I,rfl,q1 hw⟩
 ·exact b1J pins s σ H _ v vl vu lo hi sl Q I rx hs pl pu ⟨a,xs,rfl,hx,hw,q2 hw⟩
theorem a8w (xs:List V) (h:xs≠[]):E8 xs none (some (-1))=xs.take (xs.length - 1)/\E8 xs (some (-1)) none=xs.drop (xs.length - 1):=by
 have hl:0<xs.length:=iH.mpr h;have e:∀ d,HT.sIx xs.length d (some (-1))=xs.length - 1:=λ d=>by
  show (if (-1:Int)<0 then ((-1:Int)+(xs.length:Int)).toNat else min (-1:Int).toNat xs.length)=_
  rw [if_pos (by decide)]; omega
 constructor
 ·unfold E8
  rw [e,HT.sIx_none,jV,Nat.sub_zero]
 ·unfold E8
  rw [e,HT.sIx_none,fA];rw [dE]; omega
end
end L2
namespace Rim
open PySem L2 Fr
def ChgL (K:W.Frag) (H:Hp) (l:Addr) (ps qs:List Q2):Prop:=∃ xs ys ts,FrL K H xs ps/\FrL K H ys qs/\H l=some (.lst ts)/\ChAt H xs ys (chI ps qs) ts
structure R9 (P:Program) (w:World) (K:W.Frag) (mg:Str->Option Value) (base:Heap) (CX:CXT) (n:Nat) (C:Addr) (m:Str) (ps:List Str) (sp:Sp) (f:Addr) (fd:FuncData):Prop where
 ok:FnOk P w K mg base CX n f fd ps sp
 bd:Binds K fd ps []
 me:a7j K C m f
section
variable {P:Program} {w:World} {K:W.Frag} {mg:Str->Option Value} {base:Heap} {f C CN CB CT CL Pt:Addr} {fd:FuncData} {n:Nat}
theorem FrL.same {H H':Hp} {xs:List V} {ps:List Q2} (e:Same H H') (h:FrL K H xs ps):FrL K H' xs ps:=Paired.imp' (λ _ _ r=>FrV.same e r) h
theorem V3 {H:Hp} {xs:List V} {ps:List Q2} (h:aN (FrT H) xs ps):FrL K H xs ps:=Paired.imp' (λ _ _ r=>FrT.v r) h
theorem a0o {α β:Type} {F:α->β->Prop} {l:List α} {l':List β} (h:aN F l l'):l.length=l'.length:=h.length
theorem Left.free {p pa x:Addr} {H H':Hp} (l:Left Pt p pa H H') (hp:H' p≠none) (hpa:H' pa≠none) (T:LT Pt H') (h:H' x=none):H x=none:=by
 cases q:H x with
 | none=>rfl
 | some o =>
  have n1:x≠p:=λ z=>hp (z ▸ h);have n2:x≠pa:=λ z=>hpa (z ▸ h);have n3:x≠Pt:=λ z=>by
   subst z;rcases T with t | ⟨c,t,_⟩ <;> (rw [h] at t; cases t)
  rw [l x o n1 n3 n2 q] at h; cases h
theorem T6 {α:Type} {l:List α} {k:Nat} (h:l.length=k+1):∃ a x,l=a++[x]/\a.length=k:=by
 refine ⟨l.dropLast,l.getLast (by intro z; rw [z] at h; simp at h),(iV _).symm,by rw [List.length_dropLast]; omega⟩
theorem Y0 {α β:Type} {F:α->β->Prop}:∀ {a:List α} {b:List β} {x:α} {y:β},aN F (a++[x]) (b++[y])->aN F a b/\F x y
 | [],[],_,_,.cons r _=>⟨.nil,r⟩
 | [],_::b,_,_,.cons _ t=>by have:=t.length; simp at this
 | _::a,[],_,_,.cons _ t=>by have:=t.length; simp at this
 | _::a,_::b,_,_,.cons r t=>by
  obtain ⟨h1,h2⟩:=Y0 t;exact ⟨.cons r h1,h2⟩
theorem a7G {H H':Hp} {xs ys:List V} {is:List Nat} {ts:List V} (e:Same H H') (h:ChAt H xs ys is ts):ChAt H' xs ys is ts:=h.same λ b zs q=>e b _ q
def a1A (K:W.Frag) (C CB CT Pt:Addr):Sp:=λ vs H Q E=>∃ (p pa:Addr) (v:V) (h:j0) (kt kg:Nat) (z:Str) (L:Lev) (past:List Lev) (lo:List Addr),vs=[.ref p,v]/\KpAt K C H p kt kg z L past pa lo/\Fit z kt kg/\HS K H v h/\V0 h/\(∀ g∈L.1,HG (10 ^ 9) kt kg g)/\L.1.length<=16/\L.2.length=L.1.length ∧
 past.length<=1000/\LT Pt H ∧
 (GoodK h kt kg->L.1.length<16->∀ (H':Hp) (ha wa r cl:Addr) (u:V) (qs:List Q2) (x:Q2),KpAt K C H' p kt kg z (L.1++[h],qs++[x]) (past++[L]) pa (ha::wa::lo)->Shs z (L.1++[h]) kt kg (qs++[x])->H ha=none->H wa=none->Left Pt p pa H H'->LT Pt H' →
  H r=none->H' r=some (.tup [u,.ref cl])->FrT H' u x->H cl=none->ChgL K H' cl L.2 qs->cl≠ha->cl≠wa->Q (.ref r) H') ∧
 (¬ GoodK h kt kg->∀ H',Same H H'->E (.ref CB) none H')/\(GoodK h kt kg->16<=L.1.length->∀ H',Same H H'->E (.ref CT) none H')
theorem scComeK:m9 ["self","house","ahead"] ["self","house"] (i8 X6):=⟨rfl,rfl,rfl,by decide +kernel,rfl,by decide +kernel,by decide +kernel⟩
theorem a7Z {f1 f2 f3:Addr} {d1 d2 d3:FuncData} (F:Fun K "come" "Kept.come" X6 f fd) (TKd:TK K C) (Ct:R9 P w K mg base E4 n C "turn_to" ["self","houses"] (a3r K C Pt) f1 d1)
  (Co:a1Y P w K mg base n "with_one_more" ["houses","house","many_takes","many_gives"] (a3i K CB CT) f2 d2) (Cc:Cal P w K mg base n "changes" ["ahead","behind"] (a9G K) f3 d3) :
  FnOk P w K mg base (CX1 P w) (n+1) f fd ["self","house"] (a1A K C CB CT Pt):=by
 refine F.ok1 scComeK (λ vs H Q E h=>?_) (λ cdv A outer s H vs Q E hr h=>?_)
 ·obtain ⟨p,pa,v,h,kt,kg,z,L,past,lo,rfl,_⟩:=h
  rfl
 obtain ⟨p,pa,v,h,kt,kg,z,L,past,lo,rfl,KP,ft,hH,hs,hG,h16,hql,hpl,LTH,q,hB,hT⟩:=h;refine ⟨_,i9 (o4 (i:=2) scComeK.nd rfl (aC rfl) (t7 (pv 0) rfl))
  (i9 (D3 (Y5 (pv 0) TKd.cl Ct.me Ct.ok hr Ct.bd .nil w6 (a0 (o6 Co.ok hr rfl Co.m Co.k Co.b .nil a2V (a0 (t7 (pv 0) rfl) (a0 (pv 1) (a0 (t7 (pv 0) rfl) (a0 (t7 (pv 0) rfl) e9))))) e9)))
  (PSs.nox (j3 (r9 (D4 (a0 (j9 j5 (t7 (pv 0) rfl) (O6 J1 h8) (λ _ _=>rfl)) (a0 (o6 Cc.ok hr rfl Cc.m Cc.k Cc.b .nil w6 (a0 (pv 2) (a0 (G3 P9 (t7 (pv 0) rfl) P8 (G4 (O6 J1 h8))) e9))) e9))))))),?_⟩
 obtain ⟨dx,ta,wa,pv0,hp,hlv,hpa,hps⟩:=KP.ex;obtain ⟨lv1,lv2,⟨xs,hta,hxs⟩,ys,hwa,hys⟩:=hlv;have xl:xs.length=L.1.length:=Paired.length hxs;refine ⟨_,rfl,p,C,dx,_,_,rfl,hp,TKd.cl,TKd.nW,rfl,?_⟩;refine ⟨_,rfl,p,dx,_,rfl,hp,rfl,?_⟩;refine ⟨_,rfl,p,C,dx,_,_,rfl,hp,TKd.cl,TKd.nH,rfl,_,rfl,_,rfl,p,C,dx,_,_,rfl,hp,TKd.cl,TKd.nT,rfl,_,rfl,p,C,dx,_,_,rfl,hp,TKd.cl,TKd.nG,rfl,?_⟩;refine ⟨ta,v,xs,h,(kt:Int),(kg:Int),rfl,hta,by omega,hH,hs,U1 (by have:=ft.t4; omega),U1 (by have:=ft.g4; omega),λ g1 l16 r H1 e1 hr0 hr1=>?_,λ bad H1 e1=>hB bad H1 e1,λ g1 l16 H1 e1=>hT g1 (by omega) H1 e1⟩;have nrpa:r≠pa:=λ z0=>by subst z0; rw [hpa] at hr0; cases hr0
 have gh:=g1.hg;refine ⟨p,r,pa,kt,kg,z,L,past,lo,xs++[v],L.1++[h],rfl,KP.same e1,ft,hr1,Paired.app (Bk.same e1 hxs) (.cons (hH.same e1) .nil),λ g hg=>?_,by rw [aM,dA]; omega,nrpa,hpl,LTH.same e1,λ H2 wl qs KP2 sh hwl lf L2=>?_⟩
 ·rcases aO.mp hg with hg | hg
  ·exact hG g hg
  ·rw [bF.mp hg]; exact gh
 have lf0:Left Pt p pa H H2:=λ b o n1 n2 n3 q0=>lf b o n1 n2 n3 (e1 _ _ q0);have qlen:qs.length=L.1.length+1:=by rw [sh.1,aM]; rfl
 obtain ⟨qs0,x,rfl,ql0⟩:=T6 qlen;obtain ⟨dx2,ta2,wa2,pv2,hp2,⟨m1,m2,_,ys2,hwa2,hys2⟩,hpa2,_⟩:=KP2.ex;have yl2:ys2.length=L.1.length+1:=by rw [a0o hys2,qlen]
 obtain ⟨ys0,u,rfl,yl0⟩:=T6 yl2;obtain ⟨hy0,hu⟩:=Y0 hys2;have nwp:wa≠p:=y9 hwa hp nofun;have nwa:wa≠pa:=λ z0=>KP.no (z0 ▸ lv2);have nwt:wa≠Pt:=LTH.ne hwa nofun;have hwa':H2 wa=some (.lst ys):=lf0 wa _ nwp nwt nwa hwa;have hys':aN (FrT H2) ys L.2:=Paired.imp' (λ v q ⟨a,h1,h2⟩=>⟨a,h1,lf0 a _ (y9 h2 hp nofun) (LTH.ne h2 nofun) (y9 h2 hpa nofun) h2⟩) hys;have yl:ys.length=L.2.length:=a0o hys;refine ⟨_,rfl,p,C,dx2,_,_,rfl,hp2,TKd.cl,TKd.nW,rfl,_,rfl,wa2,_,_,_,rfl,rfl,SqL.of hwa2,a4w ys0 u,?_⟩;refine ⟨_,rfl,_,rfl,p,C,dx2,_,_,rfl,hp2,TKd.cl,TKd.nW,rfl,_,rfl,_,rfl,wa2,_,rfl,SqL.of hwa2,λ c0 hc0=>?_⟩;rw [(a8w (ys0++[u]) (by simp)).1];have ec:(ys0++[u]).take ((ys0++[u]).length - 1)=ys0:=by simp
 rw [ec];have s3:=Same.new hc0 (.lst ys0);refine ⟨wa,c0,ys,ys0,L.2,qs0,rfl,SqL.of (s3 _ _ hwa'),SqL.of upd_same,FrL.same s3 (V3 hys'),FrL.same s3 (V3 hy0),by omega,λ cl ts H4 e4 hcl0 hcl ch=>?_⟩;refine ⟨(by show 2<=sizeLine; decide),λ rt hrt=>?_⟩;have s5:=Same.new hrt (.tup [u,V.ref cl]);have s25:=s3.trans (e4.trans s5);have free:∀ {b:Addr},H2 b=none->H b=none:=λ h=>e1.free (lf.free (by rw [hp2]; nofun) (by rw [hpa2]; nofun) L2 h);have hclN:H2 cl=none:=s3.free hcl0;have hrtN:H2 rt=none:=(s3.trans e4).free hrt;have ncl:∀ b∈r::wl::lo,cl≠b:=λ b hb z0=>by
  subst z0;obtain ⟨zs,hz⟩:=KP2.ls cl hb;rw [hz] at hclN; cases hclN
 refine q g1 (by omega) _ r wl rt cl u qs0 x (KP2.same s25) sh hr0 (e1.free hwl) (λ b o n1 n2 n3 q0=>s25 _ _ (lf0 b o n1 n2 n3 q0)) (L2.same s25) (free hrtN) upd_same (hu.same s25) (free hclN) ?_ (ncl r (.head _)) (ncl wl (.tail _ (.head _)));exact ⟨ys,ys0,ts,FrL.same s25 (V3 hys'),FrL.same s25 (V3 hy0),s5 _ _ hcl,a7G s5 ch⟩
end
theorem a0y {α β:Type} {F:α->β->Prop} {a:List α} {b:List β} (i:Nat) (h:aN F a b):aN F (y4 a i) (y4 b i):=Paired.app (Paired.take i h) (Paired.drop (i+1) h)
section
variable {P:Program} {w:World} {K:W.Frag} {mg:Str->Option Value} {base:Heap} {f C CN CB CT CL Pt:Addr} {fd:FuncData} {n:Nat}
def a8h (K:W.Frag) (C CN Pt:Addr):Sp:=λ vs H Q E=>∃ (p pa:Addr) (num:Int) (kt kg:Nat) (z:Str) (L:Lev) (past:List Lev) (lo:List Addr),vs=[.ref p,.int num]/\KpAt K C H p kt kg z L past pa lo/\Fit z kt kg/\(∀ g∈L.1,HG (10 ^ 9) kt kg g)/\L.1.length<=16/\L.2.length=L.1.length ∧
 past.length<=1000/\num.natAbs.log2<1920/\LT Pt H ∧
 (∀ i:Nat,num=(i:Int)->i<L.1.length->∀ (H':Hp) (ha wa cl:Addr) (qs:List Q2),KpAt K C H' p kt kg z (y4 L.1 i,qs) (past++[L]) pa (ha::wa::lo)->Shs z (y4 L.1 i) kt kg qs->H ha=none->H wa=none->Left Pt p pa H H'->LT Pt H' →
  H cl=none->ChgL K H' cl (y4 L.2 i) qs->cl≠ha->cl≠wa->Q (.ref cl) H') ∧
 (¬ a4C L.1.length num->∀ H',Same H H'->E (.ref CN) none H')
theorem scGoK:m9 ["self","number","houses","ahead"] ["self","number"] (i8 a1m):=⟨rfl,rfl,rfl,by decide +kernel,rfl,by decide +kernel,by decide +kernel⟩
theorem b2g {f1 f2 f3:Addr} {d1 d2 d3:FuncData} (F:Fun K "go" "Kept.go" a1m f fd) (TKd:TK K C) (Ct:R9 P w K mg base E4 n C "turn_to" ["self","houses"] (a3r K C Pt) f1 d1)
  (Cw:a1Y P w K mg base n "without" ["houses","number"] (a2J K CN) f2 d2) (Cc:Cal P w K mg base n "changes" ["ahead","behind"] (a9G K) f3 d3) :
  FnOk P w K mg base (CX1 P w) (n+1) f fd ["self","number"] (a8h K C CN Pt):=by
 refine F.ok1 scGoK (λ vs H Q E h=>?_) (λ cdv A outer s H vs Q E hr h=>?_)
 ·obtain ⟨p,pa,num,kt,kg,z,L,past,lo,rfl,_⟩:=h
  rfl
 obtain ⟨p,pa,num,kt,kg,z,L,past,lo,rfl,KP,ft,hG,h16,hql,hpl,lm,LTH,q,hN⟩:=h;refine ⟨_,i9 (o4 (i:=2) scGoK.nd rfl (aC rfl) (o6 Cw.ok hr rfl Cw.m Cw.k Cw.b .nil a2V (a0 (t7 (pv 0) rfl) (a0 (pv 1) e9))))
  (i9 (o4 (i:=3) scGoK.nd rfl (aC rfl) (o6 Cw.ok hr rfl Cw.m Cw.k Cw.b .nil a2V (a0 (t7 (pv 0) rfl) (a0 (pv 1) e9))))
  (PSs.nox (i9 (D3 (Y5 (pv 0) TKd.cl Ct.me Ct.ok hr Ct.bd .nil w6 (a0 (pv 2) e9)))
  (j3 (r9 (o6 Cc.ok hr rfl Cc.m Cc.k Cc.b .nil w6 (a0 (pv 3) (a0 (t7 (pv 0) rfl) e9)))))))),?_⟩
 obtain ⟨dx,ta,wa,pv0,hp,hlv,hpa,hps⟩:=KP.ex;obtain ⟨lv1,lv2,⟨xs,hta,hxs⟩,ys,hwa,hys⟩:=hlv;have xl:xs.length=L.1.length:=Paired.length hxs;have yl:ys.length=L.2.length:=a0o hys;refine ⟨_,rfl,p,C,dx,_,_,rfl,hp,TKd.cl,TKd.nH,rfl,_,rfl,ta,xs,num,rfl,SqL.of hta,by omega,lm,λ i r H1 hi hil e1 hr0 hr1=>?_,λ bad=>hN (by rw [<- xl]; exact bad) H (Same.refl _)⟩;subst hi;refine ⟨_,rfl,p,C,dx,_,_,rfl,e1 _ _ hp,TKd.cl,TKd.nW,rfl,_,rfl,wa,ys,(i:Int),rfl,SqL.of (e1 _ _ hwa),by omega,lm,λ i' r2 H2 hi' _ e2 hr20 hr21=>?_,λ bad=>absurd ⟨by omega,by omega⟩ bad⟩;have:i'=i:=by omega
 subst this;have e12:=e1.trans e2;have nrpa:r≠pa:=λ z0=>by subst z0; rw [hpa] at hr0; cases hr0
 refine ⟨_,rfl,p,dx,_,rfl,e12 _ _ hp,rfl,_,rfl,?_⟩;refine ⟨p,r,pa,kt,kg,z,L,past,lo,y4 xs i',y4 L.1 i',rfl,KP.same e12,ft,e2 _ _ hr1,Bk.same e12 (hxs.out i'),λ g hg=>hG g (a1X hg),aW V6 h16,nrpa,hpl,LTH.same e12,λ H3 wl qs KP2 sh hwl lf L2=>?_⟩;have lf0:Left Pt p pa H H3:=λ b o n1 n2 n3 q0=>lf b o n1 n2 n3 (e12 _ _ q0);obtain ⟨dx2,ta2,wa2,pv2,hp2,⟨m1,m2,_,ys2,hwa2,hys2⟩,hpa2,_⟩:=KP2.ex;have nr2p:r2≠p:=y9 hr21 (e12 _ _ hp) nofun;have nr2a:r2≠pa:=λ z0=>by subst z0; rw [e1 _ _ hpa] at hr20; cases hr20
 have nr2t:r2≠Pt:=(LTH.same e12).ne hr21 nofun;have hr23:H3 r2=some (.lst (y4 ys i')):=lf r2 _ nr2p nr2t nr2a hr21;have hys':aN (FrT H3) ys L.2:=Paired.imp' (λ v q ⟨a,h1,h2⟩=>⟨a,h1,lf0 a _ (y9 h2 hp nofun) (LTH.ne h2 nofun) (y9 h2 hpa nofun) h2⟩) hys;have ll:(y4 ys i').length<=1000:=aW V6 (by omega);refine ⟨_,rfl,_,rfl,p,C,dx2,_,_,rfl,hp2,TKd.cl,TKd.nW,rfl,r2,wa2,y4 ys i',ys2,y4 L.2 i',qs,rfl,SqL.of hr23,SqL.of hwa2,V3 (a0y i' hys'),V3 hys2,ll,λ cl ts H4 e4 hcl0 hcl ch=>?_⟩;have free:∀ {b:Addr},H3 b=none->H b=none:=λ h=>e12.free (lf.free (by rw [hp2]; nofun) (by rw [hpa2]; nofun) L2 h);have ncl:∀ b∈r::wl::lo,cl≠b:=λ b hb z0=>by
  subst z0;obtain ⟨zs,hz⟩:=KP2.ls cl hb;rw [hz] at hcl0; cases hcl0
 exact q i' rfl (by omega) H4 r wl cl qs (KP2.same e4) sh hr0 (e12.free hwl) (λ b o n1 n2 n3 q0=>e4 _ _ (lf0 b o n1 n2 n3 q0)) (L2.same e4) (free hcl0) ⟨_,_,ts,FrL.same e4 (V3 (a0y i' hys')),FrL.same e4 (V3 hys2),hcl,ch⟩ (ncl r (.head _)) (ncl wl (.tail _ (.head _)))
def a0Y (K:W.Frag) (C:Addr):Sp:=λ vs H Q _=>∃ (p pa:Addr) (kt kg:Nat) (z:Str) (L:Lev) (past:List Lev) (lo:List Addr),vs=[.ref p]/\KpAt K C H p kt kg z L past pa lo ∧
 ∀ (l:Addr) (xs:List V) (H':Hp),Same H H'->H l=none->H' l=some (.lst xs)->Bk K H' xs L.1->Q (.ref l) H'
theorem a6Y:m9 ["self"] ["self"] (i8 Q5):=⟨rfl,rfl,rfl,by decide +kernel,rfl,by decide +kernel,by decide +kernel⟩
theorem a5q (F:Fun K "houses" "Kept.houses" Q5 f fd) (T:x5 mg) (TKd:TK K C):FnOk P w K mg base E4 (n+1) f fd ["self"] (a0Y K C):=by
 refine F.ok a6Y (λ vs H Q E h=>?_) (λ cdv A outer s H vs Q E hr h=>?_)
 ·obtain ⟨p,pa,kt,kg,z,L,past,lo,rfl,_⟩:=h
  rfl
 obtain ⟨p,pa,kt,kg,z,L,past,lo,rfl,KP,q⟩:=h;refine ⟨_,j3 (r9 (v9 B7 rfl T.list dJ (a0 (t7 (pv 0) rfl) e9))),?_⟩;obtain ⟨dx,ta,wa,pv0,hp,⟨lv1,lv2,⟨xs,hta,hxs⟩,ys,hwa,hys⟩,hpa,hps⟩:=KP.ex;refine ⟨_,rfl,p,C,dx,_,_,rfl,hp,TKd.cl,TKd.nH,rfl,ta,xs,rfl,.inl (SqL.of hta),λ l hl=>?_⟩;have s1:=Same.new hl (.lst xs);exact q l xs _ s1 hl upd_same (Bk.same s1 hxs)
end
end Rim
namespace L2
open PySem
mutual
inductive Dq (K:W.Frag) (H:Hp) (F:Addr->Prop):V->PyData->Prop
 | non:Dq K H F .non .none
 | int (i:Int):Dq K H F (.int i) (.int i)
 | lst {a:Addr} {xs:List V} {ds:List PyData}:F a->H a=some (.lst xs)->Dqs K H F xs ds->Dq K H F (.ref a) (.list ds)
 | tup {a:Addr} {xs:List V} {ds:List PyData}:SqT K H a xs->Dqs K H F xs ds->Dq K H F (.ref a) (.tuple ds)
inductive Dqs (K:W.Frag) (H:Hp) (F:Addr->Prop):List V->List PyData->Prop
 | nil:Dqs K H F [] []
 | cons {x:V} {xs:List V} {d:PyData} {ds:List PyData}:Dq K H F x d->Dqs K H F xs ds->Dqs K H F (x::xs) (d::ds)
end
section
variable {K:W.Frag} {H H':Hp} {F F':Addr->Prop}
mutual
theorem Dq.dp:∀ {x:V} {d:PyData},Dq K H F x d->Dp K H x d
 | _,_,.non=>.non
 | _,_,.int i=>.int i
 | _,_,.lst _ h r=>.lst (SqL.of h) (Dqs.dp r)
 | _,_,.tup h r=>.tup h (Dqs.dp r)
theorem Dqs.dp:∀ {xs:List V} {ds:List PyData},Dqs K H F xs ds->Dps K H xs ds
 | _,_,.nil=>.nil
 | _,_,.cons a r=>.cons (Dq.dp a) (Dqs.dp r)
end
mutual
theorem Dq.go {X:Addr->Prop} (e:Fr0 X H H') (k:∀ a xs,F a->H a=some (.lst xs)->F' a/\¬ X a):∀ {x:V} {d:PyData},Dq K H F x d->Dq K H' F' x d
 | _,_,.non=>.non
 | _,_,.int i=>.int i
 | _,_,.lst f h r=>.lst (k _ _ f h).1 (e.k _ _ (k _ _ f h).2 h) (Dqs.go e k r)
 | _,_,.tup h r=>.tup (e.seqT h) (Dqs.go e k r)
theorem Dqs.go {X:Addr->Prop} (e:Fr0 X H H') (k:∀ a xs,F a->H a=some (.lst xs)->F' a/\¬ X a):∀ {xs:List V} {ds:List PyData},Dqs K H F xs ds->Dqs K H' F' xs ds
 | _,_,.nil=>.nil
 | _,_,.cons a r=>.cons (Dq.go e k a) (Dqs.go e k r)
end
theorem Same.fr0 (e:Same H H'):Fr0 (λ _=>False) H H':=⟨λ b o _ q=>e b o q,λ _ x=>x.elim⟩
theorem Dq.same (e:Same H H') (k:∀ a,F a->F' a) {x:V} {d:PyData} (h:Dq K H F x d):Dq K H' F' x d:=h.go e.fr0 λ a _ f _=>⟨k a f,λ z=>z⟩
theorem a0t {α:Type} {R:V->α->Prop} {g:α->PyData} (r:∀ v a,R v a->Dq K H F v (g a)):∀ {vs:List V} {as:List α},aN R vs as->Dqs K H F vs (as.map g)
 | _,_,.nil=>.nil
 | _,_,.cons x t=>.cons (r _ _ x) (a0t r t)
theorem a1R:∀ ns:List Int,Dqs K H F (ns.map V.int) (ns.map PyData.int)
 | []=>.nil
 | n::ns=>.cons (.int n) (a1R ns)
end
end L2
namespace Rim
open PySem L2 Fr
section
variable {P:Program} {w:World} {K:W.Frag} {mg:Str->Option Value} {base:Heap} {f C CN CB CT CL Pt:Addr} {fd:FuncData} {n:Nat}
theorem b1I {H:Hp} {F:Addr->Prop} {v:V} {h:j0} (x:HS K H v h):Dq K H F v (C6 h):=by
 obtain ⟨a,t,g,rfl,h0,h1,h2⟩:=x;exact .tup h0 (.cons (.tup h1 (a1R _)) (.cons (.tup h2 (a1R _)) .nil))
theorem a2m {H:Hp} {F:Addr->Prop} {v:V} {q:Q2} (x:FrT H v q):Dq K H F v (dF q):=by
 obtain ⟨a,rfl,h⟩:=x;exact .tup (SqT.of h) (.cons (.int _) (.cons (.int _) .nil))
theorem a3K {H:Hp} {F:Addr->Prop} {v:V} {q:Q2} (x:FrV K H v q):Dq K H F v (dF q):=by
 obtain ⟨a,rfl,h⟩:=x;exact .tup h (.cons (.int _) (.cons (.int _) .nil))
def a1l (K:W.Frag) (C:Addr):Sp:=λ vs H Q _=>∃ (p pa:Addr) (kt kg:Nat) (z:Str) (L:Lev) (past:List Lev) (lo:List Addr),vs=[.ref p]/\KpAt K C H p kt kg z L past pa lo ∧
 ∀ (l:Addr) (ys:List V) (H':Hp),Same H H'->H l=none->H' l=some (.lst ys)->aN (FrT H') ys L.2->Q (.ref l) H'
theorem a7F:m9 ["self"] ["self"] (i8 Q7):=⟨rfl,rfl,rfl,by decide +kernel,rfl,by decide +kernel,by decide +kernel⟩
theorem a5p (F:Fun K "shares" "Kept.shares" Q7 f fd) (T:x5 mg) (TKd:TK K C):FnOk P w K mg base E4 (n+1) f fd ["self"] (a1l K C):=by
 refine F.ok a7F (λ vs H Q E h=>?_) (λ cdv A outer s H vs Q E hr h=>?_)
 ·obtain ⟨p,pa,kt,kg,z,L,past,lo,rfl,_⟩:=h
  rfl
 obtain ⟨p,pa,kt,kg,z,L,past,lo,rfl,KP,q⟩:=h;refine ⟨_,j3 (r9 (v9 B7 rfl T.list dJ (a0 (t7 (pv 0) rfl) e9))),?_⟩;obtain ⟨dx,ta,wa,pv0,hp,⟨lv1,lv2,⟨xs,hta,hxs⟩,ys,hwa,hys⟩,hpa,hps⟩:=KP.ex;refine ⟨_,rfl,p,C,dx,_,_,rfl,hp,TKd.cl,TKd.nW,rfl,wa,ys,rfl,.inl (SqL.of hwa),λ l hl=>?_⟩;have s1:=Same.new hl (.lst ys);exact q l ys _ s1 hl upd_same (Paired.imp' (λ _ _ r=>r.same s1) hys)
def a5n (K:W.Frag) (C Pt:Addr):Sp:=λ vs H Q _=>∃ (p pa:Addr) (kt kg:Nat) (z:Str) (L:Lev) (past:List Lev) (lo:List Addr),vs=[.ref p]/\KpAt K C H p kt kg z L past pa lo/\Fit z kt kg/\(∀ g∈L.1,HG (10 ^ 9) kt kg g)/\L.1.length<=16/\LT Pt H ∧
 ∀ (H':Hp) (r:Addr),Same1 Pt H H'->LT Pt H'->H r=none->H' r=some (.lst ((a2H z L.1).map λ (i:Nat)=>V.int (i:Int)))->Q (.ref r) H'
theorem b2L:m9 ["self"] ["self"] (i8 a0w):=⟨rfl,rfl,rfl,by decide +kernel,rfl,by decide +kernel,by decide +kernel⟩
theorem b1f {f1:Addr} {d1:FuncData} (F:Fun K "rim" "Kept.rim" a0w f fd) (TKd:TK K C) (Cr:a0f P w K mg base n "rim_of" ["book","sizes"] (a1E K Pt) f1 d1):FnOk P w K mg base E4 (n+1) f fd ["self"] (a5n K C Pt):=by
 refine F.ok b2L (λ vs H Q E h=>?_) (λ cdv A outer s H vs Q E hr h=>?_)
 ·obtain ⟨p,pa,kt,kg,z,L,past,lo,rfl,_⟩:=h
  rfl
 obtain ⟨p,pa,kt,kg,z,L,past,lo,rfl,KP,ft,hG,h16,LTH,q⟩:=h;refine ⟨_,j3 (r9 (o6 Cr.ok hr rfl Cr.m Cr.k Cr.b .nil w6 (a0 (t7 (pv 0) rfl) (a0 (t7 (pv 0) rfl) e9)))),?_⟩;obtain ⟨dx,ta,wa,pv0,hp,⟨lv1,lv2,⟨xs,hta,hxs⟩,ys,hwa,hys⟩,hpa,hps⟩:=KP.ex;refine ⟨_,rfl,p,C,dx,_,_,rfl,hp,TKd.cl,TKd.nH,rfl,_,rfl,p,C,dx,_,_,rfl,hp,TKd.cl,TKd.nS,rfl,?_⟩;exact ⟨ta,xs,L.1,z,10 ^ 9,kt,kg,rfl,ft.z,⟨SqL.of hta,hxs,hG,by decide,h16,by have:=ft.t4; omega,by have:=ft.g4; omega⟩,by decide,LTH,q⟩
theorem Shs.uniq {z:Str} {hs:List j0} {kt kg:Nat} {qs qs':List Q2} (hz:Szw z) (hG:∀ g∈hs,HG (10 ^ 9) kt kg g) (a:Shs z hs kt kg qs) (b:Shs z hs kt kg qs'):qs=qs':=by
 refine List.ext_getElem (by rw [a.1,b.1]) λ i h1 h2=>?_;have hi:i<hs.length:=by rw [<- a.1]; exact h1
 obtain ⟨A,B,x,e⟩:=a.2 i hs[i] qs[i] (aH hi) (aH h1);obtain ⟨A',B',x',e'⟩:=b.2 i hs[i] qs'[i] (aH hi) (aH h2);rw [e,e'];exact x.fr hz x'.s hG (hG _ (cU hi))
open Classical in
noncomputable def O2 (z:Str) (kt kg:Nat) (hs:List j0):List Q2:=if h:∃ qs,Shs z hs kt kg qs then mU h else []
theorem Shs.q {z:Str} {hs:List j0} {kt kg:Nat} {qs:List Q2} (hz:Szw z) (hG:∀ g∈hs,HG (10 ^ 9) kt kg g) (a:Shs z hs kt kg qs):qs=O2 z kt kg hs:=by
 have h:∃ qs,Shs z hs kt kg qs:=⟨_,a⟩;unfold O2;rw [dif_pos h];exact a.uniq hz hG (kW h)
theorem a6o {z:Str} {kt kg:Nat}:O2 z kt kg []=[]:=by
 unfold O2
 split
 ·next h=>exact gW (kW h).1
 ·rfl
noncomputable def lv (z:Str) (kt kg:Nat) (hs:List j0):Lev:=(hs,O2 z kt kg hs)
noncomputable def a0d (ps qs:List Q2):PyData:=.list ((chI ps qs).map λ (i:Nat)=>.tuple [.int (i:Int),dF (ps.getD i (0,0)),dF (qs.getD i (0,0))])
theorem ChgL.dq {H:Hp} {F:Addr->Prop} {l:Addr} {ps qs:List Q2} (h:ChgL K H l ps qs) (hF:F l):Dq K H F (.ref l) (a0d ps qs):=by
 obtain ⟨xs,ys,ts,h1,h2,h3,h4⟩:=h;refine .lst hF h3 ?_;have:∀ {is:List Nat} {ts:List V},ChAt H xs ys is ts->Dqs K H F ts (is.map λ (i:Nat)=>.tuple [.int (i:Int),dF (ps.getD i (0,0)),dF (qs.getD i (0,0))]):=by
  intro is ts h
  induction h with
  | nil=>exact .nil
  | @cons i v is ts r _ ih =>
   obtain ⟨t,x,y,rfl,ex,ey,ht⟩:=r;obtain ⟨p,e1,r1⟩:=C9 h1 ex;obtain ⟨q,e2,r2⟩:=C9 h2 ey;have g1:ps.getD i (0,0)=p:=by rw [aI,e1]; rfl
   have g2:qs.getD i (0,0)=q:=by rw [aI,e2]; rfl
   refine .cons (.tup (SqT.of ht) (.cons (.int _) (.cons ?_ (.cons ?_ .nil)))) ih
   ·rw [g1]; exact a3K r1
   ·rw [g2]; exact a3K r2
 exact this h4
noncomputable def a3a (z:Str) (kt kg:Nat) (hs:List j0):PyData:=.list [.list (hs.map C6),.list ((O2 z kt kg hs).map dF),.list ((a2H z hs).map λ (i:Nat)=>.int (i:Int))]
end
end Rim
namespace L2
open PySem PySem.Spec PyProof.Rows
def b1K (C:Addr) (m:Str) (sp:Sp) (EX:St->XK) (ta:TE) (t:TA):TE:=λ σ H Q=>ta σ H λ x H1=>∃ a dx fs,x=.ref a/\H1 a=some (.ins C dx fs)/\fs.lookup m=none/\t σ H1 λ vs H2=>sp (x::vs) H2 Q (EX σ)
section
variable {X:Cx} {CX:CXT} {k:Nat} {f C:Addr} {fd:FuncData} {ps:List Str} {sp:Sp} {EX:St->XK} {m:Str} {pos apos:Pos} {o e:Expr} {es:List Expr} {ta:TE} {t:TA}
theorem b0f {pins:List (Addr×Obj)} {σ:St} {H:Hp} {s:Shared} {Q:VK} {us:List Value} {vs:List V} (F:FnOk X.prog X.w X.K X.mg X.base CX k f fd ps sp) (hr:Room k X.A) (hb:Binds X.K fd ps []) (hx:a1H CX X EX)
  (I:Inv X pins σ H s) (r:Vals vs us) (h:sp vs H Q (EX σ)):wpAny (model X.prog X.w) X.A (call (.ref f) us) (EP X pins σ Q) X.xe s:=by
 have hl:(us++[]).length=ps.length:=by rw [eW,<- r.length]; exact F.len _ _ _ _ h
 have hb':=hb s us I.kIn hl;rw [eW] at hb';refine wpAny_call (codeAny_mono (F.run X.A X.stack s H ⟨us,[]⟩ us vs Q (EX σ) hr I.env0 hb' r h) λ rr s' hq=>?_)
 cases rr with
 | error e=>exact hx pins σ H s e s' I hq
 | ok fl =>
  cases fl with
  | ret u=>exact I.after hq
  | next=>exact bM hq
  | brk=>exact bM hq
  | cont=>exact bM hq
theorem a4B {pl:Sem Bool} (he:PE X o ta) (c:Cls X.K C) (hm:a7j X.K C m f) (F:FnOk X.prog X.w X.K X.mg X.base CX k f fd ps sp) (hr:Room k X.A) (hb:Binds X.K fd ps []) (hx:a1H CX X EX) (ha:PA X (e::es) t)
  (hst:starEach (e::es) X.env=(false,eval e X.env)::starEach es X.env:=by rfl) (hpl:(backTo pos (starEach es X.env)).any (·.1)=false:=by rfl)
  (ht:eval (.Call (.Attribute o m apos) (e::es) [] pos) X.env=(do
   let ov <- eval o X.env
   standAt apos.atName
   let (f,first) <- holding [ov] (getMethod ov m pl)
   callWith pos f first (backTo pos (starEach (e::es) X.env)) (backToKw pos (keywordEach [] X.env))):=by rfl) :
  PE X (.Call (.Attribute o m apos) (e::es) [] pos) (b1K C m sp EX ta t):=by
 intro pins s σ H Q I h;refine W.methodCall_KW (pl:=pl) (A8 (he pins s σ H _ I h) λ u s1 ⟨x,H1,I1,rx,a,dx,fs,ex,ea,l,q⟩=>?_) ht;subst ex;obtain rfl:u=Value.ref a:=rx;refine a0l I1 ea c hm l ?_;refine W.callWith_K (first:=[.ref a]) (h₀:=X.base) I.ok.mod.kin hm.kp (A8 (ha pos pins s1 σ H1 _ I1 q) λ us s2 ⟨vs,H2,I2,r,q2⟩=>⟨I2.kIn,?_⟩) hst hpl;exact b0f (us:=.ref a::us) (vs:=.ref a::vs) F hr hb hx I2 (.cons rfl r) q2
end
end L2
namespace L2
open PySem
def b3k (t:TT):TT:=λ σ H Q=>∃ M:Bool->Hp->Prop,t σ H M/\∀ b H',M b H'->Q b H'
theorem a3p {X:Cx} {e:Expr} {t:TT} (h:PT X e t):PT X e (b3k t):=λ pins s σ H Q I ⟨M,h1,h2⟩=>A8 (h pins s σ H M I h1) λ b s' ⟨H',I',q⟩=>⟨H',I',h2 b H' q⟩
section
variable {fr:List Nat} {te:TE} {σ:St} {H1:Hp} {p:Addr} {D:Hp->Prop}
theorem a8K (R0:V->Hp->Prop) (R1:V->V->Hp->Prop)
  (s0:∀ N:VK,(∀ v H3,R0 v H3->H3 p=some (.lst [])->N v H3)->te ((blkσ 1 fr σ).set 0 (some (.int 0))) (r6 H1 p (.lst [])) N)
  (s1:∀ v0 H2 (N:VK),R0 v0 H2->H2 p=some (.lst [])->(∀ v H3,R1 v0 v H3->H3 p=some (.lst [v0])->N v H3)->te ((blkσ 1 fr σ).set 0 (some (.int 1))) (r6 H2 p (.lst [v0])) N)
  (hd:∀ v0 v1 H3,R1 v0 v1 H3->H3 p=some (.lst [v0])->D (r6 H3 p (.lst [v0,v1]))):lcW 1 fr (J8 0) te σ (Itr 0 2) H1 p D:=by
 refine ⟨λ i m ys H=>(i=0/\m=2/\ys=[]/\H=r6 H1 p (.lst []))\/(i=1/\m=1/\∃ v0 H2,ys=[v0]/\R0 v0 H2/\H2 p=some (.lst [])/\H=r6 H2 p (.lst [v0]))\/(i=2/\m=0/\∃ v0 v1 H3,ys=[v0,v1]/\R1 v0 v1 H3/\H3 p=some (.lst [v0])/\H=r6 H3 p (.lst [v0,v1])),⟨2,.inl ⟨rfl,rfl,rfl,rfl⟩⟩,?_⟩;rintro i m ys H (⟨rfl,rfl,rfl,rfl⟩ | ⟨rfl,rfl,v0,H2,rfl,r0,h2,rfl⟩ | ⟨rfl,rfl,v0,v1,H3,rfl,r1,h3,rfl⟩)
 ·refine .inr ⟨(by show 0<2; decide),λ x H' y=>?_⟩
  obtain ⟨rfl,rfl⟩:=y;refine ⟨Wk.set (by decide),s0 _ λ v H3 r h=>⟨h,by decide,1,by decide,.inr (.inl ⟨rfl,rfl,v,H3,rfl,r,h,rfl⟩)⟩⟩
 ·refine .inr ⟨(by show 1<2; decide),λ x H' y=>?_⟩
  obtain ⟨rfl,rfl⟩:=y;refine ⟨Wk.set (by decide),s1 v0 H2 _ r0 h2 λ v H3 r h=>⟨h,(by show 1<sizeLine; decide),0,by decide,.inr (.inr ⟨rfl,rfl,v0,v,H3,rfl,r,h,rfl⟩)⟩⟩
 ·exact .inl ⟨Nat.le_refl _,hd v0 v1 H3 r1 h3⟩
end
end L2
namespace Rim
open PySem L2 Fr
section
variable {K:W.Frag} {C Pt:Addr} {H H':Hp} {p pa:Addr} {lo:List Addr} {kt kg:Nat} {z:Str} {L:Lev} {past:List Lev}
theorem S3 (T:LT Pt H) (e:Same1 Pt H H'):Fr0 (λ b=>b=Pt) H H':=⟨λ b o n h=>e b o n h,λ x hx=>by subst hx; exact L6 T⟩
theorem KpAt.same1 (T:LT Pt H) (e:Same1 Pt H H') (h:KpAt K C H p kt kg z L past pa lo):KpAt K C H' p kt kg z L past pa lo:=by
 obtain ⟨dx,ta,wa,pv0,hp,_,hpa,_⟩:=h.ex;refine h.fr0 (S3 T e) (λ b hb=>?_) (T.ne hp nofun) (T.ne hpa nofun);obtain ⟨zs,hz⟩:=h.ls b hb;exact T.ne hz nofun
theorem a6T {x:Addr} (e:Same1 Pt H H') (T:LT Pt H') (h:H' x=none):H x=none:=by
 cases q:H x with
 | none=>rfl
 | some o =>
  have n3:x≠Pt:=λ z=>by
   subst z;rcases T with t | ⟨c,t,_⟩ <;> (rw [h] at t; cases t)
  rw [e x o n3 q] at h; cases h
end
abbrev KS:=List j0×List (List j0)
structure OkK (z:Str) (kt kg:Nat) (hs:List j0):Prop where
 m:hs.length<=16
 g:∀ g∈hs,HG (10 ^ 9) kt kg g
 l:(O2 z kt kg hs).length=hs.length
abbrev OkS (z:Str) (kt kg:Nat) (S:KS):Prop:=∀ hs∈S.2++[S.1],OkK z kt kg hs
abbrev KpS (K:W.Frag) (C:Addr) (H:Hp) (p:Addr) (kt kg:Nat) (z:Str) (S:KS) (pa:Addr) (lo:List Addr):Prop:=KpAt K C H p kt kg z (lv z kt kg S.1) (S.2.map (lv z kt kg)) pa lo
theorem a1F (ps qs:List Q2):(a0d ps qs).canLay0=true:=by
 unfold a0d;rw [PyData.canLay0];generalize chI ps qs=is
 induction is with
 | nil=>rw [dG,PyData.canLayAll0]
 | cons i is ih =>
  rw [aV,PyData.canLayAll0,ih,PyData.canLay0,PyData.canLayAll0,PyData.canLayAll0,PyData.canLayAll0,PyData.canLayAll0,X2,X2,PyData.canLay0]; rfl
theorem a1Q (q:Q2):(dF q).depth<=5:=by
 unfold dF;simp [PyData.depth,PyData.depthAll]
theorem a6D (ps qs:List Q2):(a0d ps qs).depth<=20:=by
 unfold a0d;rw [PyData.depth];generalize chI ps qs=is;have:PyData.depthAll (is.map λ (i:Nat)=>PyData.tuple [.int (i:Int),dF (ps.getD i (0,0)),dF (qs.getD i (0,0))])<=10:=by
  induction is with
  | nil=>rw [dG]; simp [PyData.depthAll]
  | cons i is ih =>
   rw [aV,PyData.depthAll];refine fV.mpr ⟨?_,ih⟩;have a:=a1Q (ps.getD i (0,0));have b:=a1Q (qs.getD i (0,0));rw [PyData.depth];simp only [PyData.depthAll,PyData.depth];omega
 omega
theorem a9E (z:Str) (kt kg:Nat) (hs:List j0):(a3a z kt kg hs).canLay0=true:=by
 unfold a3a;have a:PyData.canLayAll0 ((O2 z kt kg hs).map dF)=true:=by
  generalize O2 z kt kg hs=l
  induction l with
  | nil=>rw [dG,PyData.canLayAll0]
  | cons x l ih=>rw [aV,PyData.canLayAll0,X2,ih]; rfl
 have b:PyData.canLayAll0 ((a2H z hs).map λ (i:Nat)=>PyData.int (i:Int))=true:=by
  generalize a2H z hs=l
  induction l with
  | nil=>rw [dG,PyData.canLayAll0]
  | cons x l ih=>rw [aV,PyData.canLayAll0,PyData.canLay0,ih]; rfl
 rw [PyData.canLay0,PyData.canLayAll0,PyData.canLayAll0,PyData.canLayAll0,PyData.canLayAll0,PyData.canLay0,PyData.canLay0,PyData.canLay0,a,b,X3]; rfl
theorem a9p (z:Str) (kt kg:Nat) (hs:List j0):(a3a z kt kg hs).depth<=60:=by
 unfold a3a;have a:PyData.depthAll ((O2 z kt kg hs).map dF)<=5:=by
  generalize O2 z kt kg hs=l
  induction l with
  | nil=>rw [dG]; simp [PyData.depthAll]
  | cons x l ih=>rw [aV,PyData.depthAll]; exact fV.mpr ⟨a1Q x,ih⟩
 have b:PyData.depthAll ((a2H z hs).map λ (i:Nat)=>PyData.int (i:Int))<=5:=by
  generalize a2H z hs=l
  induction l with
  | nil=>rw [dG]; simp [PyData.depthAll]
  | cons x l ih=>rw [aV,PyData.depthAll]; exact fV.mpr ⟨by simp [PyData.depth],ih⟩
 have c:=P2 hs;simp only [PyData.depth,PyData.depthAll];omega
theorem a2i {z:Str} {kt kg:Nat} {S:KS} {hs:List j0} (o:OkS z kt kg S) (h:OkK z kt kg hs):OkS z kt kg (hs,S.2++[S.1]):=λ g hg=>by
 rcases aO.mp hg with hg | hg
 ·exact o g hg
 ·rw [bF.mp hg]; exact h
theorem a5H {H:Hp} {ha wa:Addr} {lo:List Addr} (h1:H ha=none) (h2:H wa=none):∀ b∈ha::wa::lo,b∈lo\/H b=none:=λ b hb=>by
 rcases aJ.mp hb with rfl | hb
 ·exact .inr h1
 ·rcases aJ.mp hb with rfl | hb
  ·exact .inr h2
  ·exact .inl hb
theorem b0O {xs:List V} {lo hi:Option Int} {v:V} (h:v∈E8 xs lo hi):v∈xs:=eJ (fU h)
theorem made {K:W.Frag} {C:Addr} {H:Hp} {Q:VK} {kt kg:Nat} {z:Str} {E:XK} (h:∀ p pa lo H',Same H H'->H p=none->H pa=none->(∀ b∈lo,H b=none)->KpAt K C H' p kt kg z ([],[]) [] pa lo->Q (.ref p) H') :
  ∀ x dx:Addr,H x=none->H dx=none->dx≠x->a3Z K C [.ref x,.int (kt:Int),.int (kg:Int),.str z] (r6 (r6 H dx (.own x)) x (.ins C dx [])) (λ v H'=>v=.non/\Q (.ref x) H') E:=by
 intro x dx hx hdx nd;have sx:∀ b o,H b=some o->(r6 (r6 H dx (.own x)) x (.ins C dx [])) b=some o:=λ b o q0=>by rw [c9 (d7 q0 hx),c9 (d7 q0 hdx)]; exact q0
 have fr:∀ b,(r6 (r6 H dx (.own x)) x (.ins C dx [])) b=none->H b=none:=λ b hb=>by
  cases q:H b with
  | none=>rfl
  | some o=>rw [sx b o q] at hb; cases hb
 exact ⟨x,dx,kt,kg,z,rfl,upd_same,λ H4 pa lo KP k f1 f2=>⟨rfl,h x pa lo H4 (λ b o q0=>k b o (d7 q0 hx) (sx b o q0)) hx (fr _ f1) (λ b hb=>fr b (f2 b hb)) KP⟩⟩
structure Kq where
 p:Addr
 pa:Addr
 kt:Nat
 kg:Nat
 z:Str
def KO (K:W.Frag) (C:Addr) (H:Hp) (Ws:List Addr) (o:Kq) (S:KS):Prop:=∃ lo,KpS K C H o.p o.kt o.kg o.z S o.pa lo/\(∀ b∈lo,b ∉ Ws)/\OkS o.z o.kt o.kg S
section
variable {K:W.Frag} {C Pt:Addr} {H H':Hp} {Ws:List Addr} {o x y u:Kq} {S Sx':KS} {dx dy tl:Addr}
theorem KO.p' (k:KO K C H Ws o S):∃ dx fs,H o.p=some (.ins C dx fs):=by
 obtain ⟨lo,kp,_⟩:=k;obtain ⟨dx,_,_,pv,h,_⟩:=kp.ex;exact ⟨dx,_,h⟩
theorem KO.pa' (k:KO K C H Ws o S):∃ pv,H o.pa=some (.lst pv):=by
 obtain ⟨lo,kp,_⟩:=k;obtain ⟨dx,_,_,pv,_,_,h,_⟩:=kp.ex;exact ⟨pv,h⟩
theorem KO.new {lo:List Addr} (k:KpAt K C H o.p o.kt o.kg o.z ([],[]) [] o.pa lo) (n:∀ b∈lo,b ∉ Ws):KO K C H Ws o ([],[]):=by
 refine ⟨lo,?_,n,λ hs h=>?_⟩
 ·show KpAt K C H o.p o.kt o.kg o.z ([],O2 o.z o.kt o.kg []) [] o.pa lo
  rw [a6o]; exact k
 ·have:hs=[]:=by simpa using h
  subst this;exact ⟨by decide,(λ g hg=>nomatch hg),(by rw [a6o]; rfl)⟩
theorem KO.same (e:Same H H') (k:KO K C H Ws o S):KO K C H' Ws o S:=by
 obtain ⟨lo,kp,n,ok⟩:=k;exact ⟨lo,kp.same e,n,ok⟩
theorem KO.same1 (T:LT Pt H) (e:Same1 Pt H H') (k:KO K C H Ws o S):KO K C H' Ws o S:=by
 obtain ⟨lo,kp,n,ok⟩:=k;exact ⟨lo,kp.same1 T e,n,ok⟩
theorem KO.write {w:Addr} {vs ws:List V} (k:KO K C H Ws o S) (hw:H w=some (.lst vs)) (ww:w∈Ws) (nw:o.pa≠w):KO K C (r6 H w (.lst ws)) Ws o S:=by
 obtain ⟨do',fo,hp⟩:=k.p';obtain ⟨lo,kp,n,ok⟩:=k;have fr:Fr0 (λ b=>b=w) H (r6 H w (.lst ws)):=⟨λ b o hx e=>by rw [c9 hx]; exact e,λ x hx=>by subst hx; exact x4 hw⟩;exact ⟨lo,kp.fr0 fr (λ b hb hX=>n b hb (hX ▸ ww)) (λ z=>by rw [z,hw] at hp; cases hp) nw,n,ok⟩
def Tr (Ws:List Addr) (H H':Hp):Prop:=∃ X:Addr->Prop,Fr0 X H H'/\∀ b xs,b ∉ Ws->H b=some (.lst xs)->¬ X b
theorem Tr.same (e:Same H H'):Tr Ws H H':=⟨_,e.fr0,λ _ _ _ _ z=>z⟩
theorem Tr.same1 (T:LT Pt H) (e:Same1 Pt H H'):Tr Ws H H':=⟨_,S3 T e,λ b xs _ h z=>T.ne h nofun z⟩
theorem Tr.left (T:LT Pt H) (kx:KO K C H Ws x Sx') (wx:x.pa∈Ws) (lf:Left Pt x.p x.pa H H'):Tr Ws H H':=by
 obtain ⟨dx,fs,hx⟩:=kx.p';obtain ⟨pv,hxa⟩:=kx.pa';refine ⟨λ b=>b=x.p\/b=x.pa\/b=Pt,⟨λ b o hx e=>lf b o (λ z=>hx (.inl z)) (λ z=>hx (.inr (.inr z))) (λ z=>hx (.inr (.inl z))) e,λ x hx=>by
  rcases hx with rfl | rfl | rfl
  ·exact L9 ‹_›
  ·exact x4 hxa
  ·exact L6 T⟩,λ b xs n h z=>?_⟩
 rcases z with rfl | rfl | rfl
 ·rw [hx] at h; cases h
 ·exact n wx
 ·exact T.ne h nofun rfl
theorem Tr.write {w:Addr} {vs ws:List V} (hw:H w=some (.lst vs)) (ww:w∈Ws):Tr Ws H (r6 H w (.lst ws)) :=
 ⟨λ b=>b=w,⟨λ b o hx e=>by rw [c9 hx]; exact e,λ x hx=>by subst hx; exact x4 hw⟩,λ b xs n h z=>n (z ▸ ww)⟩
theorem Tr.lst (t:Tr Ws H H') {b:Addr} {xs:List V} (n:b ∉ Ws) (h:H b=some (.lst xs)):H' b=some (.lst xs):=by
 obtain ⟨X,e,k⟩:=t;exact e.k _ _ (k b xs n h) h
theorem Tr.tup (t:Tr Ws H H') {b:Addr} {xs:List V} (h:H b=some (.tup xs)):H' b=some (.tup xs):=by
 obtain ⟨X,e,k⟩:=t;exact e.tup h
end
end Rim
namespace L2
open PySem PySem.W
theorem a0q {K:Frag} {C:Addr} {B:List Value} {nid:String} (q:excIn K C B nid=true):∃ nm qn N bs bm hdct sn sub ab col dd k0 k1 k2 k3 k5,K.lookup C=some (excClassObj nm qn C N bs bm hdct sn sub ab col dd k0 k1 k2 k3 k5 nid)/\nsOkIn K N=true/\nsIn K N "__init__"=some none/\tailIn K B bm=true:=by
 unfold excIn at q
 split at q
 ·rename_i e1 e2 e3 lk
  split at q
  ·rename_i C' bm w0 w1 w2 w3 nn w5 em es
   simp only [dO,beq_iff_eq,Bool.not_eq_true'] at q;obtain ⟨⟨⟨⟨⟨u1,u2⟩,u3⟩,u4⟩,u5⟩,u6⟩:=q
   cases u1
   cases u2;obtain ⟨n1,n2,n3,n4,n5,n6,n7,n8,n9,n10,n11⟩:=e2;obtain ⟨ls⟩:=e3
   replace em:n3=_:=em
   replace u3:n11=false:=u3
   replace es:ls=_:=es
   subst em u3 es;exact ⟨n1,n5,n4,n2,bm,n6,n7,n8,n9,n10,e1,w0,w1,w2,w3,w5,lk,u5,u6,u4⟩
  ·cases q
 ·cases q
def FunI (K:Frag) (x qual:Str) (st:Stmt) (f:Addr) (cd:Value):Prop:=∃ oc od kV dc pm an ct sl,K.lookup f=some ⟨oc,od,.func (fnOf x qual (F0 st) (w4 st) (i8 st) .none kV dc pm an cd ct),sl⟩/\codeIn K cd qual=true/\keepIn K (.ref f)=true
theorem fun_in {K:Frag} {x qual:Str} {st:Stmt} {f:Addr} {cd oc kV dc pm ct:Value} {od an:Option Addr} {sl:Array (Option Value)} (l:K.lookup f=some ⟨oc,od,.func (fnOf x qual (F0 st) (w4 st) (i8 st) .none kV dc pm an cd ct),sl⟩) (c:codeIn K cd qual=true) (k:keepIn K (.ref f)=true):FunI K x qual st f cd:=⟨_,_,_,_,_,_,_,_,l,c,k⟩
theorem FunI.fn {K:Frag} {x qual:Str} {st:Stmt} {f:Addr} {cd:Value} (h:FunI K x qual st f cd):∃ fd,Fun K x qual st f fd/\fd.code=cd/\keepIn K (.ref f)=true:=by
 obtain ⟨_,_,_,_,_,_,_,_,l,c,k⟩:=h;exact ⟨_,a8y l c k,rfl,k⟩
theorem Fun.b1 {K:Frag} {x qual:Str} {st:Stmt} {f:Addr} {fd:FuncData} {p0:Str} (F:Fun K x qual st f fd) (h:∀ (kV doc pm:Value) (an:Option Addr) (cdv ct v0:Value),bindArgs (fnOf x qual (F0 st) (w4 st) (i8 st) .none kV doc pm an cdv ct) ⟨[v0],[]⟩=pure [(p0,v0)]):Binds K fd [p0] [] :=
 F.binds λ a b c d e g us hl=>match us,hl with | [v0],_=>h a b c d e g v0
theorem Fun.b2 {K:Frag} {x qual:Str} {st:Stmt} {f:Addr} {fd:FuncData} {p0 p1:Str} (F:Fun K x qual st f fd) (h:∀ (kV doc pm:Value) (an:Option Addr) (cdv ct v0 v1:Value),bindArgs (fnOf x qual (F0 st) (w4 st) (i8 st) .none kV doc pm an cdv ct) ⟨[v0,v1],[]⟩=pure [(p0,v0),(p1,v1)]):Binds K fd [p0,p1] [] :=
 F.binds λ a b c d e g us hl=>match us,hl with | [v0,v1],_=>h a b c d e g v0 v1
theorem Fun.b3 {K:Frag} {x qual:Str} {st:Stmt} {f:Addr} {fd:FuncData} {p0 p1 p2:Str} (F:Fun K x qual st f fd) (h:∀ (kV doc pm:Value) (an:Option Addr) (cdv ct v0 v1 v2:Value),bindArgs (fnOf x qual (F0 st) (w4 st) (i8 st) .none kV doc pm an cdv ct) ⟨[v0,v1,v2],[]⟩=pure [(p0,v0),(p1,v1),(p2,v2)]):Binds K fd [p0,p1,p2] [] :=
 F.binds λ a b c d e g us hl=>match us,hl with | [v0,v1,v2],_=>h a b c d e g v0 v1 v2
theorem Fun.b4 {K:Frag} {x qual:Str} {st:Stmt} {f:Addr} {fd:FuncData} {p0 p1 p2 p3:Str} (F:Fun K x qual st f fd) (h:∀ (kV doc pm:Value) (an:Option Addr) (cdv ct v0 v1 v2 v3:Value),bindArgs (fnOf x qual (F0 st) (w4 st) (i8 st) .none kV doc pm an cdv ct) ⟨[v0,v1,v2,v3],[]⟩=pure [(p0,v0),(p1,v1),(p2,v2),(p3,v3)]):Binds K fd [p0,p1,p2,p3] [] :=
 F.binds λ a b c d e g us hl=>match us,hl with | [v0,v1,v2,v3],_=>h a b c d e g v0 v1 v2 v3
theorem Fun.b5 {K:Frag} {x qual:Str} {st:Stmt} {f:Addr} {fd:FuncData} {p0 p1 p2 p3 p4:Str} (F:Fun K x qual st f fd) (h:∀ (kV doc pm:Value) (an:Option Addr) (cdv ct v0 v1 v2 v3 v4:Value),bindArgs (fnOf x qual (F0 st) (w4 st) (i8 st) .none kV doc pm an cdv ct) ⟨[v0,v1,v2,v3,v4],[]⟩=pure [(p0,v0),(p1,v1),(p2,v2),(p3,v3),(p4,v4)]):Binds K fd [p0,p1,p2,p3,p4] [] :=
 F.binds λ a b c d e g us hl=>match us,hl with | [v0,v1,v2,v3,v4],_=>h a b c d e g v0 v1 v2 v3 v4
end L2
namespace Rim
open PySem L2 Fr
structure b0b (K:W.Frag) (mg:Str->Option Value) (cE cB cH cR cT cM cL:Addr):Prop where
 mE:mg "RimError"=some (.ref cE)
 mB:mg "NoBook"=some (.ref cB)
 mH:mg "NoHouse"=some (.ref cH)
 mR:mg "NoRow"=some (.ref cR)
 mT:mg "NoText"=some (.ref cT)
 mM:mg "TooMany"=some (.ref cM)
 mL:mg "NothingLeft"=some (.ref cL)
 kE:V5 K cE
structure a1T (K:W.Frag) (c cE cB cH cR cT cM cL:Addr) (b1 b2 b3 b4 b5 b6:Bool):Prop where
 k:V5 K c
 sub:W.mroIn K c (.ref cE)=some true
 i1:W.kitOne K (.ref c) (.ref cB)=some b1
 i2:W.kitOne K (.ref c) (.ref cH)=some b2
 i3:W.kitOne K (.ref c) (.ref cR)=some b3
 i4:W.kitOne K (.ref c) (.ref cT)=some b4
 i5:W.kitOne K (.ref c) (.ref cM)=some b5
 i6:W.kitOne K (.ref c) (.ref cL)=some b6
 v:W.kitOne K (.ref c) (.type "ValueError")=some true
abbrev a3A (b1 b2 b3 b4 b5 b6:Bool):List V:=[.bl b1,.bl b2,.bl b3,.bl b4,.bl b5,.bl b6,.bl true]
section
variable {P:Program} {w:World} {K:W.Frag} {mg:Str->Option Value} {base:Heap} {f g:Addr} {fd gd:FuncData} {n:Nat}
def a5k (K:W.Frag) (cE cB cH cR cT cM cL:Addr):Sp:=λ vs H Q _=>∃ (ea c:Addr) (b1 b2 b3 b4 b5 b6:Bool),vs=[.ref ea]/\H ea=some (a7I ea c)/\a1T K c cE cB cH cR cT cM cL b1 b2 b3 b4 b5 b6/\∀ (r:Addr) (H':Hp),Same H H'->H' r=some (.lst (a3A b1 b2 b3 b4 b5 b6))->Q (.ref r) H'
theorem scKin:m9 ["e","kin"] ["e"] (i8 U0):=⟨rfl,rfl,rfl,by decide +kernel,rfl,by decide +kernel,by decide +kernel⟩
theorem b0Q:bootBuiltins "ValueError"=some (.type "ValueError"):=by decide +kernel
theorem a9T {cE cB cH cR cT cM cL:Addr} (F:Fun K "_law_a_kin" "_law_a_kin" U0 f fd) (T:x5 mg) (R:b0b K mg cE cB cH cR cT cM cL):FnU P w K mg base (n+1) f fd ["e"] (a5k K cE cB cH cR cT cM cL):=by
 refine F.okU scKin (λ vs H Q E h=>?_) (λ cdv A outer s H vs Q E hr h=>?_)
 ·obtain ⟨ea,c,b1,b2,b3,b4,b5,b6,rfl,_⟩:=h
  rfl
 obtain ⟨ea,c,b1,b2,b3,b4,b5,b6,rfl,he,M,q⟩:=h;refine ⟨_,i9 (o4 (i:=1) scKin.nd rfl (aC rfl) (u9 (a0 (j6 D5 rfl T.isi dD (a0 (pv 0) (a0 (K2 (v:=.ref cB) rfl R.mB rfl) e9)))
   (a0 (j6 D5 rfl T.isi dD (a0 (pv 0) (a0 (K2 (v:=.ref cH) rfl R.mH rfl) e9)))
   (a0 (j6 D5 rfl T.isi dD (a0 (pv 0) (a0 (K2 (v:=.ref cR) rfl R.mR rfl) e9)))
   (a0 (j6 D5 rfl T.isi dD (a0 (pv 0) (a0 (K2 (v:=.ref cT) rfl R.mT rfl) e9))) e9))))))
  (j3 (r9 (j4 C5 (pv 1) (u9 (a0 (j6 D5 rfl T.isi dD (a0 (pv 0) (a0 (K2 (v:=.ref cM) rfl R.mM rfl) e9)))
   (a0 (j6 D5 rfl T.isi dD (a0 (pv 0) (a0 (K2 (v:=.ref cL) rfl R.mL rfl) e9)))
   (a0 (j6 D5 rfl T.isi dD (a0 (pv 0) (a0 (T0 (v:=.ty "ValueError") rfl T.ve b0Q rfl) e9))) e9))))))),?_⟩
 refine ⟨_,rfl,ea,c,_,b1,rfl,he,M.k,λ u ru=>by cases ru; exact M.i1,_,rfl,ea,c,_,b2,rfl,he,M.k,λ u ru=>by cases ru; exact M.i2,_,rfl,ea,c,_,b3,rfl,he,M.k,λ u ru=>by cases ru; exact M.i3,
  _,rfl,ea,c,_,b4,rfl,he,M.k,λ u ru=>by cases ru; exact M.i4,(by show 4<=sizeLine; decide),λ l1 hl1=>?_⟩
 have s1:=Same.new hl1 (.lst [V.bl b1,V.bl b2,V.bl b3,V.bl b4]);have he1:=s1 _ _ he;refine ⟨_,rfl,_,rfl,ea,c,_,b5,rfl,he1,M.k,λ u ru=>by cases ru; exact M.i5,_,rfl,ea,c,_,b6,rfl,he1,M.k,λ u ru=>by cases ru; exact M.i6,_,rfl,ea,c,_,true,rfl,he1,M.k,λ u ru=>by cases ru; exact M.v,(by show 3<=sizeLine; decide),λ l2 hl2=>?_⟩;have s2:=Same.new hl2 (.lst [V.bl b5,V.bl b6,V.bl true]);refine ⟨l1,l2,_,_,rfl,rfl,s2 _ _ upd_same,upd_same,(by show 7<=sizeLine; decide),λ l3 hl3=>?_⟩;exact q l3 _ (s1.trans (s2.trans (Same.new hl3 _))) upd_same
abbrev b0h (x:Str):List V:=a3A (decide (V.str "NoBook"=V.str x)) (decide (V.str "NoHouse"=V.str x)) (decide (V.str "NoRow"=V.str x)) (decide (V.str "NoText"=V.str x)) (decide (V.str "TooMany"=V.str x)) (decide (V.str "NothingLeft"=V.str x))
def a5D:Sp:=λ vs H Q _=>∃ x:Str,vs=[.str x]/\∀ (r:Addr) (H':Hp),Same H H'->H' r=some (.lst (b0h x))->Q (.ref r) H'
theorem scDue:m9 ["name","names"] ["name"] (i8 O7):=⟨rfl,rfl,rfl,by decide +kernel,rfl,by decide +kernel,by decide +kernel⟩
theorem b3l:(["one","name"]:List Str).Nodup:=by decide +kernel
theorem b0I (F:Fun K "_law_due_kin" "_law_due_kin" O7 f fd) (T:x5 mg):FnOk P w K mg base E4 (n+1) f fd ["name"] a5D:=by
 refine F.ok scDue (λ vs H Q E h=>?_) (λ cdv A outer s H vs Q E hr h=>?_)
 ·obtain ⟨x,rfl,_⟩:=h
  rfl
 obtain ⟨nm,rfl,q⟩:=h;refine ⟨_,i9 (o4 (i:=1) scDue.nd rfl (aC rfl) (u9 (a0 D8 (a0 D8 (a0 D8 (a0 D8 (a0 D8 (a0 D8 e9))))))))
  (j3 (r9 (j4 C5 (V2 ["one"] [0] rfl (M4 (pv 1)) (λ _ _ _ _=>j8 (i:=0) b3l rfl (aC rfl)) (λ _ _ _ _=>A9 N6 (pv 0) (pv 1) (p6 _))) (u9 (a0 a3h e9))))),?_⟩
 refine ⟨(by show 6<=sizeLine; decide),λ l1 hl1=>?_⟩;have s1:=Same.new hl1 (.lst [.str "NoBook",.str "NoHouse",.str "NoRow",.str "NoText",.str "TooMany",.str "NothingLeft"]);refine ⟨_,rfl,l1,rfl,⟨_,SqL.of upd_same⟩,λ p hp=>?_⟩;refine R6 (J5 (SqL.of upd_same)) hp (by decide) (λ x=>.bl (decide (x=.str nm))) (λ i x H' N hx e hN=>?_) ?_
 ·have hy:∃ y,x=.str y:=by
   have:=bS hx;simp only [aJ,aZ,or_false] at this;rcases this with rfl | rfl | rfl | rfl | rfl | rfl <;> exact ⟨_,rfl⟩
  obtain ⟨y,rfl⟩:=hy;exact ⟨Wk.set (by decide),_,rfl,_,rfl,rfl,hN⟩
 ·have s2:=Same.new hp (.lst (kO (λ x=>V.bl (decide (x=V.str nm))) [.str "NoBook",.str "NoHouse",.str "NoRow",.str "NoText",.str "TooMany",.str "NothingLeft"]))
  refine ⟨(by show 1<=sizeLine; decide),λ l2 hl2=>?_⟩;have s3:=Same.new hl2 (.lst [V.bl true]);refine ⟨p,l2,_,_,rfl,rfl,s3 _ _ upd_same,upd_same,(by show 7<=sizeLine; decide),λ l3 hl3=>?_⟩;exact q l3 _ (s1.trans (s2.trans (s3.trans (Same.new hl3 _)))) (by rw [upd_same]; congr 2)
structure b3y (P:Program) (w:World) (K:W.Frag) (mg:Str->Option Value) (base:Heap) (n:Nat) (x:Str) (ps:List Str) (sp:Sp) (fa:Addr) (d:FuncData):Prop where
 ok:FnU P w K mg base n fa d ps sp
 b:Binds K d ps []
 k:W.keepIn K (.ref fa)=true
 m:mg x=some (.ref fa)
def b1C (b1 b2 b3 b4 b5 b6:Bool):PyData:=.list [.bool b1,.bool b2,.bool b3,.bool b4,.bool b5,.bool b6,.bool true]
theorem Q4 {K:W.Frag} {H:Hp} {a:Addr} {b1 b2 b3 b4 b5 b6:Bool} (h:H a=some (.lst (a3A b1 b2 b3 b4 b5 b6))):Dp K H (.ref a) (b1C b1 b2 b3 b4 b5 b6) :=
 .lst (SqL.of h) (.cons (.bl _) (.cons (.bl _) (.cons (.bl _) (.cons (.bl _) (.cons (.bl _) (.cons (.bl _) (.cons (.bl _) .nil)))))))
end
end Rim
namespace L2
open PySem
section
variable {fr:List Nat} {tc:TT} {te:TE} {σ:St} {H1:Hp} {p:Addr} {D:Hp->Prop} {n:Nat}
theorem b0N (hp:H1 p=none) (hz:n<sizeLine) (q:Nat->Bool) (R:Nat->V->Hp->Prop) (hR:∀ i y H H',(∃ zs,H p=some (.lst zs))->R i y H->(∀ b o,b≠p->H b=some o->H' b=some o)->R i y H')
  (st:∀ (i:Nat) H (N:Bool->Hp->Prop),i<n->Same H1 H->(∀ H3,Same H H3->N (q i) H3)->tc ((blkσ 1 fr σ).set 0 (some (.int (i:Int)))) H N)
  (se:∀ (i:Nat) H (N:VK),i<n->q i=true->Same H1 H->(∀ v H3,Same H H3->R i v H3->N v H3)->te ((blkσ 1 fr σ).set 0 (some (.int (i:Int)))) H N)
  (hd:∀ ys H,Same H1 H->H p=some (.lst ys)->aN (λ (i:Nat) y=>R i y H) ((aE n).filter q) ys->D H):lcI 1 fr (J8 0) tc te σ (Itr 0 n) H1 p D:=by
 refine ⟨λ i m ys H=>m=n - i/\i<=n/\Same H1 H/\H p=some (.lst ys)/\aN (λ (i:Nat) y=>R i y H) ((aE i).filter q) ys,⟨n,by simp,bR _,Same.new hp _,upd_same,.nil⟩,?_⟩;rintro i m ys H ⟨rfl,hi,e,hH,pr⟩
 by_cases hlt:i<n
 ·refine .inr ⟨hlt,λ x H' y=>?_⟩
  obtain ⟨rfl,rfl⟩:=y;rw [eO];have tk:(aE (i+1)).filter q=(aE i).filter q++[i].filter q:=by rw [fR,gQ]
  refine ⟨Wk.set (by decide),st i _ _ hlt e λ H3 e3=>?_⟩;have h3:=e3 _ _ hH;have pr3:aN (λ (i:Nat) y=>R i y H3) ((aE i).filter q) ys:=Paired.imp' (λ _ _ r=>hR _ _ _ _ ⟨_,hH⟩ r λ b o _ h=>e3 b o h) pr
  cases hq:q i with
  | false =>
   rw [if_neg bW];refine ⟨n - (i+1),by omega,rfl,hlt,e.trans e3,h3,?_⟩;rw [tk]; simpa [hq] using pr3
  | true =>
   rw [if_pos rfl];refine se i _ _ hlt hq (e.trans e3) λ v H4 e4 r4=>?_;have h4:=e4 _ _ h3;have l1:((aE i).filter q).length=ys.length:=pr.length;have l2:=gB q (aE i);rw [eD] at l2;refine ⟨h4,by omega,n - (i+1),by omega,rfl,hlt,((e.trans e3).trans e4).write hp,upd_same,?_⟩;rw [tk];have up:∀ b o,b≠p->H4 b=some o->r6 H4 p (.lst (ys++[v])) b=some o:=λ b o hb h=>by rw [c9 hb]; exact h
   have p4:aN (λ (i:Nat) y=>R i y (r6 H4 p (.lst (ys++[v])))) ((aE i).filter q) ys:=Paired.imp' (λ _ _ r=>hR _ _ _ _ ⟨_,h3⟩ r λ b o hb h=>up b o hb (e4 b o h)) pr3;have:[i].filter q=[i]:=by simp [hq]
   rw [this];exact Paired.app p4 (.cons (hR _ _ _ _ ⟨_,h4⟩ r4 up) .nil)
 ·have:i=n:=by omega
  subst this;exact .inl ⟨Nat.le_refl _,hd ys H e hH pr⟩
end
end L2
namespace Rim
open PySem L2 Fr
section
variable {P:Program} {w:World} {K:W.Frag} {mg:Str->Option Value} {base:Heap} {f C Pt:Addr} {fd:FuncData} {n:Nat}
def b3O (h:j0):Prop:=(∀ x∈h.1,0<=x)/\∀ x∈h.2,0<=x
def a2f (K:W.Frag):Sp:=λ vs H Q _=>∃ (v:V) (h:j0) (c:Addr) (kt kg:Nat),vs=[v,.ref c]/\HS K H v h/\V0 h/\b3O h/\H c=some (.tup [.int (kt:Int),.int (kg:Int)])/\1<=kt/\1<=kg ∧
 ∀ (b:Bool) (H':Hp),Same H H'->(b=true ↔ GoodK h kt kg)->Q (.bl b) H'
theorem scGood12:m9 ["house","counts","takes","gives"] ["house","counts"] (i8 O9):=⟨rfl,rfl,rfl,by decide +kernel,rfl,by decide +kernel,by decide +kernel⟩
theorem b3z:∀ {l:List Int},(∀ x∈l,0<=x)->(l.sum=0 ↔ ¬ ∃ x∈l,0<x)
 | [],_=>by simp
 | x::l,h=>by
  have i:=b3z (l:=l) λ y hy=>h y (.tail _ hy);have hx:=h x (.head _);have hs:0<=l.sum:=by
   have:∀ {l:List Int},(∀ x∈l,0<=x)->0<=l.sum:=by
    intro l
    induction l with
    | nil=>intro _; simp
    | cons a l ih=>intro h; have:=ih λ y hy=>h y (.tail _ hy); have:=h a (.head _); simp; omega
   exact this λ y hy=>h y (.tail _ hy)
  rw [bU];constructor
  ·intro e
   rintro ⟨y,hy,hp⟩;rcases aJ.mp hy with rfl | hy
   ·omega
   ·exact (i.mp (by omega)) ⟨y,hy,hp⟩
  ·intro e
   have h1:¬ 0<x:=λ z=>e ⟨x,.head _,z⟩;have h2:l.sum=0:=i.mpr λ ⟨y,hy,hp⟩=>e ⟨y,.tail _ hy,hp⟩;omega
theorem a7e (F:Fun K "_law_is_good" "_law_is_good" O9 f fd) (T:x5 mg):FnOk P w K mg base E4 (n+1) f fd ["house","counts"] (a2f K):=by
 refine F.ok scGood12 (λ vs H Q E h=>?_) (λ cdv A outer s H vs Q E hr h=>?_)
 ·obtain ⟨v,h,c,kt,kg,rfl,_⟩:=h
  rfl
 obtain ⟨v,h,c,kt,kg,rfl,⟨a,t,gv,rfl,h0,h1,h2⟩,⟨hz1,hz2⟩,nn,hc,kt1,kg1,q⟩:=h;refine ⟨_,i9 (G9 (pv 0) (T8 rfl (r8 (j8 (i:=2) scGood12.nd rfl (aC rfl)) (r8 (j8 (i:=3) scGood12.nd rfl (aC rfl)) C2))))
  (p7 (A4 (a3p (PW.pt (a4A (t9 (a2o hr) (D4 (a0 (j6 j7 rfl T.len bB (a0 (pv 2) e9)) (a0 (j6 j7 rfl T.len bB (a0 (pv 3) e9)) e9))) (pv 1) (p6 _)) (a2t (t9 N6 (j6 (a4S rfl) rfl T.sum iX (a0 (pv 3) e9)) h8 (p6 _)))))) (j3 (r9 a3h)) v8)
  (j3 (r9 (X0 (A9 a0D (j6 (a7a rfl) rfl T.min iR (a0 (pv 2) e9)) h8 (p6 _)) (a0T (A9 a4i (j6 (a3c rfl) rfl T.max kH (a0 (j4 a1I (pv 2) (pv 3)) e9)) (j4 a5P h8 h8) (p6 _))))))),?_⟩
 refine ⟨_,rfl,a,_,rfl,h0,rfl,_,_,rfl,_,_,rfl,rfl,?_⟩;refine ⟨λ σ' H'=>σ'=[some (.ref a),some (.ref c),some (.ref t),some (.ref gv)]/\Same H H'/\h.1.length=kt/\h.2.length=kg/\∃ x∈h.2,0<x,?_,?_⟩
 ·refine ⟨λ b H1=>Same H H1/\(b=false ↔ (h.1.length=kt/\h.2.length=kg/\∃ x∈h.2,0<x)),?_,?_⟩
  ·refine ⟨_,rfl,t,_,rfl,.inr h1,_,rfl,gv,_,rfl,.inr h2,(by show 2<=sizeLine; decide),λ pt hpt=>?_⟩
   have s1:=Same.new hpt (.tup [V.int ((h.1.map V.int).length:Int),V.int ((h.2.map V.int).length:Int)]);refine ⟨_,rfl,dF ((h.1.map V.int).length,(h.2.map V.int).length),dF (kt,kg),.tup (SqT.of upd_same) (.cons (.int _) (.cons (.int _) .nil)),.tup (SqT.of (s1 _ _ hc)) (.cons (.int _) (.cons (.int _) .nil)),X2 _,X2 _,aW (dU _ _) (a8u _),_,rfl,?_⟩;rw [a7X];have e1:((((h.1.map V.int).length:Int),((h.2.map V.int).length:Int))=((kt:Int),(kg:Int))) ↔ (h.1.length=kt/\h.2.length=kg):=by
    rw [aA,aA,Prod.mk.injEq];omega
   refine D0 (λ c1=>?_) (λ c1=>?_)
   ·refine ⟨s1,?_⟩
    have:¬ (h.1.length=kt/\h.2.length=kg):=λ z=>by rw [decide_eq_true (e1.mpr z)] at c1; simp at c1
    constructor
    ·intro z; cases z
    ·intro z; exact absurd ⟨z.1,z.2.1⟩ this
   ·have c2:h.1.length=kt/\h.2.length=kg:=e1.mp (by simpa using c1)
    refine ⟨_,rfl,gv,h.2,rfl,.inr (s1.tseq h2),rfl,_,rfl,s1,?_⟩;have:=b3z nn.2;constructor
    ·intro z
     refine ⟨c2.1,c2.2,?_⟩;exact fC λ y=>by have:=this.mpr y; simp [this] at z
    ·intro z
     have:¬ h.2.sum=0:=λ y=>this.mp y z.2.2;simp [this]
  ·rintro b H1 ⟨e1,i1⟩
   cases b with
   | true =>
    refine Q9 (q _ _ e1 ?_);constructor
    ·intro z; cases z
    ·intro z
     have:=i1.mpr ⟨by have:=z.1.1; omega,by have:=z.2.1.1; omega,z.2.2⟩
     cases this
   | false=>exact a0c ⟨rfl,e1,i1.mp rfl⟩
 rintro _ H1 ⟨rfl,e1,l1,l2,hpos⟩;have ne1:h.1≠[]:=λ z=>by rw [z] at l1; simp at l1; omega
 have ne2:h.2≠[]:=λ z=>by rw [z] at l2; simp at l2; omega
 refine ⟨_,rfl,t,h.1,rfl,.inr (e1.tseq h1),ne1,λ M hM hMx=>?_⟩;refine ⟨_,_,rfl,rfl,_,rfl,?_⟩;refine D0 (λ c1=>?_) (λ c1=>?_)
 ·have c1':0<M:=of_decide_eq_true c1
  refine ⟨_,rfl,_,rfl,t,gv,_,_,rfl,rfl,e1.tseq h1,e1.tseq h2,?_,?_,?_,?_⟩
  ·intro z; exact absurd (gY.mp z) ne1
  ·rw [aA,aA]; exact cO (cC (show h.1.length+h.2.length<=2000 by omega) (by decide))
  ·intro z; exact absurd (gY.mp z) ne2
  intro _ pc hpc;have s2:=Same.new hpc (.tup (h.1.map V.int++h.2.map V.int));refine ⟨pc,h.1++h.2,rfl,.inr (SqT.of (by rw [upd_same,bC])),by simp [ne1],λ M2 hM2 hM2x=>?_⟩;refine ⟨_,_,rfl,rfl,⟨by decide,by decide,by decide⟩,_,_,rfl,rfl,?_⟩;refine q _ _ (e1.trans s2) ?_;rw [decide_eq_true_iff];constructor
  ·intro z
   have z':M2<=1000000000:=z;exact ⟨⟨by omega,λ x hx=>⟨by have:=hMx x hx; omega,by have:=hM2x x (dN _ hx); omega⟩⟩,⟨by omega,λ x hx=>⟨nn.2 x hx,by have:=hM2x x (bN _ hx); omega⟩⟩,hpos⟩
  ·intro z
   show M2<=1000000000
   rcases aO.mp hM2 with hx | hx
   ·exact (z.1.2 M2 hx).2
   ·exact (z.2.1.2 M2 hx).2
 ·refine q _ _ e1 ?_
  have c1':¬ 0<M:=of_decide_eq_false (eM.mpr c1);have:decide (0<M)=false:=by simpa using c1'
  constructor
  ·intro z; cases z
  ·intro z; have:=z.1.2 M hM; omega
def a3O (K:W.Frag):Sp:=λ vs H Q _=>∃ (l1 l2:Addr) (xs ys:List V) (ps qs:List Q2),vs=[.ref l1,.ref l2]/\H l1=some (.lst xs)/\H l2=some (.lst ys)/\FrL K H xs ps/\FrL K H ys qs/\xs.length<=ys.length/\xs.length<=1000 ∧
 ∀ (l:Addr) (H':Hp),Same H H'->Dq K H' (λ a=>H a=none) (.ref l) (a0d ps qs)->Q (.ref l) H'
theorem b0C:m9 ["was","now"] ["was","now"] (i8 P1):=⟨rfl,rfl,rfl,by decide +kernel,rfl,by decide +kernel,by decide +kernel⟩
theorem b1g:(["k","was","now"]:List Str).Nodup:=by decide +kernel
theorem a8i (F:Fun K "_law_changes" "_law_changes" P1 f fd) (T:x5 mg):FnOk P w K mg base E4 (n+1) f fd ["was","now"] (a3O K):=by
 refine F.ok b0C (λ vs H Q E h=>?_) (λ cdv A outer s H vs Q E hr h=>?_)
 ·obtain ⟨l1,l2,xs,ys,ps,qs,rfl,_⟩:=h
  rfl
 obtain ⟨l1,l2,xs,ys,ps,qs,rfl,h1,h2,f1,f2,hle,hz,q⟩:=h;refine ⟨_,j3 (r9 (a5B ["k"] [0,1] rfl (A3 rfl T.range (a0 (j6 j7 rfl T.len bB (a0 (pv 0) e9)) e9)) (λ _ _ _ _=>j8 (i:=0) b1g rfl (aC rfl))
   (λ _ _ _ _=>t9 (a9C K rfl hr) (j9 (N3 K rfl) (pv 1) (pv 0) (λ _ _=>rfl)) (j9 (N3 K rfl) (pv 2) (pv 0) (λ _ _=>rfl)) (p6 _)) (λ _ _ _ _=>D4 (a0 (pv 0) (a0 (j9 (N3 K rfl) (pv 1) (pv 0) (λ _ _=>rfl)) (a0 (j9 (N3 K rfl) (pv 2) (pv 0) (λ _ _=>rfl)) e9)))))),?_⟩
 have lp:xs.length=ps.length:=f1.length;have lq:ys.length=qs.length:=f2.length;refine ⟨_,rfl,l1,_,rfl,.inl (SqL.of h1),_,rfl,by omega,by omega,λ p hp=>?_⟩;rw [aY];have at1:∀ {i:Nat},i<xs.length->∃ x y,Y8 xs (i:Int)=some x/\Y8 ys (i:Int)=some y/\FrV K H x (ps.getD i (0,0))/\FrV K H y (qs.getD i (0,0)):=λ {i} hi=>by
  have ex:xs[i]?=some xs[i]:=aH hi;have ey:ys[i]?=some ys[i]:=aH (by omega);obtain ⟨p,e1,r1⟩:=C9 f1 ex;obtain ⟨q,e2,r2⟩:=C9 f2 ey;refine ⟨_,_,D9 ex,D9 ey,?_,?_⟩
  ·rw [aI,e1]; exact r1
  ·rw [aI,e2]; exact r2
 refine b0N hp (m8 hz) (λ i=>decide (ps.getD i (0,0)≠qs.getD i (0,0))) (λ i y H'=>∃ t x z,y=.ref t/\H' t=some (.tup [.int (i:Int),x,z])/\FrV K H x (ps.getD i (0,0))/\FrV K H z (qs.getD i (0,0))) (λ i y H3 H4 hz r k=>?_) (λ i H3 N hi e hN=>?_) (λ i H3 N hi hq e hN=>?_) (λ ts H3 e hp3 pr=>?_)
 ·obtain ⟨zs,hzs⟩:=hz
  obtain ⟨t,x,z,rfl,ht,r1,r2⟩:=r;exact ⟨t,x,z,rfl,k _ _ (y9 ht hzs nofun) ht,r1,r2⟩
 ·obtain ⟨x,y,a1,a2,r1,r2⟩:=at1 hi
  refine ⟨_,rfl,_,rfl,l1,_,_,_,rfl,rfl,SqL.of (e _ _ h1),a1,_,rfl,_,rfl,l2,_,_,_,rfl,rfl,SqL.of (e _ _ h2),a2,dF _,dF _,FrV.dp (FrV.same e r1),FrV.dp (FrV.same e r2),X2 _,X2 _,aW (dU _ _) (a8u _),_,rfl,?_⟩;rw [a7X];have:∀ a b:Q2,(!decide (a=b))=decide (a≠b):=λ a b=>by simp
  rw [this];exact hN _ (Same.refl _)
 ·obtain ⟨x,y,a1,a2,r1,r2⟩:=at1 hi
  refine ⟨_,rfl,_,rfl,_,rfl,l1,_,_,_,rfl,rfl,SqL.of (e _ _ h1),a1,_,rfl,_,rfl,l2,_,_,_,rfl,rfl,SqL.of (e _ _ h2),a2,(by show 3<=sizeLine; decide),λ t ht=>?_⟩;exact hN _ _ (Same.new ht _) ⟨t,x,y,rfl,upd_same,r1,r2⟩
 ·refine q p H3 e (.lst hp hp3 ?_)
  have:chI ps qs=(aE xs.length).filter λ i=>decide (ps.getD i (0,0)≠qs.getD i (0,0)):=by unfold chI; rw [fB (by omega),lp]
  rw [this];have go:∀ {is:List Nat} {ts:List V},aN (λ (i:Nat) y=>∃ t x z,y=.ref t/\H3 t=some (.tup [.int (i:Int),x,z])/\FrV K H x (ps.getD i (0,0))/\FrV K H z (qs.getD i (0,0))) is ts->Dqs K H3 (λ a=>H a=none) ts (is.map λ (i:Nat)=>.tuple [.int (i:Int),dF (ps.getD i (0,0)),dF (qs.getD i (0,0))]):=by
   intro is ts h
   induction h with
   | nil=>exact .nil
   | cons r _ ih =>
    obtain ⟨t,x,z,rfl,ht,r1,r2⟩:=r;exact .cons (.tup (SqT.of ht) (.cons (.int _) (.cons (a3K (FrV.same e r1)) (.cons (a3K (FrV.same e r2)) .nil)))) ih
  exact go pr
end
section
variable {P:Program} {w:World} {K:W.Frag} {mg:Str->Option Value} {base:Heap} {f C Pt:Addr} {fd:FuncData} {n:Nat}
noncomputable def a6b (z:Str) (kt kg:Nat) (hs:List j0) (h:j0):PyData:=.tuple [dF ((O2 z kt kg (hs++[h])).getLastD (0,0)),a0d (O2 z kt kg hs) (O2 z kt kg (hs++[h])).dropLast]
def a1c (K:W.Frag) (C Pt:Addr):Sp:=λ vs H Q _=>∃ (o:Kq) (S:KS) (lo:List Addr) (wd:Str) (v:V),vs=[.ref o.p,.str wd,v]/\KpS K C H o.p o.kt o.kg o.z S o.pa lo/\Fit o.z o.kt o.kg/\OkS o.z o.kt o.kg S/\S.2.length<=1000/\LT Pt H ∧
  ((wd="come"/\∃ h,HS K H v h/\V0 h ∧
      (GoodK h o.kt o.kg->S.1.length<16->∀ (H':Hp) (r t kl:Addr) (fs:List V) (lo':List Addr),KpS K C H' o.p o.kt o.kg o.z (S.1++[h],S.2++[S.1]) o.pa lo'->OkS o.z o.kt o.kg (S.1++[h],S.2++[S.1])->Left Pt o.p o.pa H H'->LT Pt H'->(∀ b∈lo',b∈lo\/H b=none) →
        H' r=some (.tup [.ref t,.ref kl])->H kl=none->H' kl=some (.lst [])->H' t=some (.tup fs)->Dq K H' (λ a=>H a=none) (.ref t) (a6b o.z o.kt o.kg S.1 h)->Q (.ref r) H') ∧
      (¬ GoodK h o.kt o.kg->∀ (H':Hp) (r kl:Addr),Same H H'->H' r=some (.tup [.non,.ref kl])->H' kl=some (.lst (a3A true false false false false false))->Q (.ref r) H') ∧
      (GoodK h o.kt o.kg->16<=S.1.length->∀ (H':Hp) (r kl:Addr),Same H H'->H' r=some (.tup [.non,.ref kl])->H' kl=some (.lst (a3A false false false false true false))->Q (.ref r) H')) ∨
   (wd="go"/\∃ num:Int,v=.int num/\num.natAbs.log2<1920 ∧
      (∀ i:Nat,num=(i:Int)->i<S.1.length->∀ (H':Hp) (r t kl:Addr) (fs:List V) (lo':List Addr),KpS K C H' o.p o.kt o.kg o.z (y4 S.1 i,S.2++[S.1]) o.pa lo'->OkS o.z o.kt o.kg (y4 S.1 i,S.2++[S.1])->Left Pt o.p o.pa H H'->LT Pt H'->(∀ b∈lo',b∈lo\/H b=none) →
        H' r=some (.tup [.ref t,.ref kl])->H kl=none->H' kl=some (.lst [])->H' t=some (.lst fs)->Dq K H' (λ a=>H a=none) (.ref t) (a0d (y4 (O2 o.z o.kt o.kg S.1) i) (O2 o.z o.kt o.kg (y4 S.1 i)))->Q (.ref r) H') ∧
      (¬ a4C S.1.length num->∀ (H':Hp) (r kl:Addr),Same H H'->H' r=some (.tup [.non,.ref kl])->H' kl=some (.lst (a3A false true false false false false))->Q (.ref r) H')))
theorem scTried12:m9 ["kept","word","thing","found","kin","e"] ["kept","word","thing"] (i8 E7):=⟨rfl,rfl,rfl,by decide +kernel,rfl,by decide +kernel,by decide +kernel⟩
noncomputable def b2K {cdv:Value} {A:Around} {outer:List Env} {s:Shared} {H:Hp} {E:XK} {cE cB cH cR cT cM cL f1 f2 fc:Addr} {d1 d2 dc:FuncData} (TKd:TK K C) (R:b0b K mg cE cB cH cR cT cM cL)
  (Cg:R9 P w K mg base (CX1 P w) n C "go" ["self","number"] (a8h K C cH Pt) f1 d1) (Cc:R9 P w K mg base (CX1 P w) n C "come" ["self","house"] (a1A K C cB cM Pt) f2 d2) (Ck:b3y P w K mg base n "_law_a_kin" ["e"] (a5k K cE cB cH cR cT cM cL) fc dc)
  (hr:Room n (A.deeper (dC "_law_tried" (i8 E7) s.heap.objs.size f cdv))) :
  { t:TS // PSs (K1 E4 P w K mg base ["kept","word","thing","found","kin","e"] "_law_tried" (i8 E7) f cdv A outer s H E).nox (w4 E7) t } :=
 ⟨_,i9 (o4 (i:=3) scTried12.nd rfl (aC rfl) W5)
  (i9 (o4 (i:=4) scTried12.nd rfl (aC rfl) (u9 e9))
  (i9 (b2j (i:=5) R.kE scTried12.nd rfl rfl rfl rfl R.mE
   (λ EX pn WE hx=>j3 (A4 (t9 N6 (pv 1) D8 (p6 _)) (j3 (o4 (i:=3) scTried12.nd rfl (aC rfl) (a4B (pv 0) TKd.cl Cc.me Cc.ok hr Cc.bd hx (a0 (pv 2) e9)))) (j3 (o4 (i:=3) scTried12.nd rfl (aC rfl) (a4B (pv 0) TKd.cl Cg.me Cg.ok hr Cg.bd hx (a0 (pv 2) e9))))))
   (λ ea=>j3 (o4 (i:=4) scTried12.nd rfl (aC rfl) (a9c Ck.ok (hr.u _) rfl Ck.m Ck.k Ck.b (a0 (pv 5) e9)))))
  (j3 (r9 (D4 (a0 (pv 3) (a0 (pv 4) e9)))))))⟩
theorem a5e {cE cB cH cR cT cM cL f1 f2 fc:Addr} {d1 d2 dc:FuncData} (F:Fun K "_law_tried" "_law_tried" E7 f fd) (TKd:TK K C) (R:b0b K mg cE cB cH cR cT cM cL) (MB:a1T K cB cE cB cH cR cT cM cL true false false false false false) (MH:a1T K cH cE cB cH cR cT cM cL false true false false false false) (MM:a1T K cM cE cB cH cR cT cM cL false false false false true false)
  (Cg:R9 P w K mg base (CX1 P w) n C "go" ["self","number"] (a8h K C cH Pt) f1 d1) (Cc:R9 P w K mg base (CX1 P w) n C "come" ["self","house"] (a1A K C cB cM Pt) f2 d2) (Ck:b3y P w K mg base n "_law_a_kin" ["e"] (a5k K cE cB cH cR cT cM cL) fc dc) :
  FnOk P w K mg base E4 (n+1) f fd ["kept","word","thing"] (a1c K C Pt):=by
 refine F.ok scTried12 (λ vs H Q E h=>?_) (λ cdv A outer s H vs Q E hr h=>?_)
 ·obtain ⟨o,S,lo,wd,v,rfl,_⟩:=h
  rfl
 obtain ⟨o,S,lo,wd,v,rfl,KP,ft,ok,hpl,LTH,hc⟩:=h;refine ⟨_,(b2K TKd R Cg Cc Ck hr).2,?_⟩;refine ⟨(by show 0<=sizeLine; decide),λ kl hkl=>?_⟩;have s1:=Same.new hkl (.lst []);have hkl1:(r6 H kl (.lst [])) kl=some (.lst []):=upd_same;generalize r6 H kl (.lst [])=H1 at *;obtain ⟨dx,ta,wa,pv0,hp,hlv,hpa,hps⟩:=KP.ex;have nkp:kl≠o.p:=λ z0=>by subst z0; rw [hp] at hkl; cases hkl
 have nka:kl≠o.pa:=λ z0=>by subst z0; rw [hpa] at hkl; cases hkl
 have nkt:kl≠Pt:=(LTH.same s1).ne hkl1 nofun;have ok1:OkK o.z o.kt o.kg S.1:=ok S.1 (bN _ (.head _));have hpl':(S.2.map (lv o.z o.kt o.kg)).length<=1000:=by rw [aA]; exact hpl
 have KP1:=KP.same s1;have hp1:=s1 _ _ hp;rcases hc with ⟨rfl,h,hH,sk,q1,q2,q3⟩ | ⟨rfl,num,rfl,lm,q1,q2⟩
 ·refine ⟨λ σ' c _ H'=>σ'=[some (.ref o.p),some (.str "come"),some v,some .non,some (.ref kl),none]/\Same H H'/\((c=.ref cB/\¬ GoodK h o.kt o.kg)\/(c=.ref cM/\GoodK h o.kt o.kg/\16<=S.1.length)),?_,?_⟩
  ·refine ⟨_,rfl,rfl,_,rfl,Q9 ?_⟩
   refine ⟨_,rfl,o.p,dx,_,rfl,hp1,rfl,_,rfl,?_⟩;refine ⟨o.p,o.pa,v,h,o.kt,o.kg,o.z,lv o.z o.kt o.kg S.1,S.2.map (lv o.z o.kt o.kg),lo,rfl,KP1,ft,hH.same s1,sk,ok1.g,ok1.m,ok1.l,hpl',LTH.same s1,λ gk l16 H2 ha wa' r cl u qs x KP2 sh n1 n2 lf L2 n4 hr hu n5 ch _ _=>?_,λ bad H2 e2=>⟨rfl,s1.trans e2,.inl ⟨rfl,bad⟩⟩,λ gk l16 H2 e2=>⟨rfl,s1.trans e2,.inr ⟨rfl,gk,l16⟩⟩⟩;have l16':S.1.length<16:=l16;have hG:∀ g∈S.1++[h],HG (10 ^ 9) o.kt o.kg g:=λ g hg=>by
    rcases aO.mp hg with hg | hg
    ·exact ok1.g g hg
    ·rw [bF.mp hg]; exact gk.hg
   have eq:=Shs.q ft.z hG sh;have okn:OkK o.z o.kt o.kg (S.1++[h]):=⟨by simp; omega,hG,by rw [<- eq]; exact sh.1⟩;have hkl2:H2 kl=some (.lst []):=lf kl _ nkp nkt nka hkl1;refine ⟨_,rfl,_,rfl,(by show 2<=sizeLine; decide),λ rt hrt=>?_⟩;have s3:=Same.new hrt (.tup [V.ref r,V.ref kl]);refine q1 gk l16' _ rt r kl _ _ (KpAt.same s3 ?_) (a2i ok okn) (λ b o' n1 n2 n3 q0=>s3 _ _ (lf b o' n1 n2 n3 (s1 _ _ q0))) (L2.same s3) (λ b hb=>(a5H n1 n2 b hb).imp id s1.free) upd_same hkl (s3 _ _ hkl2) (s3 _ _ hr) ?_
   ·show KpAt _ _ _ _ _ _ _ (S.1++[h],O2 o.z o.kt o.kg (S.1++[h])) ((S.2++[S.1]).map (lv o.z o.kt o.kg)) _ _
    rw [bC,<- eq];exact KP2
   ·unfold a6b
    rw [<- eq];have g1:(qs++[x]).getLastD (0,0)=x:=by simp
    have g2:(qs++[x]).dropLast=qs:=by simp
    rw [g1,g2];exact Dq.same (F:=λ a=>H1 a=none) s3 (λ a h=>s1.free h) (.tup (SqT.of hr) (.cons (a2m hu) (.cons (ch.dq n5) .nil)))
  rintro σ' H' c ea d' ⟨rfl,e2,hk⟩ hea Da hC
  cases hC;rcases hk with ⟨hk,bad⟩ | ⟨hk,gk,l16⟩
  ·cases hk
   refine ⟨MB.k,MB.sub,?_⟩;refine ⟨_,rfl,ea,_,_,_,_,_,_,_,rfl,upd_same,MB,λ r2 H3 e3 hr2=>?_⟩;refine ⟨_,rfl,_,rfl,(by show 2<=sizeLine; decide),λ rt hrt=>?_⟩;have s4:=Same.new hrt (.tup [V.non,V.ref r2]);exact q2 bad _ rt r2 (e2.trans ((Same.new hea _).trans (e3.trans s4))) upd_same (s4 _ _ hr2)
  ·cases hk
   refine ⟨MM.k,MM.sub,?_⟩;refine ⟨_,rfl,ea,_,_,_,_,_,_,_,rfl,upd_same,MM,λ r2 H3 e3 hr2=>?_⟩;refine ⟨_,rfl,_,rfl,(by show 2<=sizeLine; decide),λ rt hrt=>?_⟩;have s4:=Same.new hrt (.tup [V.non,V.ref r2]);exact q3 gk l16 _ rt r2 (e2.trans ((Same.new hea _).trans (e3.trans s4))) upd_same (s4 _ _ hr2)
 ·refine ⟨λ σ' c _ H'=>σ'=[some (.ref o.p),some (.str "go"),some (V.int num),some .non,some (.ref kl),none]/\Same H H'/\(c=.ref cH/\¬ a4C S.1.length num),?_,?_⟩
  ·refine ⟨_,rfl,rfl,_,rfl,a0c ?_⟩
   refine ⟨_,rfl,o.p,dx,_,rfl,hp1,rfl,_,rfl,?_⟩;refine ⟨o.p,o.pa,num,o.kt,o.kg,o.z,lv o.z o.kt o.kg S.1,S.2.map (lv o.z o.kt o.kg),lo,rfl,KP1,ft,ok1.g,ok1.m,ok1.l,hpl',lm,LTH.same s1,λ i hi hil H2 ha wa' cl qs KP2 sh n1 n2 lf L2 n3 ch _ _=>?_,λ bad H2 e2=>⟨rfl,s1.trans e2,⟨rfl,bad⟩⟩⟩;have hG:∀ g∈y4 S.1 i,HG (10 ^ 9) o.kt o.kg g:=λ g hg=>ok1.g g (a1X hg);have eq:=sh.q ft.z hG;have okn:OkK o.z o.kt o.kg (y4 S.1 i):=⟨Nat.le_trans V6 ok1.m,hG,by rw [<- eq]; exact sh.1⟩;subst eq;have hkl2:H2 kl=some (.lst []):=lf kl _ nkp nkt nka hkl1;obtain ⟨_,_,ts,_,_,hcl,_⟩:=id ch;refine ⟨_,rfl,_,rfl,(by show 2<=sizeLine; decide),λ rt hrt=>?_⟩;have s3:=Same.new hrt (.tup [V.ref cl,V.ref kl]);refine q1 i hi hil _ rt cl kl ts _ (KpAt.same s3 ?_) (a2i ok okn) (λ b o' n1 n2 n3 q0=>s3 _ _ (lf b o' n1 n2 n3 (s1 _ _ q0))) (L2.same s3) (λ b hb=>(a5H n1 n2 b hb).imp id s1.free) upd_same hkl (s3 _ _ hkl2) (s3 _ _ hcl) ?_
   ·show KpAt _ _ _ _ _ _ _ _ ((S.2++[S.1]).map (lv o.z o.kt o.kg)) _ _
    rw [bC];exact KP2
   ·exact (ch.dq n3).same s3 λ a h=>s1.free h
  rintro σ' H' c ea d' ⟨rfl,e2,hk,bad⟩ hea Da hC
  cases hC
  cases hk
  ·skip
   refine ⟨MH.k,MH.sub,?_⟩;refine ⟨_,rfl,ea,_,_,_,_,_,_,_,rfl,upd_same,MH,λ r2 H3 e3 hr2=>?_⟩;refine ⟨_,rfl,_,rfl,(by show 2<=sizeLine; decide),λ rt hrt=>?_⟩;have s4:=Same.new hrt (.tup [V.non,V.ref r2]);exact q2 bad _ rt r2 (e2.trans ((Same.new hea _).trans (e3.trans s4))) upd_same (s4 _ _ hr2)
end
end Rim
namespace L2
open PySem PySem.Spec PyProof.Rows
open AutoSeq1 (wpAny_loadPart')
theorem a0R:fillsNumberSlot (.type "tuple") "mul"=pure false :=
 PySem.fillsNumberSlot_seq (id:="tuple.__mul__") (r:=some (.builtin "tuple.__rmul__")) F.slot_tuple_mul.lookup (by decide +kernel) F.slot_tuple_rmul.lookup (by decide +kernel)
theorem a3v:seqRepeat? (.type "tuple")=pure (some (.builtin "tuple.__mul__")):=by
 unfold seqRepeat?;rw [kX (T:="tuple") (name:="__mul__") (id:="tuple.__mul__") F.slot_tuple_mul.lookup (by decide +kernel),kX (T:="tuple") (name:="__rmul__") (id:="tuple.__rmul__") F.slot_tuple_rmul.lookup (by decide +kernel)];rfl
theorem a2p (a:Int) (t:Tok) (l:Addr) (items:Array Value) (n:Nat) (d:Option Addr) (sl:Array (Option Value)) :
  Meets (Builtin.«int.__rmul__» ⟨[.int a t,.ref l],[]⟩) (λ _ R s=>s.heap.get? l=some { cls:=.type "tuple",dict:=d,data:=.seq items n,slots:=sl }/\R (.ok (.ret Value.notImplemented)) s) :=
 .of_wp λ prog w A R s h=>by obtain ⟨hp,g,d,tk,os⟩:=s; obtain ⟨hl,h⟩:=h; wp_walk; exact ⟨_,rfl,h⟩
theorem a4n (l:Addr) (items:Array Value) (n:Nat) (d:Option Addr) (sl:Array (Option Value)) (u:Tok) :
  Meets (Builtin.«tuple.__mul__» ⟨[.ref l,.int 1 u],[]⟩) (λ _ R s=>s.heap.get? l=some { cls:=.type "tuple",dict:=d,data:=.seq items n,slots:=sl }/\R (.ok (.ret (.ref l))) s) :=
 .of_wp λ prog w A R s h=>by
  obtain ⟨hp,g,d,tk,os⟩:=s;obtain ⟨hl,h⟩:=h
  wp_walk using wpAny_loadPart' hl,wpAny_load hl
  exact ⟨_,rfl,h⟩
theorem a3N (l:Addr) (items:Array Value) (n:Nat) (d:Option Addr) (sl:Array (Option Value)) (x:Int) (u:Tok) (h1:1<x) (h2:x<=1000) (h0:items.isEmpty=false) (h3:items.size<=1000) :
  Meets (Builtin.«tuple.__mul__» ⟨[.ref l,.int x u],[]⟩) (λ _ R s=>s.heap.get? l=some { cls:=.type "tuple",dict:=d,data:=.seq items n,slots:=sl }/\R (.ok (.ret (.ref s.heap.objs.size))) { s with heap:=s.heap.push { cls:=Value.type "tuple",data:=Data.seq (eY (λ x1 x2=>x1++x2) #[] (aG x.toNat items)) } }) :=
 .of_wp λ prog w A R s h=>by
  obtain ⟨hp,g,d,tk,os⟩:=s;obtain ⟨hl,h⟩:=h
  wp_walk using wpAny_loadPart' hl,wpAny_load hl
  have c0:¬ (decide (x < -2 ^ 63) || decide (x ≥ 2 ^ 63))=true:=by simp; omega
  rw [if_neg c0]
  wp_walk using wpAny_loadPart' hl,wpAny_load hl
  have c1:¬ (items.isEmpty || x==1)=true:=by rw [h0]; simp; omega
  rw [if_neg c1];have c2:¬ (decide (x<=0) || items.isEmpty)=true:=by rw [h0]; simp; omega
  rw [if_neg c2];have hm:(items.size:Int)*x<=1000000:=by
   have a1:(items.size:Int)*x<=1000*x:=dQ (by omega) (by omega);omega
  rw [if_neg (by omega)];have c3:¬ Builtin.Tuple.tupleTooMany ((items.size:Int)*x)=true:=by
   unfold Builtin.Tuple.tupleTooMany;rw [decide_eq_true_iff,sizeLine_eq];omega
  rw [if_neg c3];have hf:eY (λ x1 x2=>x1++x2) #[] (aG x.toNat items)=(aG x.toNat items.toList).flatten.toArray:=by
   have:=Y7 items.toList x.toNat [];rw [dW] at this
   simpa using this
  have hz:(eY (λ x1 x2=>x1++x2) #[] (aG x.toNat items)).size<=sizeLine:=by
   rw [hf,aT,a3t,sizeLine_eq,gF];have:x.toNat*items.size<=1000*1000:=iM (by omega) h3;omega
  exact wpAny_bind (wpAny_newObj_type (wpAny_pure ⟨_,rfl,h⟩) hz)
section
variable {X:Cx}
def a6p (K:W.Frag):R2:=λ x y H Q=>∃ t k xs,x=.ref t/\y=.int k/\SqT K H t xs/\xs≠[]/\1<=k/\k<=1000/\xs.length<=1000/\(k=1->Q (.ref t) H)/\(k≠1->∀ p,H p=none->Q (.ref p) (r6 H p (.tup (aG k.toNat xs).flatten)))
theorem a3l:OpR X (binaryOp .Mult) (a6p X.K):=by
 intro pins s σ H x y v u Q I rx ry h;obtain ⟨l,k,xs,rfl,rfl,hH,hne,h1,h2,h3,q1,q2⟩:=h
 cases rx;obtain ⟨t,rfl⟩:=ry;obtain ⟨its,r,⟨o,e,hc,n,hd⟩,_⟩:=I.tuple hH;obtain ⟨oc,od,odata,osl⟩:=o;dsimp only at hc hd;subst hc hd;have lz:its.length=xs.length:=r.length.symm;refine wpAny_binaryOp_repeat_ref (T:="tuple") (U:="int") (by decide) ⟨_,e,rfl⟩ (λ s'=>typeIs_int s' k t) a0R F.fills_int_mul F.slot_int_rmul a3v F.slot_int_index.lookup
  (call_meets F.slot_int_rmul (typeIs_int s k t) F.entry_int_rmul (F.args_int_rmul_2 _ _) (a2p k t l its.toArray n od osl) ⟨e,rfl,⟨_,e,rfl⟩,?_⟩)
 by_cases hk:k=1
 ·subst hk
  exact call_meets F.slot_tuple_mul ⟨_,e,rfl⟩ F.entry_tuple_mul (F.args_tuple_mul_2 _ _) (a4n l its.toArray n od osl t) ⟨e,.ref l,H,I,rfl,q1 rfl⟩
 ·refine call_meets F.slot_tuple_mul ⟨_,e,rfl⟩ F.entry_tuple_mul (F.args_tuple_mul_2 _ _) (a3N l its.toArray n od osl k t (by omega) h2 ?_ (by rw [aT]; omega)) ⟨e,?_⟩
  ·cases its with
   | nil=>exact absurd (gW lz.symm) hne
   | cons a r=>rfl
  ·have hf:eY (λ x1 x2=>x1++x2) #[] (aG k.toNat its.toArray)=(aG k.toNat its).flatten.toArray:=by
    have:=Y7 its k.toNat [];rw [dW] at this;exact this
   rw [hf];refine ⟨.ref s.heap.objs.size,_,I.laid (t':=s.toks) (o:=.tup (aG k.toNat xs).flatten) (λ b ob q=>Heap.get?_push_of_some _ q) (aF _) ?_,rfl,q2 hk _ (I.hok.fresh (aF _))⟩;refine ⟨?_,_,r.rep k.toNat,IsTup.new _ _⟩;rw [a3t,sizeLine_eq];have:k.toNat*xs.length<=1000*1000:=iM (by omega) h3;omega
end
end L2
namespace Rim
open PySem L2 Fr
section
variable {P:Program} {w:World} {K:W.Frag} {mg:Str->Option Value} {base:Heap} {f C Pt:Addr} {fd:FuncData} {n:Nat}
structure a3u (kt kg:Nat) (h:j0):Prop where
 nn:b3O h
 s1:h.1.length<=10
 s2:h.2.length<=10
 g:GoodK h kt kg->HG 40 kt kg h
def a0Z (K:W.Frag):Sp:=λ vs H Q _=>∃ (bk c pk:Addr) (xs:List V) (hs:List j0) (kt kg:Nat) (ps:List Int),vs=[.ref bk,.ref c,.ref pk]/\H bk=some (.lst xs)/\Bk K H xs hs/\(∀ g∈hs,HG 40 kt kg g)/\hs.length<=16/\H c=some (.tup [.int (kt:Int),.int (kg:Int)])/\(1<=kt/\kt<=4)/\(1<=kg/\kg<=4)/\H pk=some (.lst (ps.map V.int))/\ps.length=16/\(∀ d∈ps,0<=d/\d<1000) ∧
 ∀ (v:V) (h:j0) (H':Hp),Same H H'->HS K H' v h->a3u kt kg h->Q v H'
theorem scHouse12:m9 ["book","counts","picks","takes","gives","form"] ["book","counts","picks"] (i8 C8):=⟨rfl,rfl,rfl,by decide +kernel,rfl,by decide +kernel,by decide +kernel⟩
theorem a4Z:(["pick"]:List Str).Nodup:=by decide +kernel
noncomputable def b2S {cdv:Value} {A:Around} {outer:List Env} {s:Shared} {H:Hp} {E:XK} {f1:Addr} {d1:FuncData} (T:x5 mg) (Cn:Cal P w K mg base n "_law_near" ["house","picks","far"] (a5b K) f1 d1)
  (hr:Room n (A.deeper (dC "_law_a_house" (i8 C8) s.heap.objs.size f cdv))) :
  { t:TS // PSs (K1 E4 P w K mg base ["book","counts","picks","takes","gives","form"] "_law_a_house" (i8 C8) f cdv A outer s H E).nox (w4 C8) t } :=
 ⟨_,p7 (o4 (i:=3) scHouse12.nd rfl (aC rfl) (v9 M1 rfl T.tuple fG (a0 (V2 ["pick"] [] rfl (M4 (G3 P9 (pv 2) P8 (G4 (j9 a1W (pv 1) h8 (λ _ _=>rfl))))) (λ _ _ _ _=>j8 (i:=0) a4Z rfl (aC rfl)) (λ _ _ _ _=>j4 C4 h8 (j4 x9 (pv 0) h8))) e9)))
  (p7 (o4 (i:=4) scHouse12.nd rfl (aC rfl) (v9 M1 rfl T.tuple fG (a0 (V2 ["pick"] [] rfl (M4 (G3 P9 (pv 2) (G4 h8) (G4 (j4 C4 h8 (j9 a1W (pv 1) h8 (λ _ _=>rfl)))))) (λ _ _ _ _=>j8 (i:=0) a4Z rfl (aC rfl)) (λ _ _ _ _=>j4 C4 h8 (j4 N5 (j4 x9 (pv 0) h8) (v9 R8 rfl T.int fT (a0 (A9 a0D (j4 x9 (pv 0) h8) h8 (p6 _)) e9))))) e9)))
  (p7 (A4 (a3p (PW.pt (a3B (t9 (a2o hr) (pv 0) (u9 e9) (p6 _)) (a1J (t9 N6 (j4 x9 (j9 j5 (pv 2) h8 (λ _ _=>rfl)) h8) h8 (p6 _))))))
   (j3 (r9 (o6 Cn.ok hr rfl Cn.m Cn.k Cn.b .nil w6 (a0 (j9 j5 (pv 0) (j4 x9 (j9 j5 (pv 2) h8 (λ _ _=>rfl)) (j6 j7 rfl T.len bB (a0 (pv 0) e9))) (λ _ _=>rfl)) (a0 (pv 2) (a0 h8 e9)))))) v8)
  (p7 (o4 (i:=5) scHouse12.nd rfl (aC rfl) (j4 x9 (j9 j5 (pv 2) h8 (λ _ _=>rfl)) h8))
  (p7 (A4 (t9 N6 (pv 5) h8 (p6 _)) (j3 (o4 (i:=3) scHouse12.nd rfl (aC rfl) (j4 a1I (pv 3) (D4 (a0 h8 e9))))) v8)
  (p7 (A4 (t9 N6 (pv 5) h8 (p6 _)) (j3 (o4 (i:=4) scHouse12.nd rfl (aC rfl) (G3 a6H (pv 4) (G4 h8) P8))) v8)
  (p7 (A4 (t9 N6 (pv 5) h8 (p6 _)) (j3 (o4 (i:=3) scHouse12.nd rfl (aC rfl) (j4 a1I (D4 (a0 (j4 N5 (j4 x9 (j4 V1 (j9 j5 (pv 2) h8 (λ _ _=>rfl)) h8) h8) (j4 C4 (j4 a5P h8 h8) h8)) e9)) (G3 a6H (pv 3) (G4 h8) P8)))) v8)
  (p7 (A4 (t9 N6 (pv 5) h8 (p6 _)) (j3 (o4 (i:=4) scHouse12.nd rfl (aC rfl) (j4 a3l (D4 (a0 h8 e9)) (j6 j7 rfl T.len bB (a0 (pv 4) e9))))) v8)
  (j3 (r9 (D4 (a0 (pv 3) (a0 (pv 4) e9))))))))))))⟩
theorem a4N {hs:List j0}:PyData.eqv (.list (hs.map C6)) (.list [])=hs.isEmpty:=by
 rw [PyData.eqv]
 cases hs with
 | nil=>rw [dG,PyData.eqvAll]; rfl
 | cons a r=>rw [aV,PyData.eqvAll] <;> first | rfl | simp
theorem HG.fine {kt kg:Nat} {h:j0} (g:HG 40 kt kg h) (k1:kt<=4) (k2:kg<=4):a3u kt kg h :=
 ⟨⟨λ x hx=>by have:=(g.t x hx).1; omega,λ x hx=>(g.g x hx).1⟩,by have:=g.lt; omega,by have:=g.lg; omega,λ _=>g⟩
theorem a5F {f1:Addr} {d1:FuncData} (F:Fun K "_law_a_house" "_law_a_house" C8 f fd) (T:x5 mg) (Cn:Cal P w K mg base n "_law_near" ["house","picks","far"] (a5b K) f1 d1) :
  FnOk P w K mg base E4 (n+1) f fd ["book","counts","picks"] (a0Z K):=by
 refine F.ok scHouse12 (λ vs H Q E h=>?_) (λ cdv A outer s H vs Q E hr h=>?_)
 ·obtain ⟨bk,c,pk,xs,hs,kt,kg,ps,rfl,_⟩:=h
  rfl
 obtain ⟨bk,c,pk,xs,hs,kt,kg,ps,rfl,hbk,hB,hG,h16,hc,⟨kt1,kt4⟩,⟨kg1,kg4⟩,hpk,lp,bp,q⟩:=h;refine ⟨_,(b2S T Cn hr).2,?_⟩;have at16:∀ k:Nat,k<16->∃ v,v∈ps/\Y8 (ps.map V.int) (k:Int)=some (.int v):=λ k hk=>M3 (by omega) (by omega);have xl:xs.length=hs.length:=Paired.length hB;refine ⟨λ σ' H'=>∃ (ta:Addr) (tN:List Int),σ'=[some (.ref bk),some (.ref c),some (.ref pk),some (.ref ta),none,none]/\Same H H'/\H' ta=some (.tup (tN.map V.int))/\tN.length=kt/\∀ v∈tN,1<=v/\v<=9,?_,?_⟩
 ·have hc1:E8 (ps.map V.int) none (some (kt:Int))=(ps.take kt).map V.int:=by rw [a3s _ _ (by rw [aA]; omega),<- kY]
  refine ⟨_,rfl,_,rfl,c,_,0,_,rfl,rfl,SqT.of hc,rfl,_,rfl,pk,_,rfl,SqL.of hpk,λ sl hsl=>?_⟩;rw [hc1];have s1:=Same.new hsl (.lst ((ps.take kt).map V.int));have ll:(ps.take kt).length=kt:=by simp; omega
  refine ⟨sl,rfl,⟨_,SqL.of upd_same⟩,λ r hr=>?_⟩;refine R6 (J5 (SqL.of upd_same)) hr (by rw [aA,ll]; exact m8 (by omega)) (λ x=>.int (1+vI x % 9)) (λ i x H' N hx e hN=>?_) ?_
  ·obtain ⟨k,rfl⟩:=L8 hx
   exact ⟨Wk.set (by decide),_,rfl,_,_,rfl,rfl,(by show (0:Int)<9; decide),_,_,rfl,rfl,hN⟩
  ·have em:((ps.take kt).map V.int).map (λ x=>V.int (1+vI x % 9))=((ps.take kt).map (λ i=>1+i % 9)).map V.int:=by rw [aQ,aQ]; rfl
   rw [em];have s2:=Same.new hr (.lst (((ps.take kt).map (λ i=>1+i % 9)).map V.int));refine ⟨r,_,rfl,.inl ⟨SqL.of upd_same,λ ta hta=>?_⟩⟩;refine ⟨ta,(ps.take kt).map (λ i=>1+i % 9),rfl,s1.trans (s2.trans (Same.new hta _)),upd_same,by rw [aA,ll],λ v hv=>?_⟩;obtain ⟨i,_,rfl⟩:=bA.mp hv;omega
 rintro _ H1 ⟨ta,tN,rfl,e1,hta,ltN,btN⟩;refine ⟨λ σ' H'=>∃ (ga:Addr) (gN:List Int),σ'=[some (.ref bk),some (.ref c),some (.ref pk),some (.ref ta),some (.ref ga),none]/\Same H1 H'/\H' ga=some (.tup (gN.map V.int))/\gN.length=kg/\∀ v∈gN,1<=v/\v<=9,?_,?_⟩
 ·have hc1:E8 (ps.map V.int) (some 4) (some (4+(kg:Int)))=((ps.drop 4).take kg).map V.int:=by
   rw [show (some (4:Int))=some ((4:Nat):Int) from rfl,show (some (4+(kg:Int)))=some ((4+kg:Nat):Int) by congr 1,a9U _ 4 (4+kg) (by omega) (by rw [aA]; omega),<- iZ,eI,<- kY]
  refine ⟨_,rfl,_,rfl,_,rfl,c,_,1,_,rfl,rfl,SqT.of (e1 _ _ hc),rfl,_,_,rfl,rfl,_,rfl,pk,_,rfl,SqL.of (e1 _ _ hpk),λ sl hsl=>?_⟩;dsimp only;rw [hc1];have s1:=Same.new hsl (.lst (((ps.drop 4).take kg).map V.int));have ll:((ps.drop 4).take kg).length=kg:=by simp; omega
  refine ⟨sl,rfl,⟨_,SqL.of upd_same⟩,λ r hr=>?_⟩;refine R6 (J5 (SqL.of upd_same)) hr (by rw [aA,ll]; exact m8 (by omega)) (λ x=>.int (1+vI x % 9*(if decide (0<vI x % 4)=true then 1 else 0))) (λ i x H' N hx e hN=>?_) ?_
  ·obtain ⟨k,rfl⟩:=L8 hx
   exact ⟨Wk.set (by decide),_,rfl,_,_,rfl,rfl,(by show (0:Int)<9; decide),_,rfl,_,_,rfl,rfl,(by show (0:Int)<4; decide),_,_,rfl,rfl,.inr ⟨_,rfl,_,_,rfl,rfl,.inr (by split <;> exact ⟨by decide,by decide⟩),_,_,rfl,rfl,hN⟩⟩
  ·have em:(((ps.drop 4).take kg).map V.int).map (λ x=>V.int (1+vI x % 9*(if decide (0<vI x % 4)=true then 1 else 0)))=(((ps.drop 4).take kg).map (λ i=>1+i % 9*(if decide (0<i % 4)=true then 1 else 0))).map V.int:=by rw [aQ,aQ]; rfl
   rw [em];have s2:=Same.new hr (.lst ((((ps.drop 4).take kg).map (λ i=>1+i % 9*(if decide (0<i % 4)=true then 1 else 0))).map V.int));refine ⟨r,_,rfl,.inl ⟨SqL.of upd_same,λ ga hga=>?_⟩⟩;refine ⟨ga,((ps.drop 4).take kg).map (λ i=>1+i % 9*(if decide (0<i % 4)=true then 1 else 0)),rfl,s1.trans (s2.trans (Same.new hga _)),upd_same,by rw [aA,ll],λ v hv=>?_⟩;obtain ⟨i,_,rfl⟩:=bA.mp hv
   split <;> omega
 rintro _ H2 ⟨ga,gN,rfl,e2,hga,lgN,bgN⟩;have e12:=e1.trans e2;have org:HG 40 kt kg (tN,gN):=⟨ltN,lgN,λ x hx=>by have:=btN x hx; omega,λ x hx=>by have:=bgN x hx; omega,by
  match gN,lgN,bgN with
  | [],l,_=>simp at l; omega
  | v::_,_,b=>exact ⟨v,.head _,by have:=b v (.head _); omega⟩⟩
 refine ⟨λ σ' H'=>σ'=[some (.ref bk),some (.ref c),some (.ref pk),some (.ref ta),some (.ref ga),none]/\Same H2 H',?_,?_⟩
 ·refine ⟨λ b H'=>Same H2 H'/\(b=true->1<=hs.length),?_,?_⟩
  ·refine ⟨_,rfl,(by show 0<=sizeLine; decide),λ el hel=>?_⟩
   have t1:=Same.new hel (.lst []);have layb:PyData.canLay0 (.list (hs.map C6))=true:=by rw [PyData.canLay0]; exact X3 _
   have depb:(PyData.list (hs.map C6)).depth<=60:=by
    have:=P2 hs;rw [PyData.depth];lia
   refine ⟨.list (hs.map C6),.list [],.lst (SqL.of (t1 _ _ (e12 _ _ hbk))) (Bk.dps (Bk.same (e12.trans t1) hB)),.lst (SqL.of upd_same) .nil,layb,rfl,aW (dU _ _) depb,_,rfl,?_⟩;rw [a4N];obtain ⟨v10,m10,i10⟩:=at16 10 (by decide);refine D0 (λ d=>?_) (λ d=>?_)
   ·have d1:1<=hs.length:=by
     cases hl:hs with
     | nil=>rw [hl] at d; simp at d
     | cons a r=>simp
    exact ⟨_,rfl,pk,_,10,_,rfl,rfl,SqL.of (t1 _ _ (e12 _ _ hpk)),i10,_,_,rfl,rfl,(by show (0:Int)<3; decide),rfl,_,rfl,t1,λ _=>d1⟩
   ·exact ⟨t1,nofun⟩
  ·rintro b H3 ⟨e3,y1⟩
   cases b with
   | false=>exact a0c ⟨rfl,e3⟩
   | true =>
    refine Q9 ?_;have h1:=y1 rfl;have e13:=e12.trans e3;obtain ⟨v11,m11,i11⟩:=at16 11 (by decide);have b11:=bp v11 m11;have a1:=eF v11 (show (xs.length:Int)≠0 by omega);have a2:=eG v11 (show (0:Int)<(xs.length:Int) by omega);have hi:(v11 % (xs.length:Int)).toNat<xs.length:=by omega
    have ex:xs[(v11 % (xs.length:Int)).toNat]?=some xs[(v11 % (xs.length:Int)).toNat]:=aH hi;obtain ⟨g,eg,rg⟩:=C9 hB ex;have ax:Y8 xs (v11 % (xs.length:Int))=some xs[(v11 % (xs.length:Int)).toNat]:=by
     have:=D9 ex
     rwa [show ((v11 % (xs.length:Int)).toNat:Int)=v11 % (xs.length:Int) by omega] at this
    refine ⟨_,rfl,_,rfl,pk,_,11,_,rfl,rfl,SqL.of (e13 _ _ hpk),i11,_,rfl,bk,xs,rfl,.inl (SqL.of (e13 _ _ hbk)),_,_,rfl,rfl,(by show (0:Int)<(xs.length:Int); omega),bk,xs,_,_,rfl,rfl,SqL.of (e13 _ _ hbk),ax,_,rfl,?_⟩;refine ⟨_,pk,40,g,ps,kt,kg,rfl,rg.same e13,hG g (bS eg),kt1,kt4,kg1,kg4,by decide,SqL.of (e13 _ _ hpk),by omega,λ d hd=>(bp d hd).1,λ r H4 h' e4 hs' hg'=>?_⟩;exact q r h' H4 (e13.trans e4) hs' (hg'.fine kt4 kg4)
 rintro _ H3 ⟨rfl,e3⟩;have e13:=e12.trans e3;refine ⟨λ σ' H'=>∃ fm:Int,0<=fm/\σ'=[some (.ref bk),some (.ref c),some (.ref pk),some (.ref ta),some (.ref ga),some (.int fm)]/\H3=H',?_,?_⟩
 ·obtain ⟨v12,m12,i12⟩:=at16 12 (by decide)
  exact ⟨_,rfl,pk,_,12,_,rfl,rfl,SqL.of (e13 _ _ hpk),i12,_,_,rfl,rfl,(by show (0:Int)<9; decide),v12 % 9,by omega,rfl,rfl⟩
 rintro _ _ ⟨fm,fm0,rfl,rfl⟩;have lngt:tN≠[]:=λ z=>by rw [z] at ltN; simp at ltN; omega
 have lngg:gN≠[]:=λ z=>by rw [z] at lgN; simp at lgN; omega
 have fin0:=org.fine kt4 kg4;refine ⟨λ σ' H'=>∃ (ta:Addr) (tN:List Int),σ'=[some (.ref bk),some (.ref c),some (.ref pk),some (.ref ta),some (.ref ga),some (.int fm)]/\Same H3 H'/\SqT K H' ta (tN.map V.int)/\a3u kt kg (tN,gN)/\(1<=fm->HG 40 kt kg (tN,gN)),?_,?_⟩
 ·refine ⟨_,rfl,rfl,_,rfl,?_⟩
  refine D0 (λ cc=>?_) (λ cc=>?_)
  ·have c0:fm=0:=by simpa using cc
   refine ⟨_,rfl,(by show 1<=sizeLine; decide),λ pt hpt=>?_⟩;have t1:=Same.new hpt (.tup [V.int 1]);refine ⟨ta,pt,_,_,rfl,rfl,SqT.of (t1 _ _ (e3 _ _ (e2 _ _ hta))),SqT.of upd_same,λ z=>lngt (gY.mp z),by rw [aA,ltN]; show kt+1<=sizeLine; exact cO (m8 (by omega)),(λ z=>by cases z),λ _ r hr=>?_⟩;have t2:=Same.new hr (.tup (tN.map V.int++[V.int 1]));refine ⟨r,tN++[1],rfl,t1.trans t2,SqT.of (by rw [upd_same,bC]; rfl),⟨⟨λ x hx=>?_,fin0.nn.2⟩,by simp; omega,fin0.s2,λ g=>?_⟩,λ z=>by omega⟩
   ·rcases aO.mp hx with hx | hx
    ·exact fin0.nn.1 x hx
    ·rw [bF.mp hx]; decide
   ·have:=g.1.1
    simp at this;omega
  ·exact ⟨ta,tN,rfl,Same.refl _,SqT.of (e3 _ _ (e2 _ _ hta)),fin0,λ _=>org⟩
 rintro _ H4 ⟨ta1,tN1,rfl,e4,hta1,fin1,org1⟩;have hga4:SqT K H4 ga (gN.map V.int):=SqT.of (e4 _ _ (e3 _ _ hga));have e14:=e13.trans e4;refine ⟨λ σ' H'=>∃ (ga:Addr) (gN:List Int),σ'=[some (.ref bk),some (.ref c),some (.ref pk),some (.ref ta1),some (.ref ga),some (.int fm)]/\Same H4 H'/\SqT K H' ga (gN.map V.int)/\a3u kt kg (tN1,gN)/\(2<=fm->HG 40 kt kg (tN1,gN)),?_,?_⟩
 ·refine ⟨_,rfl,rfl,_,rfl,?_⟩
  refine D0 (λ cc=>?_) (λ cc=>?_)
  ·have c0:fm=1:=by simpa using cc
   have o:=org1 (by omega);refine ⟨_,rfl,_,rfl,ga,_,rfl,hga4,λ w=>?_,λ _ r hr=>?_⟩
   ·exfalso
    have:=w.1;rw [show (some (1:Int))=some ((1:Nat):Int) from rfl,HT.sIx_nat,aA,lgN] at this;omega
   ·rw [show (some (1:Int))=some ((1:Nat):Int) from rfl,a0A _ _ (by rw [aA]; omega),<- iZ]
    refine ⟨r,gN.drop 1,rfl,Same.new hr _,SqT.of upd_same,⟨⟨fin1.nn.1,λ x hx=>fin0.nn.2 x (eJ hx)⟩,fin1.s1,by simp; omega,λ g=>?_⟩,λ z=>by omega⟩;have:=g.2.1.1;simp at this;omega
  ·have c0:¬ fm=1:=by simpa using cc
   exact ⟨ga,gN,rfl,Same.refl _,hga4,fin1,λ z=>org1 (by omega)⟩
 rintro _ H5 ⟨ga2,gN2,rfl,e5,hga2,fin2,org2⟩;have e15:=e14.trans e5;have hta5:=e5.tseq hta1;refine ⟨λ σ' H'=>∃ (ta:Addr) (tN:List Int),σ'=[some (.ref bk),some (.ref c),some (.ref pk),some (.ref ta),some (.ref ga2),some (.int fm)]/\Same H5 H'/\SqT K H' ta (tN.map V.int)/\a3u kt kg (tN,gN2)/\(3<=fm->HG 40 kt kg (tN,gN2)),?_,?_⟩
 ·refine ⟨_,rfl,rfl,_,rfl,?_⟩
  refine D0 (λ cc=>?_) (λ cc=>?_)
  ·have c0:fm=2:=by simpa using cc
   have o:=org2 (by omega);have lt1:tN1.length=kt:=o.lt;obtain ⟨v12,m12,i12⟩:=at16 12 (by decide);refine ⟨_,rfl,pk,_,12,_,rfl,rfl,SqL.of (e15 _ _ hpk),i12,_,_,rfl,rfl,(by show (0:Int)<9/\(9:Int)<1073741824; decide),_,_,rfl,rfl,(by show (0:Int)<2; decide),_,_,rfl,rfl,⟨by decide,by decide,by decide⟩,_,_,rfl,rfl,_,_,rfl,rfl,.inl ⟨by omega,by omega⟩,(by show 1<=sizeLine; decide),λ pt hpt=>?_⟩;have hX:v12 / 9 % 2*(10 ^ (9:Int).toNat+1)=0\/v12 / 9 % 2*(10 ^ (9:Int).toNat+1)=1000000001:=by
    have:v12 / 9 % 2=0\/v12 / 9 % 2=1:=by omega
    rcases this with z | z <;> rw [z] <;> decide
   dsimp only at hpt ⊢;generalize v12 / 9 % 2*(10 ^ (9:Int).toNat+1)=X at *;have t1:=Same.new hpt (.tup [V.int X]);refine ⟨_,rfl,_,rfl,ta1,_,rfl,t1.tseq hta5,λ w=>?_,λ _ p2 hp2=>?_⟩
   ·exfalso
    have:=w.1;rw [show (some (1:Int))=some ((1:Nat):Int) from rfl,HT.sIx_nat,aA,lt1] at this;omega
   rw [show (some (1:Int))=some ((1:Nat):Int) from rfl,a0A _ _ (by rw [aA]; omega),<- iZ] at *;have t2:=Same.new hp2 (.tup ((tN1.drop 1).map V.int));have fin:a3u kt kg ([X]++tN1.drop 1,gN2):=⟨⟨λ x hx=>by
    rcases aO.mp hx with hx | hx
    ·rw [bF.mp hx]; omega
    ·exact fin2.nn.1 x (eJ hx),fin2.nn.2⟩,by simp; omega,fin2.s2,λ g=>by
     have:=g.1.2 X (dN _ (.head _));omega⟩
   refine ⟨pt,p2,_,_,rfl,rfl,SqT.of (t2 _ _ upd_same),SqT.of upd_same,nofun,by show 1+((tN1.drop 1).map V.int).length<=sizeLine; rw [aA,dE]; exact cO (m8 (by omega)),λ z=>?_,λ _ r hr=>?_⟩
   ·have z':tN1.drop 1=[]:=gY.mp z
    refine ⟨pt,[X]++tN1.drop 1,rfl,t1.trans t2,SqT.of ?_,fin,λ z=>by omega⟩;rw [show ([X]++tN1.drop 1).map V.int=[V.int X] by rw [z']; rfl]; exact t2 _ _ upd_same
   ·refine ⟨r,[X]++tN1.drop 1,rfl,t1.trans (t2.trans (Same.new hr _)),SqT.of ?_,fin,λ z=>by omega⟩
    rw [upd_same,bC]; rfl
  ·have c0:¬ fm=2:=by simpa using cc
   exact ⟨ta1,tN1,rfl,Same.refl _,hta5,fin2,λ z=>org2 (by omega)⟩
 rintro _ H6 ⟨ta3,tN3,rfl,e6,hta3,fin3,org3⟩;have hga6:=e6.tseq hga2;refine ⟨λ σ' H'=>∃ (ga:Addr) (gN:List Int),σ'=[some (.ref bk),some (.ref c),some (.ref pk),some (.ref ta3),some (.ref ga),some (.int fm)]/\Same H6 H'/\SqT K H' ga (gN.map V.int)/\a3u kt kg (tN3,gN),?_,?_⟩
 ·refine ⟨_,rfl,rfl,_,rfl,?_⟩
  refine D0 (λ cc=>?_) (λ cc=>?_)
  ·have c0:fm=3:=by simpa using cc
   have o:=org3 (by omega);have lg3:gN2.length=kg:=o.lg;refine ⟨(by show 1<=sizeLine; decide),λ pt hpt=>?_⟩;have t1:=Same.new hpt (.tup [V.int 0]);have fl:∀ (k:Nat) (x:V),(aG k [x]).flatten=aG k x:=λ k x=>by
    induction k with
    | zero=>rfl
    | succ k ih=>rw [cZ,eX,ih,cZ]; rfl
   have fin:a3u kt kg (tN3,aG kg 0):=⟨⟨fin3.nn.1,λ x hx=>by rw [(eH.mp hx).2]; decide⟩,fin3.s1,by simp; omega,λ g=>by
    obtain ⟨x,hx,h0⟩:=g.2.2;rw [(eH.mp hx).2] at h0
    cases h0⟩
   refine ⟨_,rfl,ga2,_,rfl,.inr (t1.tseq hga6),pt,_,[V.int 0],rfl,rfl,SqT.of upd_same,nofun,by rw [aA]; omega,by rw [aA]; omega,(by show 1<=1000; decide),λ e=>?_,λ _ r hr=>?_⟩
   ·refine ⟨pt,aG kg 0,rfl,t1,SqT.of ?_,fin⟩
    have:kg=1:=by rw [aA] at e; omega
    subst this;exact upd_same
   ·refine ⟨r,aG kg 0,rfl,t1.trans (Same.new hr _),SqT.of ?_,fin⟩
    rw [upd_same,fl,aA,aY,lg3,kZ]
  ·exact ⟨ga2,gN2,rfl,Same.refl _,hga6,fin3⟩
 rintro _ H7 ⟨ga4,gN4,rfl,e7,hga4',fin4⟩;refine ⟨_,rfl,_,rfl,(by show 2<=sizeLine; decide),λ r hr=>?_⟩;have s8:=Same.new hr (.tup [V.ref ta3,V.ref ga4]);exact q _ (tN3,gN4) _ (e15.trans (e6.trans (e7.trans s8))) ⟨r,ta3,ga4,rfl,SqT.of upd_same,s8.tseq (e7.tseq hta3),s8.tseq hga4'⟩ fin4
end
section
variable {P:Program} {w:World} {K:W.Frag} {mg:Str->Option Value} {base:Heap} {f C Pt CN:Addr} {fd:FuncData} {n:Nat}
theorem a1C:(["k","book","sizes"]:List Str).Nodup:=by decide +kernel
theorem Y3 {H:Hp} {te:TE} {fr:List Nat} {σ:St} {wl:Addr} {D:Hp->Prop} {z:Str} {kt kg:Nat} {hs:List j0} {xs:List V} {bk:Addr} (LTH:LT Pt H) (ft:Fit z kt kg) (hG:∀ g∈hs,HG (10 ^ 9) kt kg g) (h16:hs.length<=16) (hwl:H wl=none)
  (step:∀ (i:Nat) (H1:Hp) (N:VK),i<hs.length->Same1 Pt H H1->LT Pt H1->(∀ (h':j0) (A' B':Int) (v:V) (H3:Hp),hs[i]?=some h'->ShU z hs h' kt kg A' B'->Same1 Pt H1 H3->LT Pt H3->FrT H3 v (low A' B')->N v H3)->te ((blkσ 1 fr σ).set 0 (some (.int (i:Int)))) H1 N)
  (hd:∀ ys H1,Same1 Pt H H1->LT Pt H1->H1 wl=some (.lst ys)->aN (FrT H1) ys (O2 z kt kg hs)->D H1):lcW 1 fr (J8 0) te σ (Itr 0 hs.length) H wl D:=by
 refine a6A (P:=Pt) (pos:=a5J) (qual:=b1V) LTH hwl (m8 (by omega)) (λ i y H'=>∃ q h A B,(hs[i]?=some h/\ShU z hs h kt kg A B/\q=low A B)/\FrT H' y q) (λ i y H1 H2 L1 hz r k=>?_) (λ i H1 ys N' hi e1 L1 hp1 hN=>?_) (λ ys H1 e1 L1 hp1 len pr=>?_)
 ·obtain ⟨zs,hzs⟩:=hz
  obtain ⟨q,h,A,B,x,a,rfl,r⟩:=r;exact ⟨q,h,A,B,x,a,rfl,k _ _ (y9 r hzs nofun) (L1.ne r nofun) r⟩
 ·exact step i H1 N' hi e1 L1 λ h' A' B' v H3 hh X e3 L3 r=>hN v H3 e3 L3 ⟨_,h',A',B',⟨hh,X,rfl⟩,r⟩
 ·obtain ⟨qs,pq,kq⟩:=a8t (H:=H1) (ys:=ys) (R:=λ i q=>∃ h A B,hs[i]?=some h/\ShU z hs h kt kg A B/\q=low A B) λ i y e=>by
   obtain ⟨q,h,A,B,x,r⟩:=pr i y e;exact ⟨q,⟨h,A,B,x⟩,r⟩
  have sh:Shs z hs kt kg qs:=⟨by rw [<- pq.length,len],λ i h q hh hq=>by
   obtain ⟨h',A,B,hh',X,e⟩:=kq i q hq;rw [hh] at hh'; cases hh';exact ⟨A,B,X,e⟩⟩
  have:=sh.q ft.z hG;subst this;exact hd ys H1 e1 L1 hp1 pq
def a4O (K:W.Frag) (C Pt:Addr):Sp:=λ vs H Q _=>∃ (o:Kq) (S:KS) (lo:List Addr) (bk:Addr) (xs:List V),vs=[.ref o.p,.ref bk,.str o.z]/\KpS K C H o.p o.kt o.kg o.z S o.pa lo/\Fit o.z o.kt o.kg/\OkS o.z o.kt o.kg S/\LT Pt H/\H bk=some (.lst xs)/\Bk K H xs S.1 ∧
 ∀ H',Same1 Pt H H'->LT Pt H'->Q (.bl true) H'
theorem scTold12:m9 ["kept","book","sizes","due","found","one"] ["kept","book","sizes"] (i8 A7):=⟨rfl,rfl,rfl,by decide +kernel,rfl,by decide +kernel,by decide +kernel⟩
noncomputable def b4d {cdv:Value} {A:Around} {outer:List Env} {s:Shared} {H:Hp} {E:XK} {f1 f2 f3 f4 f5:Addr} {d1 d2 d3 d4 d5:FuncData} (T:x5 mg) (TKd:TK K C) (Cs:a1Y P w K mg base n "share" ["book","number","sizes"] (P6 K CN Pt) f1 d1) (Co:a0f P w K mg base n "rim_of" ["book","sizes"] (a1E K Pt) f2 d2)
  (Ch:R9 P w K mg base E4 n C "houses" ["self"] (a0Y K C) f3 d3) (Csh:R9 P w K mg base E4 n C "shares" ["self"] (a1l K C) f4 d4) (Cr:R9 P w K mg base E4 n C "rim" ["self"] (a5n K C Pt) f5 d5)
  (hr:Room n (A.deeper (dC "_law_told_right" (i8 A7) s.heap.objs.size f cdv))) :
  { t:TS // PSs (K1 E4 P w K mg base ["kept","book","sizes","due","found","one"] "_law_told_right" (i8 A7) f cdv A outer s H E).nox (w4 A7) t } :=
 ⟨_,p7 (o4 (i:=3) scTold12.nd rfl (aC rfl) (u9 (a0 (v9 B7 rfl T.list dJ (a0 (pv 1) e9)) (a0 (V2 ["k"] [1,2] rfl (A3 rfl T.range (a0 (j6 j7 rfl T.len bB (a0 (pv 1) e9)) e9)) (λ _ _ _ _=>j8 (i:=0) a1C rfl (aC rfl)) (λ _ _ _ _=>o6 (S7 Cs.ok) hr rfl Cs.m Cs.k Cs.b .nil a1b (a0 (pv 1) (a0 (pv 0) (a0 (pv 2) e9))))) (a0 (u9 e9) e9)))))
  (p7 (A4 (t9 (a2o hr) (pv 1) (u9 e9) (p6 _)) (j3 (G9 (o6 Co.ok hr rfl Co.m Co.k Co.b .nil w6 (a0 (pv 1) (a0 (pv 2) e9))) (U8 (pv 3) h8 K5))) v8)
  (p7 (o4 (i:=4) scTold12.nd rfl (aC rfl) (u9 (a0 (K6 (pv 0) TKd.cl Ch.me Ch.ok hr Ch.bd .nil w6) (a0 (K6 (pv 0) TKd.cl Csh.me Csh.ok hr Csh.bd .nil w6) (a0 (K6 (pv 0) TKd.cl Cr.me Cr.ok hr Cr.bd .nil w6) e9)))))
  (p7 (A4 (t9 (a2o hr) (pv 4) (pv 3) (p6 _)) a2b v8)
  (p7 (W3 PassesOwn.never rfl (M4 (pv 4)) (j8 (i:=5) scTold12.nd rfl (aC rfl)) (j3 (D3 (a0L eE fE fF J4 (pv 5) (a0 h8 e9)))))
  (j3 (r9 (X0 (A9 (Y1 hr) (K6 (pv 0) TKd.cl Ch.me Ch.ok hr Ch.bd .nil w6) (j9 j5 (pv 3) h8 (λ _ _=>rfl)) (p6 _)) (a0T (A9 (Y1 hr) (K6 (pv 0) TKd.cl Csh.me Csh.ok hr Csh.bd .nil w6) (j9 j5 (pv 3) h8 (λ _ _=>rfl)) (p6 _))))))))))⟩
theorem a7M {f1 f2 f3 f4 f5:Addr} {d1 d2 d3 d4 d5:FuncData} (F:Fun K "_law_told_right" "_law_told_right" A7 f fd) (T:x5 mg) (TKd:TK K C) (Cs:a1Y P w K mg base n "share" ["book","number","sizes"] (P6 K CN Pt) f1 d1) (Co:a0f P w K mg base n "rim_of" ["book","sizes"] (a1E K Pt) f2 d2)
  (Ch:R9 P w K mg base E4 n C "houses" ["self"] (a0Y K C) f3 d3) (Csh:R9 P w K mg base E4 n C "shares" ["self"] (a1l K C) f4 d4) (Cr:R9 P w K mg base E4 n C "rim" ["self"] (a5n K C Pt) f5 d5) :
  FnOk P w K mg base E4 (n+1) f fd ["kept","book","sizes"] (a4O K C Pt):=by
 refine F.ok scTold12 (λ vs H Q E h=>?_) (λ cdv A outer s H vs Q E hr h=>?_)
 ·obtain ⟨o,S,lo,bk,xs,rfl,_⟩:=h
  rfl
 obtain ⟨o,S,lo,bk,xs,rfl,KP,ft,ok,LTH,hbk,hB,q⟩:=h;refine ⟨_,(b4d T TKd Cs Co Ch Csh Cr hr).2,?_⟩;have ok1:OkK o.z o.kt o.kg S.1:=ok S.1 (bN _ (.head _));have xl:xs.length=S.1.length:=Paired.length hB;have h16:=ok1.m;refine ⟨λ σ' H'=>∃ (du dl0 dl1 dl2:Addr) (ys:List V),σ'=[some (.ref o.p),some (.ref bk),some (.str o.z),some (.ref du),none,none]/\Same1 Pt H H'/\LT Pt H'/\H du=none/\H' du=some (.lst [.ref dl0,.ref dl1,.ref dl2])/\H' dl0=some (.lst xs)/\H' dl1=some (.lst ys)/\aN (FrT H') ys (O2 o.z o.kt o.kg S.1)/\H' dl2=some (.lst [])/\dl0≠du/\dl1≠du,?_,?_⟩
 ·refine ⟨_,rfl,bk,xs,rfl,.inl (SqL.of hbk),λ l0 hl0=>?_⟩
  have s1:=Same.new hl0 (.lst xs);refine ⟨_,rfl,bk,_,rfl,.inl (SqL.of (s1 _ _ hbk)),_,rfl,by omega,by omega,λ l1 hl1=>?_⟩;rw [xl,aY];have L1:=LTH.same s1;refine Y3 (z:=o.z) (kt:=o.kt) (kg:=o.kg) (hs:=S.1) (xs:=xs) (bk:=bk) L1 ft ok1.g h16 hl1 (λ i H2 N hi e2 L2 hN=>?_) (λ ys H2 e2 L2 hp2 pq=>?_)
  ·have hbk2:=e2.get L1 (s1 _ _ hbk) nofun
   have bin:Q6 K H2 bk xs S.1 (10 ^ 9) o.kt o.kg:=⟨SqL.of hbk2,Bk.same1 L1 e2 (Bk.same s1 hB),ok1.g,by decide,h16,by have:=ft.t4; omega,by have:=ft.g4; omega⟩;refine ⟨_,rfl,_,rfl,_,rfl,bk,xs,S.1,(i:Int),o.z,10 ^ 9,o.kt,o.kg,rfl,ft.z,bin,ft.t1,U1 (by omega),L2,λ i' h' A' B' H7 u' hi' hh' X' e7 L7 hu'=>?_,λ bad=>absurd ⟨by omega,by omega⟩ bad⟩;have:i'=i:=by omega
   subst this;exact hN h' A' B' _ _ hh' X' e7 L7 hu'
  ·refine ⟨(by show 0<=sizeLine; decide),λ l2 hl2=>⟨(by show 3<=sizeLine; decide),λ du hdu=>?_⟩⟩
   have t1:=Same.new hl2 (.lst []);have t2:=Same.new hdu (.lst [V.ref l0,V.ref l1,V.ref l2]);have hl02:=e2.get L1 (upd_same (H:=H) (a:=l0) (o:=.lst xs)) nofun;refine ⟨du,l0,l1,l2,ys,rfl,λ b o nb h=>t2 _ _ (t1 _ _ (e2 _ _ nb (s1 _ _ h))),(L2.same t1).same t2,s1.free (a6T e2 L2 (t1.free hdu)),upd_same,t2 _ _ (t1 _ _ hl02),t2 _ _ (t1 _ _ hp2),Paired.imp' (λ _ _ r=>(r.same t1).same t2) pq,t2 _ _ upd_same,d7 (t1 _ _ hl02) hdu,d7 (t1 _ _ hp2) hdu⟩
 rintro _ H1 ⟨du,dl0,dl1,dl2,ys,rfl,e1,L1,fdu,hdu,hd0,hd1,pys,hd2,nd0,nd1⟩;have hbk1:=e1.get LTH hbk nofun;have hB1:=Bk.same1 LTH e1 hB;have KP1:=KP.same1 LTH e1;refine ⟨λ σ' H'=>∃ (rl:Addr),σ'=[some (.ref o.p),some (.ref bk),some (.str o.z),some (.ref du),none,none]/\Same1 Pt H H'/\LT Pt H'/\H' du=some (.lst [.ref dl0,.ref dl1,.ref rl])/\H' dl0=some (.lst xs)/\H' dl1=some (.lst ys)/\aN (FrT H') ys (O2 o.z o.kt o.kg S.1)/\H' rl=some (.lst ((a2H o.z S.1).map λ (i:Nat)=>V.int (i:Int))),?_,?_⟩
 ·refine ⟨_,rfl,(by show 0<=sizeLine; decide),λ el hel=>?_⟩
  have t1:=Same.new hel (.lst []);have layb:PyData.canLay0 (.list (S.1.map C6))=true:=by rw [PyData.canLay0]; exact X3 _
  have depb:(PyData.list (S.1.map C6)).depth<=60:=by
   have:=P2 S.1;rw [PyData.depth];lia
  refine ⟨.list (S.1.map C6),.list [],.lst (SqL.of (t1 _ _ hbk1)) (Bk.dps (Bk.same t1 hB1)),.lst (SqL.of upd_same) .nil,layb,rfl,aW (dU _ _) depb,_,rfl,?_⟩;rw [a4N];have L2:=L1.same t1;refine D0 (λ d=>?_) (λ d=>?_)
  ·have hbk2:=t1 _ _ hbk1
   refine ⟨_,rfl,_,rfl,bk,xs,S.1,o.z,10 ^ 9,o.kt,o.kg,rfl,ft.z,⟨SqL.of hbk2,Bk.same t1 hB1,ok1.g,by decide,h16,by have:=ft.t4; omega,by have:=ft.g4; omega⟩,by decide,L2,λ H3 rl e3 L3 hrl0 hrl=>?_⟩;have g3:∀ {b:Addr} {xs:List V},H1 b=some (.lst xs)->H3 b=some (.lst xs):=λ h=>e3.get L2 (t1 _ _ h) nofun;refine ⟨_,rfl,du,_,2,2,rfl,rfl,g3 hdu,rfl,?_⟩;have nrl:rl≠du:=λ z=>by rw [z,t1 _ _ hdu] at hrl0; cases hrl0
   refine ⟨rl,rfl,λ b o nb h=>?_,L3.write (g3 hdu),upd_same,by rw [c9 nd0]; exact g3 hd0,by rw [c9 nd1]; exact g3 hd1,Paired.imp' (λ _ _ ⟨a,h1,h2⟩=>⟨a,h1,by rw [c9 (y9 (e3.get L2 (t1 _ _ h2) nofun) (g3 hdu) nofun)]; exact e3.get L2 (t1 _ _ h2) nofun⟩) pys,by rw [c9 nrl]; exact hrl⟩;rw [c9 (d7 h fdu)];exact e3 _ _ nb (t1 _ _ (e1 _ _ nb h))
  ·have hn:S.1=[]:=by
    cases hl:S.1 with
    | nil=>rfl
    | cons a r=>rw [hl] at d; simp at d
   refine ⟨dl2,rfl,λ b o nb h=>t1 _ _ (e1 _ _ nb h),L2,t1 _ _ hdu,t1 _ _ hd0,t1 _ _ hd1,Paired.imp' (λ _ _ r=>r.same t1) pys,?_⟩;rw [hn];exact t1 _ _ hd2
 rintro _ H2 ⟨rl,rfl,e2,L2,hdu2,hd02,hd12,pys2,hrl2⟩;have KP2:=KP.same1 LTH e2;have hB2:=Bk.same1 LTH e2 hB;obtain ⟨dx,ta,wa,pv0,hp2,_,hpa2,_⟩:=KP2.ex;refine ⟨λ σ' H'=>∃ (fo l1 l2 l3:Addr) (x1 x2:List V),σ'=[some (.ref o.p),some (.ref bk),some (.str o.z),some (.ref du),some (.ref fo),none]/\Same1 Pt H2 H'/\LT Pt H'/\H' fo=some (.lst [.ref l1,.ref l2,.ref l3])/\(H2 fo=none/\H2 l1=none/\H2 l2=none/\H2 l3=none)/\(fo≠l1/\fo≠l2/\fo≠l3)/\H' l1=some (.lst x1)/\Bk K H' x1 S.1/\H' l2=some (.lst x2)/\aN (FrT H') x2 (O2 o.z o.kt o.kg S.1)/\H' l3=some (.lst ((a2H o.z S.1).map λ (i:Nat)=>V.int (i:Int))),?_,?_⟩
 ·refine ⟨_,rfl,o.p,dx,_,rfl,hp2,rfl,o.p,o.pa,o.kt,o.kg,o.z,_,_,lo,rfl,KP2,λ l1 x1 H3 e3 hl1 h1 b1=>?_⟩
  refine ⟨_,rfl,o.p,dx,_,rfl,e3 _ _ hp2,rfl,o.p,o.pa,o.kt,o.kg,o.z,_,_,lo,rfl,KP2.same e3,λ l2 x2 H4 e4 hl2 h2 b2=>?_⟩;have e34:=e3.trans e4;refine ⟨_,rfl,o.p,dx,_,rfl,e34 _ _ hp2,rfl,o.p,o.pa,o.kt,o.kg,o.z,_,_,lo,rfl,KP2.same e34,ft,ok1.g,h16,L2.same e34,λ H5 l3 e5 L5 hl3 h3=>?_⟩;refine ⟨(by show 3<=sizeLine; decide),λ fo hfo=>?_⟩;have s6:=Same.new hfo (.lst [V.ref l1,V.ref l2,V.ref l3]);have L4:=L2.same e34;have fr5:=S3 L4 e5;have g1:=e5.get L4 (e4 _ _ h1) nofun;have g2:=e5.get L4 h2 nofun;exact ⟨fo,l1,l2,l3,x1,x2,rfl,λ b o nb h=>s6 _ _ (e5 _ _ nb (e34 _ _ h)),L5.same s6,upd_same,⟨e34.free (a6T e5 L5 hfo),hl1,e3.free hl2,e34.free hl3⟩,⟨(d7 g1 hfo).symm,(d7 g2 hfo).symm,(d7 h3 hfo).symm⟩,s6 _ _ g1,Bk.same s6 ((Bk.same e4 b1).fr0 fr5),s6 _ _ g2,Paired.imp' (λ _ _ r=>(FrT.fr0 fr5 r).same s6) b2,s6 _ _ h3⟩
 rintro _ H3 ⟨fo,l1,l2,l3,x1,x2,rfl,e3,L3,hfo,⟨f0,f1,f2,f3⟩,⟨n1,n2,n3⟩,hl1,b1,hl2,b2,hl3⟩;have g3:∀ {b:Addr} {xs:List V},H2 b=some (.lst xs)->H3 b=some (.lst xs):=λ h=>e3.get L2 h nofun;have fr3:=S3 L2 e3;have KP3:=KP2.same1 L2 e3;have rd:∀ {H:Hp} {l:List Nat},Dqs K H (λ _=>True) (l.map λ (i:Nat)=>V.int (i:Int)) (l.map λ (i:Nat)=>PyData.int (i:Int)):=λ {H l}=>by
  induction l with
  | nil=>exact .nil
  | cons x l ih=>exact .cons (.int _) ih
 refine ⟨λ σ' H'=>σ'=[some (.ref o.p),some (.ref bk),some (.str o.z),some (.ref du),some (.ref fo),none]/\H3=H',?_,?_⟩
 ·have D1:Dq K H3 (λ _=>True) (.ref fo) (a3a o.z o.kt o.kg S.1):=.lst trivial hfo (.cons (.lst trivial hl1 (a0t (λ v a r=>b1I r) b1)) (.cons (.lst trivial hl2 (a0t (λ v a r=>a2m r) b2)) (.cons (.lst trivial hl3 rd) .nil)))
  have D2:Dq K H3 (λ _=>True) (.ref du) (a3a o.z o.kt o.kg S.1):=.lst trivial (g3 hdu2) (.cons (.lst trivial (g3 hd02) (a0t (λ v a r=>b1I r) (hB2.fr0 fr3))) (.cons (.lst trivial (g3 hd12) (a0t (λ v a r=>a2m (FrT.fr0 fr3 r)) pys2)) (.cons (.lst trivial (g3 hrl2) rd) .nil)));have ly:=a9E o.z o.kt o.kg S.1;refine ⟨_,rfl,_,rfl,_,_,D1.dp,D2.dp,ly,ly,aW (dU _ _) (a9p _ _ _ _),_,rfl,?_⟩;rw [G1 _ ly];exact a0c ⟨rfl,rfl⟩
 rintro _ _ ⟨rfl,rfl⟩;refine ⟨λ σ' H'=>∃ o5,σ'=[some (.ref o.p),some (.ref bk),some (.str o.z),some (.ref du),some (.ref fo),o5]/\(∀ b u,b≠l1->b≠l2->b≠l3->H3 b=some u->H' b=some u),?_,?_⟩
 ·refine ⟨_,rfl,fo,rfl,⟨_,SqL.of hfo⟩,?_⟩
  refine a4h (xs:=[V.ref l1,V.ref l2,V.ref l3]) (λ i σ H'=>∃ o5,σ=[some (.ref o.p),some (.ref bk),some (.str o.z),some (.ref du),some (.ref fo),o5]/\(∀ b u,b≠l1->b≠l2->b≠l3->H3 b=some u->H' b=some u)/\∀ l∈[l1,l2,l3],∃ c,H' l=some (.lst c)/\c.length<=16+i)
   ⟨_,rfl,λ _ _ _ _ _ h=>h,λ l hl=>?_⟩ (λ i σ H' _ ⟨_,_,k,_⟩=>SqL.of (k _ _ n1 n2 n3 hfo)) ?_ ?_
  ·simp only [aJ,aZ,or_false] at hl
   rcases hl with rfl | rfl | rfl
   ·exact ⟨x1,hl1,by rw [Paired.length b1]; exact h16⟩
   ·exact ⟨x2,hl2,by rw [b2.length,ok1.l]; exact h16⟩
   ·refine ⟨_,hl3,?_⟩
    rw [aA];have:(a2H o.z S.1).length<=S.1.length:=by
     have:=gB (λ i=>@decide (a2q o.z S.1 (S.1.getD i ([],[]))) (iY _)) (aE S.1.length);rw [eD] at this;exact this
    omega
  ·rintro i x σ H4 hx ⟨o5,rfl,k4,c4⟩
   have hm:∃ l∈[l1,l2,l3],x=.ref l:=by
    have:=bS hx;simp only [aJ,aZ,or_false] at this;rcases this with rfl | rfl | rfl
    ·exact ⟨l1,by simp,rfl⟩
    ·exact ⟨l2,by simp,rfl⟩
    ·exact ⟨l3,by simp,rfl⟩
   obtain ⟨l,hl,rfl⟩:=hm;obtain ⟨c,hc,lc⟩:=c4 l hl;have hi:i<3:=(bQ.mp hx).1;refine ⟨_,rfl,.inl ⟨rfl,_,SqL.of hc⟩,l,_,_,rfl,rfl,hc,cC (show c.length<=1000 by omega) (m8 (aF _)),?_⟩;refine ⟨_,rfl,λ b u m1 m2 m3 h=>?_,λ l' hl'=>?_⟩
   ·rw [c9 (λ z=>by
     subst z;simp only [aJ,aZ,or_false] at hl;rcases hl with z | z | z
     ·exact m1 z
     ·exact m2 z
     ·exact m3 z)]
    exact k4 b u m1 m2 m3 h
   ·by_cases e:l'=l
    ·subst e
     exact ⟨_,upd_same,by rw [aM,dA]; omega⟩
    ·obtain ⟨c',hc',lc'⟩:=c4 l' hl'
     exact ⟨c',by rw [c9 e]; exact hc',by omega⟩
  ·rintro σ H4 ⟨o5,rfl,k4,_⟩
   exact ⟨o5,rfl,k4⟩
 rintro _ H4 ⟨o5,rfl,k4⟩;have old:∀ {b:Addr} {u:HO},H2 b=some u->b≠l1/\b≠l2/\b≠l3:=λ h=>⟨d7 h f1,d7 h f2,d7 h f3⟩;have fr4:Fr0 (λ b=>b=l1\/b=l2\/b=l3) H3 H4:=⟨λ b u hx h=>k4 b u (λ z=>hx (.inl z)) (λ z=>hx (.inr (.inl z))) (λ z=>hx (.inr (.inr z))) h,λ x hx=>by
  rcases hx with rfl | rfl | rfl
  ·exact x4 hl1
  ·exact x4 hl2
  ·exact x4 hl3⟩
 have keep:∀ {b:Addr} {u:HO},H2 b=some u->b≠Pt->H4 b=some u:=λ h nb=>k4 _ _ (old h).1 (old h).2.1 (old h).2.2 (e3 _ _ nb h);have no4:∀ {b:Addr} {u:HO},H2 b=some u->¬ (b=l1\/b=l2\/b=l3):=λ h z=>z.elim (old h).1 λ z=>z.elim (old h).2.1 (old h).2.2;have KP4:=KP3.fr0 fr4 (λ b hb=>by obtain ⟨zs,hz⟩:=KP2.ls b hb; exact no4 hz) (no4 hp2) (no4 hpa2);have L4:LT Pt H4:=by
  rcases L3 with x | ⟨c,x,y⟩
  ·exact .inl (k4 _ _ (y9 x hl1 nofun) (y9 x hl2 nofun) (y9 x hl3 nofun) x)
  ·exact .inr ⟨c,k4 _ _ (y9 x hl1 nofun) (y9 x hl2 nofun) (y9 x hl3 nofun) x,k4 _ _ (y9 y hl1 nofun) (y9 y hl2 nofun) (y9 y hl3 nofun) y⟩
 have e4:Same1 Pt H H4:=λ b u nb h=>keep (e2 _ _ nb h) nb;have hdu4:=keep hdu2 (L2.ne hdu2 nofun);have hd04:=keep hd02 (L2.ne hd02 nofun);have hd14:=keep hd12 (L2.ne hd12 nofun);have hB4:=(hB2.fr0 fr3).fr0 fr4;have ps4:aN (FrT H4) ys (O2 o.z o.kt o.kg S.1):=Paired.imp' (λ _ _ r=>FrT.fr0 fr4 (FrT.fr0 fr3 r)) pys2;have hp4:=keep hp2 (L2.ne hp2 nofun);have layb:PyData.canLay0 (.list (S.1.map C6))=true:=by rw [PyData.canLay0]; exact X3 _
 have depb:(PyData.list (S.1.map C6)).depth<=60:=by
  have:=P2 S.1;rw [PyData.depth];lia
 have lays:PyData.canLay0 (.list ((O2 o.z o.kt o.kg S.1).map dF))=true:=by
  rw [PyData.canLay0];generalize O2 o.z o.kt o.kg S.1=l
  induction l with
  | nil=>rw [dG,PyData.canLayAll0]
  | cons x l ih=>rw [aV,PyData.canLayAll0,X2,ih]; rfl
 have deps:(PyData.list ((O2 o.z o.kt o.kg S.1).map dF)).depth<=60:=by
  rw [PyData.depth];have:PyData.depthAll ((O2 o.z o.kt o.kg S.1).map dF)<=5:=by
   generalize O2 o.z o.kt o.kg S.1=l
   induction l with
   | nil=>rw [dG]; simp [PyData.depthAll]
   | cons x l ih=>rw [aV,PyData.depthAll]; exact fV.mpr ⟨a1Q x,ih⟩
  omega
 refine ⟨_,rfl,o.p,dx,_,rfl,hp4,rfl,o.p,o.pa,o.kt,o.kg,o.z,_,_,lo,rfl,KP4,λ m1 y1 H5 e5 hm1 h1 c1=>?_⟩;refine ⟨_,rfl,du,_,0,_,rfl,rfl,SqL.of (e5 _ _ hdu4),rfl,.list (S.1.map C6),.list (S.1.map C6),.lst (SqL.of h1) (Bk.dps (show Bk K H5 y1 S.1 from c1)),.lst (SqL.of (e5 _ _ hd04)) (Bk.dps (Bk.same e5 hB4)),layb,layb,aW (dU _ _) depb,?_⟩;rw [G1 _ layb];refine ⟨_,rfl,Q9 ?_⟩;refine ⟨_,rfl,o.p,dx,_,rfl,e5 _ _ hp4,rfl,o.p,o.pa,o.kt,o.kg,o.z,_,_,lo,rfl,KP4.same e5,λ m2 y2 H6 e6 hm2 h2 c2=>?_⟩;have D1:Dq K H6 (λ _=>True) (.ref m2) (.list ((O2 o.z o.kt o.kg S.1).map dF)):=.lst trivial h2 (a0t (λ v a r=>a2m r) c2);have D2:Dq K H6 (λ _=>True) (.ref dl1) (.list ((O2 o.z o.kt o.kg S.1).map dF)):=.lst trivial (e6 _ _ (e5 _ _ hd14)) (a0t (λ v a r=>a2m ((r.same e5).same e6)) ps4);refine ⟨_,rfl,du,_,1,_,rfl,rfl,SqL.of (e6 _ _ (e5 _ _ hdu4)),rfl,_,_,D1.dp,D2.dp,lays,lays,aW (dU _ _) deps,?_⟩;rw [G1 _ lays];exact q _ (λ b u nb h=>e6 _ _ (e5 _ _ (e4 _ _ nb h))) ((L4.same e5).same e6)
end
end Rim
namespace L2
open PySem PySem.Spec PyProof.Rows
section
variable {X:Cx}
end
end L2
namespace Rim
open PySem L2 Fr
section
variable {P:Program} {w:World} {K:W.Frag} {mg:Str->Option Value} {base:Heap} {f C Pt CN:Addr} {fd:FuncData} {n:Nat}
def a4j (K:W.Frag) (C Pt:Addr):Sp:=λ vs H Q _=>∃ (o:Kq) (S:KS) (Ws:List Addr) (bk c pk:Addr) (xs:List V) (ps:List Int),vs=[.ref o.p,.ref bk,.ref c,.str o.z,.ref pk]/\KO K C H Ws o S/\(bk∈Ws/\bk≠o.pa/\o.pa∈Ws)/\(∀ b∈Ws,∃ vs,H b=some (.lst vs))/\H bk=some (.lst xs)/\Bk K H xs S.1/\(∀ g∈S.1,HG 40 o.kt o.kg g)/\H c=some (.tup [.int (o.kt:Int),.int (o.kg:Int)])/\Fit o.z o.kt o.kg/\1<=o.kg/\H pk=some (.lst (ps.map V.int))/\ps.length=16/\(∀ d∈ps,0<=d/\d<1000)/\S.2.length<=1000/\LT Pt H ∧
 ∀ (H':Hp) (S':KS) (xs':List V),KO K C H' Ws o S'->H' bk=some (.lst xs')->Bk K H' xs' S'.1->(∀ g∈S'.1,HG 40 o.kt o.kg g)->S'.2.length<=S.2.length+1->(∀ b u,b≠o.p->b≠Pt->b≠o.pa->b≠bk->H b=some u->H' b=some u)->LT Pt H'->Q (.bl true) H'
abbrev b1j:List Str:=["kept","book","counts","sizes","picks","was","many","number","found","kin","now","house","due"]
theorem scDeed12:m9 b1j ["kept","book","counts","sizes","picks"] (i8 A5):=⟨rfl,rfl,rfl,by decide +kernel,rfl,by decide +kernel,by decide +kernel⟩
noncomputable def b3e {cdv:Value} {A:Around} {outer:List Env} {s:Shared} {H:Hp} {E:XK} {f1 f2 f3 f4 f5 f6:Addr} {d1 d2 d3 d4 d5 d6:FuncData} (T:x5 mg) (Cs:a1Y P w K mg base n "share" ["book","number","sizes"] (P6 K CN Pt) f1 d1) (Ct:Cal P w K mg base n "_law_tried" ["kept","word","thing"] (a1c K C Pt) f2 d2) (Cd:Cal P w K mg base n "_law_due_kin" ["name"] a5D f3 d3) (Cc:Cal P w K mg base n "_law_changes" ["was","now"] (a3O K) f4 d4) (Ch:Cal P w K mg base n "_law_a_house" ["book","counts","picks"] (a0Z K) f5 d5) (Cg:Cal P w K mg base n "_law_is_good" ["house","counts"] (a2f K) f6 d6)
  (hr:Room n (A.deeper (dC "_law_deed_right" (i8 A5) s.heap.objs.size f cdv))) :
  { t:TS // PSs (K1 E4 P w K mg base b1j "_law_deed_right" (i8 A5) f cdv A outer s H E).nox (w4 A5) t } :=
 ⟨_,p7 (V9 (i:=5) ["k"] [1,3] scDeed12.nd rfl rfl rfl (A3 rfl T.range (a0 (j6 j7 rfl T.len bB (a0 (pv 1) e9)) e9)) (λ _ _ _ _=>j8 (i:=0) a1C rfl (aC rfl)) (λ _ _ _ _=>o6 (S7 Cs.ok) hr rfl Cs.m Cs.k Cs.b .nil a1b (a0 (pv 1) (a0 (pv 0) (a0 (pv 2) e9)))))
  (p7 (A4 (t9 N6 (j4 x9 (j9 j5 (pv 4) h8 (λ _ _=>rfl)) h8) h8 (p6 _))
   (i9 (o4 (i:=6) scDeed12.nd rfl (aC rfl) (j6 j7 rfl T.len bB (a0 (pv 1) e9)))
   (p7 (o4 (i:=7) scDeed12.nd rfl (aC rfl) (j9 j5 (u9 (a0 (j4 x9 (j9 j5 (pv 4) h8 (λ _ _=>rfl)) (j4 C4 (pv 6) h8)) (a0 (pv 6) (a0 (O6 J1 h8) (a0 (j4 x9 (j9 j5 (pv 4) h8 (λ _ _=>rfl)) (j4 C4 (pv 6) h8)) e9))))) (j4 x9 (j4 V1 (j9 j5 (pv 4) h8 (λ _ _=>rfl)) h8) h8) (λ _ _=>rfl)))
   (i9 (G9 (o6 Ct.ok hr rfl Ct.m Ct.k Ct.b .nil w6 (a0 (pv 0) (a0 D8 (a0 (pv 7) e9)))) (T8 rfl (r8 (j8 (i:=8) scDeed12.nd rfl (aC rfl)) (r8 (j8 (i:=9) scDeed12.nd rfl (aC rfl)) C2))))
   (i9 (A4 (U3 (a4u a4i a1p h8 (pv 7) (pv 6))) (j3 (r9 (A9 (Y1 hr) (pv 9) (o6 Cd.ok hr rfl Cd.m Cd.k Cd.b .nil w6 (a0 D8 e9)) (p6 _)))) v8)
   (i9 (D3 (a0L eE lC lD a4f (pv 1) (a0 (pv 7) e9)))
   (i9 (D3 (a0L eE lC lD a4f (pv 5) (a0 (pv 7) e9)))
   (p7 (V9 (i:=10) ["k"] [1,3] scDeed12.nd rfl rfl rfl (A3 rfl T.range (a0 (j6 j7 rfl T.len bB (a0 (pv 1) e9)) e9)) (λ _ _ _ _=>j8 (i:=0) a1C rfl (aC rfl)) (λ _ _ _ _=>o6 (S7 Cs.ok) hr rfl Cs.m Cs.k Cs.b .nil a1b (a0 (pv 1) (a0 (pv 0) (a0 (pv 2) e9)))))
   (j3 (r9 (X0 (A9 (Y1 hr) (pv 9) (u9 e9) (p6 _)) (X0 (j6 V7 rfl T.isi dD (a0 (pv 8) (a0 (T0 (v:=.ty "list") rfl T.list dJ rfl) e9))) (a0T (A9 (Y1 hr) (pv 8) (o6 Cc.ok hr rfl Cc.m Cc.k Cc.b .nil w6 (a0 (pv 5) (a0 (pv 10) e9))) (p6 _)))))))))))))) v8)
  (p7 (o4 (i:=11) scDeed12.nd rfl (aC rfl) (o6 Ch.ok hr rfl Ch.m Ch.k Ch.b .nil w6 (a0 (pv 1) (a0 (pv 2) (a0 (pv 4) e9)))))
  (i9 (G9 (o6 Ct.ok hr rfl Ct.m Ct.k Ct.b .nil w6 (a0 (pv 0) (a0 D8 (a0 (pv 11) e9)))) (T8 rfl (r8 (j8 (i:=8) scDeed12.nd rfl (aC rfl)) (r8 (j8 (i:=9) scDeed12.nd rfl (aC rfl)) C2))))
  (i9 (A4 (a3p (PW.pt (a4A (U3 (U9 (o6 Cg.ok hr rfl Cg.m Cg.k Cg.b .nil w6 (a0 (pv 11) (a0 (pv 2) e9))))) (a2t (t9 N6 (j6 j7 rfl T.len bB (a0 (pv 1) e9)) h8 (p6 _))))))
   (i9 (o4 (i:=12) scDeed12.nd rfl (aC rfl) (j9 j5 (u9 (a0 D8 (a0 D8 e9))) (v9 R8 rfl T.int fT (a0 (o6 Cg.ok hr rfl Cg.m Cg.k Cg.b .nil w6 (a0 (pv 11) (a0 (pv 2) e9))) e9)) (λ _ _=>rfl)))
   (j3 (r9 (A9 (Y1 hr) (pv 9) (o6 Cd.ok hr rfl Cd.m Cd.k Cd.b .nil w6 (a0 (pv 12) e9)) (p6 _))))) v8)
  (i9 (D3 (a0L eE fE fF J4 (pv 1) (a0 (pv 11) e9)))
  (p7 (V9 (i:=10) ["k"] [1,3] scDeed12.nd rfl rfl rfl (A3 rfl T.range (a0 (j6 j7 rfl T.len bB (a0 (pv 1) e9)) e9)) (λ _ _ _ _=>j8 (i:=0) a1C rfl (aC rfl)) (λ _ _ _ _=>o6 (S7 Cs.ok) hr rfl Cs.m Cs.k Cs.b .nil a1b (a0 (pv 1) (a0 (pv 0) (a0 (pv 2) e9)))))
  (j3 (r9 (X0 (A9 (Y1 hr) (pv 9) (u9 e9) (p6 _)) (X0 (j6 a0u rfl T.isi dD (a0 (pv 8) (a0 (T0 (v:=.ty "tuple") rfl T.tuple fG rfl) e9))) (a0T (A9 (Y1 hr) (pv 8) (D4 (a0 (j9 j5 (pv 10) (O6 J1 h8) (λ _ _=>rfl)) (a0 (o6 Cc.ok hr rfl Cc.m Cc.k Cc.b .nil w6 (a0 (pv 5) (a0 (pv 10) e9))) e9))) (p6 _)))))))))))))⟩
theorem a8O:b0h "NoHouse"=a3A false true false false false false:=by decide
theorem b2m:b0h "NoBook"=a3A true false false false false false:=by decide
theorem b2O:b0h "TooMany"=a3A false false false false true false:=by decide
theorem G5 {b1 b2 b3 b4 b5 b6:Bool}:(b1C b1 b2 b3 b4 b5 b6).canLay0=true:=by rfl
theorem HG.up {kt kg:Nat} {h:j0} (g:HG 40 kt kg h):HG (10 ^ 9) kt kg h:=⟨g.lt,g.lg,λ x hx=>⟨(g.t x hx).1,gT (g.t x hx).2 (by decide)⟩,λ x hx=>⟨(g.g x hx).1,gT (g.g x hx).2 (by decide)⟩,g.p⟩
theorem a2d {α:Type} (l:List α) (i:Nat):l.eraseIdx i=y4 l i:=by unfold y4; exact List.eraseIdx_eq_take_drop_succ l i
theorem a7R {f1 f2 f3 f4 f5 f6:Addr} {d1 d2 d3 d4 d5 d6:FuncData} (F:Fun K "_law_deed_right" "_law_deed_right" A5 f fd) (T:x5 mg) (Cs:a1Y P w K mg base n "share" ["book","number","sizes"] (P6 K CN Pt) f1 d1) (Ct:Cal P w K mg base n "_law_tried" ["kept","word","thing"] (a1c K C Pt) f2 d2) (Cd:Cal P w K mg base n "_law_due_kin" ["name"] a5D f3 d3) (Cc:Cal P w K mg base n "_law_changes" ["was","now"] (a3O K) f4 d4) (Ch:Cal P w K mg base n "_law_a_house" ["book","counts","picks"] (a0Z K) f5 d5) (Cg:Cal P w K mg base n "_law_is_good" ["house","counts"] (a2f K) f6 d6) :
  FnOk P w K mg base E4 (n+1) f fd ["kept","book","counts","sizes","picks"] (a4j K C Pt):=by
 refine F.ok scDeed12 (λ vs H Q E h=>?_) (λ cdv A outer s H vs Q E hr h=>?_)
 ·obtain ⟨o,S,Ws,bk,c,pk,xs,ps,rfl,_⟩:=h
  rfl
 obtain ⟨o,S,Ws,bk,c,pk,xs,ps,rfl,ko,⟨wb,nbp,wp⟩,al,hbk,hB,h40,hc,ft,kg1,hpk,lp,bp,hpl,LTH,q⟩:=h;refine ⟨_,(b3e T Cs Ct Cd Cc Ch Cg hr).2,?_⟩;obtain ⟨lo,KP,nlo,okS⟩:=id ko;have ok1:OkK o.z o.kt o.kg S.1:=okS S.1 (bN _ (.head _));have h16:=ok1.m;have xl:xs.length=S.1.length:=Paired.length hB;have fresh:∀ {b:Addr},H b=none->b ∉ Ws:=λ h hb=>by obtain ⟨vs,hv⟩:=al _ hb; rw [hv] at h; cases h
 have at16:∀ k:Nat,k<16->∃ v,v∈ps/\Y8 (ps.map V.int) (k:Int)=some (.int v):=λ k hk=>M3 (by omega) (by omega);refine ⟨λ σ' H'=>∃ (wl:Addr) (ys:List V),σ'=[some (.ref o.p),some (.ref bk),some (.ref c),some (.str o.z),some (.ref pk),some (.ref wl),none,none,none,none,none,none,none]/\Same1 Pt H H'/\LT Pt H'/\H wl=none/\H' wl=some (.lst ys)/\aN (FrT H') ys (O2 o.z o.kt o.kg S.1),?_,?_⟩
 ·refine ⟨_,rfl,bk,_,rfl,.inl (SqL.of hbk),_,rfl,by omega,by omega,λ wl hwl=>?_⟩
  rw [xl,aY];refine Y3 (z:=o.z) (kt:=o.kt) (kg:=o.kg) (hs:=S.1) (xs:=xs) (bk:=bk) LTH ft ok1.g h16 hwl (λ i H0 N hi e0 L0 hN=>?_) (λ ys H2 e2 L2 hp2 pq=>?_)
  ·have bin:Q6 K H0 bk xs S.1 (10 ^ 9) o.kt o.kg:=⟨SqL.of (e0.get LTH hbk nofun),Bk.same1 LTH e0 hB,ok1.g,by decide,h16,by have:=ft.t4; omega,by have:=ft.g4; omega⟩
   refine ⟨_,rfl,_,rfl,_,rfl,bk,xs,S.1,(i:Int),o.z,10 ^ 9,o.kt,o.kg,rfl,ft.z,bin,ft.t1,U1 (by omega),L0,λ i' h' A' B' H7 u' hi' hh' X' e7 L7 hu'=>?_,λ bad=>absurd ⟨by omega,by omega⟩ bad⟩;have:i'=i:=by omega
   subst this;exact hN h' A' B' _ _ hh' X' e7 L7 hu'
  ·exact ⟨wl,ys,rfl,e2,L2,hwl,hp2,pq⟩
 rintro _ H1 ⟨wl,ys,rfl,e1,L1,fwl,hwl,pys⟩;have hbk1:=e1.get LTH hbk nofun;have hpk1:=e1.get LTH hpk nofun;have hc1:=e1.get LTH hc nofun;have hB1:=Bk.same1 LTH e1 hB;have ko1:=ko.same1 LTH e1;have yl:ys.length=S.1.length:=by rw [pys.length,ok1.l]
 have nwb:wl≠bk:=(d7 hbk fwl).symm;obtain ⟨pva,hpa⟩:=ko.pa';have nwpa:wl≠o.pa:=(d7 hpa fwl).symm;have wlo:wl ∉ lo:=λ hb=>by obtain ⟨zs,hz⟩:=KP.ls wl hb; rw [hz] at fwl; cases fwl
 refine ⟨λ σ' H'=>σ'=[some (.ref o.p),some (.ref bk),some (.ref c),some (.str o.z),some (.ref pk),some (.ref wl),none,none,none,none,none,none,none]/\H1=H',?_,?_⟩
 ·obtain ⟨v13,m13,i13⟩:=at16 13 (by decide)
  obtain ⟨v14,m14,i14⟩:=at16 14 (by decide);have b13:=bp v13 m13;have b14:=bp v14 m14;refine ⟨_,rfl,pk,_,13,_,rfl,rfl,SqL.of hpk1,i13,_,_,rfl,rfl,(by show (0:Int)<3; decide),rfl,_,rfl,?_⟩;refine D0 (λ cc=>?_) (λ cc=>⟨rfl,rfl⟩);refine ⟨_,rfl,bk,xs,rfl,.inl (SqL.of hbk1),?_⟩;refine ⟨λ σ' H'=>∃ nu:Int,σ'=[some (.ref o.p),some (.ref bk),some (.ref c),some (.str o.z),some (.ref pk),some (.ref wl),some (.int (xs.length:Int)),some (.int nu),none,none,none,none,none]/\Same H1 H'/\-1<=nu/\nu<=16,?_,?_⟩
  ·have a1:=eF v14 (show ((xs.length:Int)+1)≠0 by omega)
   have a2:=eG v14 (show (0:Int)<(xs.length:Int)+1 by omega);refine ⟨_,rfl,pk,_,14,_,rfl,rfl,SqL.of hpk1,i14,_,rfl,_,_,rfl,rfl,_,_,rfl,rfl,(by show (0:Int)<(xs.length:Int)+1; omega),_,rfl,1,rfl,_,rfl,pk,_,14,_,rfl,rfl,SqL.of hpk1,i14,_,rfl,_,_,rfl,rfl,_,_,rfl,rfl,(by show (0:Int)<(xs.length:Int)+1; omega),(by show 4<=sizeLine; decide),λ nl hnl=>?_⟩;have t1:=Same.new hnl (.lst ([v14 % ((xs.length:Int)+1),(xs.length:Int),-1,v14 % ((xs.length:Int)+1)].map V.int));obtain ⟨nu,hnu,anu⟩:=M3 (ns:=[v14 % ((xs.length:Int)+1),(xs.length:Int),-1,v14 % ((xs.length:Int)+1)]) (k:=v13 / 3 % 4) (by omega) (by show v13 / 3 % 4<4; omega);refine ⟨_,rfl,pk,_,13,_,rfl,rfl,SqL.of (t1 _ _ hpk1),i13,_,_,rfl,rfl,(by show (0:Int)<3/\(3:Int)<1073741824; decide),_,_,rfl,rfl,(by show (0:Int)<4; decide),nl,_,_,_,rfl,rfl,SqL.of upd_same,anu,nu,rfl,t1,?_⟩;simp only [aJ,aZ,or_false] at hnu;omega
  rintro _ H2 ⟨nu,rfl,e2,nu0,nu1⟩;have KP2:=(KP.same1 LTH e1).same e2;have L2:=L1.same e2;refine ⟨_,rfl,_,rfl,o,S,lo,"go",.int nu,rfl,KP2,ft,okS,hpl,L2,.inr ⟨rfl,nu,rfl,?_,λ i hi hil H3 r t kl fs lo' KP3 ok3 lf3 L3 hlo hr hkl0 hkl ht hdq=>?_,λ bad H3 r kl e3 hr hkl=>?_⟩⟩
  ·have:nu.natAbs<=1000:=by omega
   exact cC (Nat.log2_le_self _) (by omega)
  ·-- it is gone
   have hbk2:=e2 _ _ hbk1;have hwl2:=e2 _ _ hwl;have ko2:=ko1.same e2;have tr:=Tr.left L2 ko2 wp lf3;have fr3:Fr0 (λ b=>b=o.p\/b=o.pa\/b=Pt) H2 H3:=by
    obtain ⟨dx,fs',hx⟩:=ko2.p';obtain ⟨pv,hxa⟩:=ko2.pa';exact ⟨λ b u hx e=>lf3 b u (λ z=>hx (.inl z)) (λ z=>hx (.inr (.inr z))) (λ z=>hx (.inr (.inl z))) e,λ x hx=>by
     rcases hx with rfl | rfl | rfl
     ·exact L9 ‹_›
     ·exact x4 hxa
     ·exact L6 L2⟩
   obtain ⟨dxp,fsp,hxp⟩:=ko2.p';have keep:∀ {b:Addr} {zs:List V},H2 b=some (.lst zs)->b≠o.pa->H3 b=some (.lst zs):=λ h nb=>lf3 _ _ (y9 h hxp nofun) (L2.ne h nofun) nb h;have hbk3:=keep hbk2 nbp;have hwl3:=keep hwl2 nwpa;have hil':i<xs.length:=by omega
   subst hi;refine ⟨r,_,rfl,SqT.of hr,rfl,_,_,rfl,_,_,rfl,rfl,?_⟩;refine ⟨_,rfl,_,_,rfl,rfl,_,rfl,?_⟩;rw [decide_eq_true (show (0:Int)<=(i:Int) by omega)];refine Q9 ⟨_,rfl,_,_,rfl,rfl,_,rfl,?_⟩;rw [decide_eq_true (show (i:Int)<(xs.length:Int) by omega)];refine a0c ?_;have ex:xs[i]?=some xs[i]:=aH hil';have ey:ys[i]?=some ys[i]:=aH (by omega);have si:∀ {m:Nat},i<m->seqIndex? (i:Int) m=some i:=λ {m} h=>by
    have:=mV (show (0:Int)<=(i:Int) by omega) (show (i:Int)<(m:Int) by omega)
    simpa using this
   refine ⟨_,rfl,.inl ⟨rfl,_,SqL.of hbk3⟩,_,rfl,bk,xs,_,i,_,rfl,rfl,hbk3,by omega,by omega,si hil',ex,?_⟩;have hwlA:r6 H3 bk (.lst (xs.eraseIdx i)) wl=some (.lst ys):=by rw [c9 nwb]; exact hwl3
   refine ⟨_,rfl,.inl ⟨rfl,_,SqL.of hwlA⟩,_,rfl,wl,ys,_,i,_,rfl,rfl,hwlA,by omega,by omega,si (by omega),ey,?_⟩;rw [a2d,a2d];have frE:Fr0 (λ b=>b=bk\/b=wl) H3 (r6 (r6 H3 bk (.lst (y4 xs i))) wl (.lst (y4 ys i))):=⟨λ b u hx h=>by rw [c9 λ z=>hx (.inr z),c9 λ z=>hx (.inl z)]; exact h,λ x hx=>by
    rcases hx with rfl | rfl
    ·exact x4 hbk3
    ·exact x4 hwl3⟩
   have hbkE:r6 (r6 H3 bk (.lst (y4 xs i))) wl (.lst (y4 ys i)) bk=some (.lst (y4 xs i)):=by rw [c9 nwb.symm,upd_same]
   have hwlE:r6 (r6 H3 bk (.lst (y4 xs i))) wl (.lst (y4 ys i)) wl=some (.lst (y4 ys i)):=upd_same;have LE:LT Pt (r6 (r6 H3 bk (.lst (y4 xs i))) wl (.lst (y4 ys i))):=(L3.write hbk3).write (by rw [c9 nwb]; exact hwl3);have leftE:∀ b u,b≠o.p->b≠Pt->b≠o.pa->b≠bk->H b=some u->r6 (r6 H3 bk (.lst (y4 xs i))) wl (.lst (y4 ys i)) b=some u:=λ b u n1 n2 n3 n4 h=>by
    rw [c9 (d7 h fwl),c9 n4]; exact lf3 b u n1 n2 n3 (e2 _ _ (e1 _ _ n2 h))
   generalize r6 (r6 H3 bk (.lst (y4 xs i))) wl (.lst (y4 ys i))=HE at *;have hB3:Bk K H3 xs S.1:=(Bk.same e2 hB1).fr0 fr3;have hBE:Bk K HE (y4 xs i) (y4 S.1 i):=(hB3.out i).fr0 frE;have pyE:aN (FrT HE) (y4 ys i) (y4 (O2 o.z o.kt o.kg S.1) i):=a0y i (Paired.imp' (λ _ _ r=>FrT.fr0 frE (FrT.fr0 fr3 (r.same e2))) pys);have in2:∀ {b:Addr},H2 b=none->b≠bk/\b≠wl:=λ h=>⟨(d7 hbk2 h).symm,(d7 hwl2 h).symm⟩;have noE:∀ {b:Addr},H2 b=none->¬ (b=bk\/b=wl):=λ h z=>z.elim (in2 h).1 (in2 h).2;have ft0:H2 t=none:=by
    unfold a0d at hdq
    cases hdq with
    | lst f _ _=>exact f
   have fr2:∀ {b:Addr},H2 b=none->H b=none:=λ h=>a6T e1 L1 (e2.free h);have fkl:=hkl0;have klE:HE kl=some (.lst []):=frE.k _ _ (noE fkl) hkl;have htE:HE t=some (.lst fs):=frE.k _ _ (noE ft0) ht;have dqE:Dq K HE (λ a=>H2 a=none) (.ref t) _:=hdq.go (F':=λ a=>H2 a=none) frE λ a _ f _=>⟨f,noE f⟩;have koE:KO K C HE Ws o (y4 S.1 i,S.2++[S.1]):=by
    obtain ⟨dx3,ta3,wa3,pv3,hp3,_,hpa3,_⟩:=KP3.ex;refine ⟨lo',KP3.fr0 frE (λ b hb z=>?_) (λ z=>?_) (λ z=>?_),λ b hb=>(hlo b hb).elim (nlo b) λ h=>fresh (fr2 h),ok3⟩
    ·rcases hlo b hb with h | h
     ·rcases z with z | z
      ·exact nlo b h (z ▸ wb)
      ·exact wlo (z ▸ h)
     ·exact noE h z
    ·rcases z with z | z
     ·rw [z,hbk3] at hp3; cases hp3
     ·rw [z,hwl3] at hp3; cases hp3
    ·rcases z with z | z
     ·exact nbp z.symm
     ·exact nwpa z.symm
   have h40':∀ g∈y4 S.1 i,HG 40 o.kt o.kg g:=λ g hg=>h40 g (a1X hg);have lx:(y4 xs i).length=(y4 S.1 i).length:=Paired.length hBE;have hl16:(y4 S.1 i).length<=16:=aW V6 h16;refine ⟨λ σ' H'=>∃ (nl:Addr) (zs:List V),σ'=[some (.ref o.p),some (.ref bk),some (.ref c),some (.str o.z),some (.ref pk),some (.ref wl),some (.int (xs.length:Int)),some (.int (i:Int)),some (.ref t),some (.ref kl),some (.ref nl),none,none]/\Same1 Pt HE H'/\LT Pt H'/\H' nl=some (.lst zs)/\aN (FrT H') zs (O2 o.z o.kt o.kg (y4 S.1 i)),?_,?_⟩
   ·refine ⟨_,rfl,bk,_,rfl,.inl (SqL.of hbkE),_,rfl,by omega,by omega,λ nl hnl=>?_⟩
    rw [lx,aY];refine Y3 (z:=o.z) (kt:=o.kt) (kg:=o.kg) (hs:=y4 S.1 i) (xs:=y4 xs i) (bk:=bk) LE ft (λ g hg=>(h40' g hg).up) hl16 hnl (λ j H0 N hj e0 L0 hN=>?_) (λ zs H5 e5 L5 hp5 pq=>?_)
    ·have bin:Q6 K H0 bk (y4 xs i) (y4 S.1 i) (10 ^ 9) o.kt o.kg:=⟨SqL.of (e0.get LE hbkE nofun),Bk.same1 LE e0 hBE,λ g hg=>(h40' g hg).up,by decide,hl16,by have:=ft.t4; omega,by have:=ft.g4; omega⟩
     refine ⟨_,rfl,_,rfl,_,rfl,bk,y4 xs i,y4 S.1 i,(j:Int),o.z,10 ^ 9,o.kt,o.kg,rfl,ft.z,bin,ft.t1,U1 (by omega),L0,λ i' h' A' B' H7 u' hi' hh' X' e7 L7 hu'=>?_,λ bad=>absurd ⟨by omega,by omega⟩ bad⟩;have:i'=j:=by omega
     subst this;exact hN h' A' B' _ _ hh' X' e7 L7 hu'
    ·exact ⟨nl,zs,rfl,e5,L5,hp5,pq⟩
   rintro _ H5 ⟨nl,zs,rfl,e5,L5,hnl,pzs⟩;have fr5:=S3 LE e5;have hwl5:=e5.get LE hwlE nofun;have ht5:=e5.get LE htE nofun;have kl5:=e5.get LE klE nofun;have dq5:Dq K H5 (λ a=>H2 a=none) (.ref t) _:=dqE.go (F':=λ a=>H2 a=none) fr5 λ a _ f h=>⟨f,LE.ne h nofun⟩;have py5:aN (FrT H5) (y4 ys i) (y4 (O2 o.z o.kt o.kg S.1) i):=Paired.imp' (λ _ _ r=>FrT.fr0 fr5 r) pyE;have lyz:(y4 ys i).length<=zs.length:=by rw [pyE.length,pzs.length,(ok3 (y4 S.1 i) (bN _ (.head _))).l]; have:=ok1.l; exact hW (by unfold y4; simp; omega)
   refine ⟨_,rfl,(by show 0<=sizeLine; decide),λ el hel=>?_⟩;have t6:=Same.new hel (.lst []);refine ⟨.list [],.list [],.lst (SqL.of (t6 _ _ kl5)) .nil,.lst (SqL.of upd_same) .nil,rfl,rfl,by decide,?_⟩;rw [a9v];refine ⟨_,rfl,Q9 ?_⟩;refine ⟨_,rfl,_,_,"list",true,rfl,.lst (t6 _ _ ht5),M9 _,_,rfl,Q9 ?_⟩;refine ⟨_,rfl,_,rfl,_,rfl,wl,nl,y4 ys i,zs,_,_,rfl,t6 _ _ hwl5,t6 _ _ hnl,FrL.same t6 (V3 py5),FrL.same t6 (V3 pzs),lyz,aW V6 (by omega),λ l H7 e7 hq=>?_⟩;have e67:=t6.trans e7;refine ⟨_,_,(dq5.same (F':=λ _=>True) e67 λ _ _=>trivial).dp,hq.dp,a1F _ _,a1F _ _,aW (dU _ _) (aW (a6D _ _) (by decide)),?_⟩;rw [G1 _ (a1F _ _)];exact q H7 (y4 S.1 i,S.2++[S.1]) (y4 xs i) ((koE.same1 LE e5).same e67) (e67 _ _ (e5.get LE hbkE nofun)) (Bk.same e67 (Bk.same1 LE e5 hBE)) h40' (by simp) (λ b u n1 n2 n3 n4 h=>e67 _ _ (e5 _ _ n2 (leftE b u n1 n2 n3 n4 h))) (L5.same e67)
  ·refine ⟨r,_,rfl,SqT.of hr,rfl,_,_,rfl,_,_,rfl,rfl,?_⟩
   have bad':¬ (0<=nu/\nu<(xs.length:Int)):=λ z=>bad ⟨z.1,by rw [<- xl]; exact z.2⟩;have done:∀ H4,Same H3 H4->Q (.bl true) H4:=λ H4 e4=>by
    have e14:=(e2.trans e3).trans e4;exact q H4 S xs (ko1.same e14) (e14 _ _ hbk1) (Bk.same e14 hB1) h40 (by omega) (λ b u n1 n2 n3 n4 h=>e14 _ _ (e1 _ _ n2 h)) (L1.same e14)
   refine ⟨_,rfl,_,_,rfl,rfl,_,rfl,?_⟩;have fin:∀ {Q1:VK},(∀ H4,Same H3 H4->Q1 (.bl true) H4)->True:=λ _=>trivial;refine D0 (λ c1=>?_) (λ c1=>?_)
   ·have c1':0<=nu:=of_decide_eq_true c1
    refine ⟨_,rfl,_,_,rfl,rfl,_,rfl,?_⟩;rw [decide_eq_false (λ z=>bad' ⟨c1',z⟩)];refine Q9 ⟨_,rfl,"NoHouse",rfl,λ r2 H4 e4 hr2=>?_⟩;rw [a8O] at hr2;refine ⟨_,_,Q4 (e4 _ _ hkl),Q4 hr2,G5,G5,by decide,?_⟩;rw [G1 _ G5];exact done H4 e4
   ·refine ⟨_,rfl,Q9 ⟨_,rfl,"NoHouse",rfl,λ r2 H4 e4 hr2=>?_⟩⟩
    rw [a8O] at hr2;refine ⟨_,_,Q4 (e4 _ _ hkl),Q4 hr2,G5,G5,by decide,?_⟩;rw [G1 _ G5];exact done H4 e4
 rintro _ _ ⟨rfl,rfl⟩;refine ⟨λ σ' H'=>∃ (hv:V) (h:j0),σ'=[some (.ref o.p),some (.ref bk),some (.ref c),some (.str o.z),some (.ref pk),some (.ref wl),none,none,none,none,none,some hv,none]/\Same H1 H'/\HS K H' hv h/\a3u o.kt o.kg h,?_,?_⟩
 ·exact ⟨_,rfl,_,rfl,_,rfl,bk,c,pk,xs,S.1,o.kt,o.kg,ps,rfl,hbk1,hB1,h40,h16,hc1,⟨ft.t1,ft.t4⟩,⟨kg1,ft.g4⟩,hpk1,lp,bp,λ v h H2 e2 hs fine=>⟨v,h,rfl,e2,hs,fine⟩⟩
 rintro _ H2 ⟨hv,h,rfl,e2,hHS,fine⟩;have KP2:=(KP.same1 LTH e1).same e2;have L2:=L1.same e2;have sk:V0 h:=⟨Nat.le_trans fine.s1 (by decide),aW fine.s2 (by decide)⟩;refine ⟨_,rfl,_,rfl,o,S,lo,"come",hv,rfl,KP2,ft,okS,hpl,L2,.inl ⟨rfl,h,hHS,sk,λ gk l16 H3 r t kl fs lo' KP3 ok3 lf3 L3 hlo hr hkl0 hkl ht hdq=>?_,λ bad H3 r kl e3 hr hkl=>?_,λ gk l16 H3 r kl e3 hr hkl=>?_⟩⟩
 rotate_left
 ·refine ⟨r,_,rfl,SqT.of hr,rfl,_,_,rfl,_,_,rfl,rfl,?_⟩
  have done:∀ H4,Same H3 H4->Q (.bl true) H4:=λ H4 e4=>by
   have e14:=(e2.trans e3).trans e4;exact q H4 S xs (ko1.same e14) (e14 _ _ hbk1) (Bk.same e14 hB1) h40 (by omega) (λ b u n1 n2 n3 n4 h=>e14 _ _ (e1 _ _ n2 h)) (L1.same e14)
  have e13:=e2.trans e3;refine ⟨λ b H'=>Same H3 H'/\b=true,?_,?_⟩
  ·refine ⟨_,rfl,_,rfl,hv,h,c,o.kt,o.kg,rfl,hHS.same e3,sk,fine.nn,e13 _ _ hc1,ft.t1,kg1,λ b H4 e4 ib=>⟨_,rfl,?_⟩⟩
   have eb:b=false:=by cases b with | false=>rfl | true=>exact absurd (ib.mp rfl) bad
   subst eb;exact Q9 ⟨e4,rfl⟩
  rintro b H4 ⟨e4,rfl⟩;refine Q9 ⟨(by show 2<=sizeLine; decide),λ nl hnl=>?_⟩;have t5:=Same.new hnl (.lst [V.str "NoBook",V.str "TooMany"]);have e15:=(e13.trans e4).trans t5;refine ⟨_,rfl,_,rfl,hv,h,c,o.kt,o.kg,rfl,hHS.same (e3.trans (e4.trans t5)),sk,fine.nn,e15 _ _ hc1,ft.t1,kg1,λ b H6 e6 ib=>?_⟩;have eb:b=false:=by cases b with | false=>rfl | true=>exact absurd (ib.mp rfl) bad
  subst eb;refine .inr ⟨_,rfl,nl,_,0,_,rfl,rfl,SqL.of (e6 _ _ upd_same),rfl,?_⟩;refine ⟨_,rfl,_,rfl,"NoBook",rfl,λ r2 H7 e7 hr2=>?_⟩;rw [b2m] at hr2;have e47:=e4.trans (t5.trans (e6.trans e7));refine ⟨_,_,Q4 (e47 _ _ hkl),Q4 hr2,G5,G5,by decide,?_⟩;rw [G1 _ G5];exact done H7 e47
 ·refine ⟨r,_,rfl,SqT.of hr,rfl,_,_,rfl,_,_,rfl,rfl,?_⟩
  have done:∀ H4,Same H3 H4->Q (.bl true) H4:=λ H4 e4=>by
   have e14:=(e2.trans e3).trans e4;exact q H4 S xs (ko1.same e14) (e14 _ _ hbk1) (Bk.same e14 hB1) h40 (by omega) (λ b u n1 n2 n3 n4 h=>e14 _ _ (e1 _ _ n2 h)) (L1.same e14)
  have e13:=e2.trans e3;refine ⟨λ b H'=>Same H3 H'/\b=true,?_,?_⟩
  ·refine ⟨_,rfl,_,rfl,hv,h,c,o.kt,o.kg,rfl,hHS.same e3,sk,fine.nn,e13 _ _ hc1,ft.t1,kg1,λ b H4 e4 ib=>⟨_,rfl,?_⟩⟩
   have eb:b=true:=ib.mpr gk;subst eb;refine a0c ?_;refine ⟨_,rfl,bk,xs,rfl,.inl (SqL.of (e4 _ _ (e13 _ _ hbk1))),rfl,_,rfl,e4,?_⟩;have:xs.length=16:=by omega
   rw [this]; rfl
  rintro b H4 ⟨e4,rfl⟩;refine Q9 ⟨(by show 2<=sizeLine; decide),λ nl hnl=>?_⟩;have t5:=Same.new hnl (.lst [V.str "NoBook",V.str "TooMany"]);have e15:=(e13.trans e4).trans t5;refine ⟨_,rfl,_,rfl,hv,h,c,o.kt,o.kg,rfl,hHS.same (e3.trans (e4.trans t5)),sk,fine.nn,e15 _ _ hc1,ft.t1,kg1,λ b H6 e6 ib=>?_⟩;have eb:b=true:=ib.mpr gk;subst eb;refine .inr ⟨_,rfl,nl,_,1,_,rfl,rfl,SqL.of (e6 _ _ upd_same),rfl,?_⟩;refine ⟨_,rfl,_,rfl,"TooMany",rfl,λ r2 H7 e7 hr2=>?_⟩;rw [b2O] at hr2;have e47:=e4.trans (t5.trans (e6.trans e7));refine ⟨_,_,Q4 (e47 _ _ hkl),Q4 hr2,G5,G5,by decide,?_⟩;rw [G1 _ G5];exact done H7 e47
 have hbk2:=e2 _ _ hbk1;have hwl2:=e2 _ _ hwl;have ko2:=ko1.same e2;have fr3:Fr0 (λ b=>b=o.p\/b=o.pa\/b=Pt) H2 H3:=by
  obtain ⟨dx,fs',hx⟩:=ko2.p';obtain ⟨pv,hxa⟩:=ko2.pa';exact ⟨λ b u hx e=>lf3 b u (λ z=>hx (.inl z)) (λ z=>hx (.inr (.inr z))) (λ z=>hx (.inr (.inl z))) e,λ x hx=>by
   rcases hx with rfl | rfl | rfl
   ·exact L9 ‹_›
   ·exact x4 hxa
   ·exact L6 L2⟩
 obtain ⟨dxp,fsp,hxp⟩:=ko2.p';have keep:∀ {b:Addr} {zs:List V},H2 b=some (.lst zs)->b≠o.pa->H3 b=some (.lst zs):=λ h nb=>lf3 _ _ (y9 h hxp nofun) (L2.ne h nofun) nb h;have hbk3:=keep hbk2 nbp;have hwl3:=keep hwl2 nwpa;have hc3:H3 c=some (.tup [.int (o.kt:Int),.int (o.kg:Int)]):=fr3.tup (e2 _ _ hc1);have hHS3:HS K H3 hv h:=hHS.fr0 fr3;refine ⟨r,_,rfl,SqT.of hr,rfl,_,_,rfl,_,_,rfl,rfl,?_⟩;refine ⟨λ b H'=>Same H3 H'/\b=false,?_,?_⟩
 ·refine ⟨_,rfl,_,rfl,hv,h,c,o.kt,o.kg,rfl,hHS3,sk,fine.nn,hc3,ft.t1,kg1,λ b H4 e4 ib=>⟨_,rfl,?_⟩⟩
  have eb:b=true:=ib.mpr gk;subst eb;refine a0c ?_;refine ⟨_,rfl,bk,xs,rfl,.inl (SqL.of (e4 _ _ hbk3)),rfl,_,rfl,e4,?_⟩;have:¬ (xs.length:Int)=16:=by omega
  simp [this]
 rintro b H4 ⟨e4,rfl⟩;refine a0c ?_;have hbk4:=e4 _ _ hbk3;have hwl4:=e4 _ _ hwl3;refine ⟨_,rfl,.inl ⟨rfl,_,SqL.of hbk4⟩,_,rfl,bk,xs,_,rfl,rfl,hbk4,cC (show xs.length<=1000 by omega) (m8 (aF _)),?_⟩;have frE:Fr0 (λ b=>b=bk) H4 (r6 H4 bk (.lst (xs++[hv]))):=⟨λ b u hx h=>by rw [c9 hx]; exact h,λ x hx=>by subst hx; exact x4 hbk4⟩;have hbkE:r6 H4 bk (.lst (xs++[hv])) bk=some (.lst (xs++[hv])):=upd_same;have hwlE:r6 H4 bk (.lst (xs++[hv])) wl=some (.lst ys):=by rw [c9 nwb]; exact hwl4
 have LE:LT Pt (r6 H4 bk (.lst (xs++[hv]))):=(L3.same e4).write hbk4;have leftE:∀ b u,b≠o.p->b≠Pt->b≠o.pa->b≠bk->H b=some u->r6 H4 bk (.lst (xs++[hv])) b=some u:=λ b u n1 n2 n3 n4 h=>by
  rw [c9 n4]; exact e4 _ _ (lf3 b u n1 n2 n3 (e2 _ _ (e1 _ _ n2 h)))
 generalize r6 H4 bk (.lst (xs++[hv]))=HE at *;have hBE:Bk K HE (xs++[hv]) (S.1++[h]):=Paired.app ((Bk.same e4 ((Bk.same e2 hB1).fr0 fr3)).fr0 frE) (.cons ((hHS3.same e4).fr0 frE) .nil);have pyE:aN (FrT HE) ys (O2 o.z o.kt o.kg S.1):=Paired.imp' (λ _ _ r=>FrT.fr0 frE ((FrT.fr0 fr3 (r.same e2)).same e4)) pys;have noE:∀ {b:Addr},H2 b=none->¬ b=bk:=λ h z=>by rw [z,hbk2] at h; cases h
 have fr2:∀ {b:Addr},H2 b=none->H b=none:=λ h=>a6T e1 L1 (e2.free h);have klE:HE kl=some (.lst []):=frE.k _ _ (noE hkl0) (e4 _ _ hkl);have htE:HE t=some (.tup fs):=frE.tup (e4 _ _ ht);have dqE:Dq K HE (λ a=>H2 a=none) (.ref t) _:=(hdq.same e4 λ _ z=>z).go (F':=λ a=>H2 a=none) frE λ a _ f _=>⟨f,noE f⟩;have koE:KO K C HE Ws o (S.1++[h],S.2++[S.1]):=by
  have KP4:=KpAt.same e4 KP3;obtain ⟨dx3,ta3,wa3,pv3,hp3,_,hpa3,_⟩:=KP4.ex;refine ⟨lo',KP4.fr0 frE (λ b hb z=>?_) (λ z=>?_) (λ z=>nbp z.symm),λ b hb=>(hlo b hb).elim (nlo b) λ h=>fresh (fr2 h),ok3⟩
  ·rcases hlo b hb with h | h
   ·exact nlo b h (z ▸ wb)
   ·exact noE h z
  ·rw [z,hbk4] at hp3; cases hp3
 have h40':∀ g∈S.1++[h],HG 40 o.kt o.kg g:=λ g hg=>by
  rcases aO.mp hg with hg | hg
  ·exact h40 g hg
  ·rw [bF.mp hg]; exact fine.g gk
 have lx:(xs++[hv]).length=(S.1++[h]).length:=Paired.length hBE;have hl16:(S.1++[h]).length<=16:=by simp; omega
 refine ⟨λ σ' H'=>∃ (nl:Addr) (zs:List V),σ'=[some (.ref o.p),some (.ref bk),some (.ref c),some (.str o.z),some (.ref pk),some (.ref wl),none,none,some (.ref t),some (.ref kl),some (.ref nl),some hv,none]/\Same1 Pt HE H'/\LT Pt H'/\H' nl=some (.lst zs)/\aN (FrT H') zs (O2 o.z o.kt o.kg (S.1++[h])),?_,?_⟩
 ·refine ⟨_,rfl,bk,_,rfl,.inl (SqL.of hbkE),_,rfl,by omega,by omega,λ nl hnl=>?_⟩
  rw [lx,aY];refine Y3 (z:=o.z) (kt:=o.kt) (kg:=o.kg) (hs:=S.1++[h]) (xs:=xs++[hv]) (bk:=bk) LE ft (λ g hg=>(h40' g hg).up) hl16 hnl (λ j H0 N hj e0 L0 hN=>?_) (λ zs H5 e5 L5 hp5 pq=>?_)
  ·have bin:Q6 K H0 bk (xs++[hv]) (S.1++[h]) (10 ^ 9) o.kt o.kg:=⟨SqL.of (e0.get LE hbkE nofun),Bk.same1 LE e0 hBE,λ g hg=>(h40' g hg).up,by decide,hl16,by have:=ft.t4; omega,by have:=ft.g4; omega⟩
   refine ⟨_,rfl,_,rfl,_,rfl,bk,xs++[hv],S.1++[h],(j:Int),o.z,10 ^ 9,o.kt,o.kg,rfl,ft.z,bin,ft.t1,U1 (by omega),L0,λ i' h' A' B' H7 u' hi' hh' X' e7 L7 hu'=>?_,λ bad=>absurd ⟨by omega,by omega⟩ bad⟩;have:i'=j:=by omega
   subst this;exact hN h' A' B' _ _ hh' X' e7 L7 hu'
  ·exact ⟨nl,zs,rfl,e5,L5,hp5,pq⟩
 rintro _ H5 ⟨nl,zs,rfl,e5,L5,hnl,pzs⟩;have fr5:=S3 LE e5;have hwl5:=e5.get LE hwlE nofun;have ht5:=e5.get LE htE nofun;have kl5:=e5.get LE klE nofun;have dq5:Dq K H5 (λ a=>H2 a=none) (.ref t) _:=dqE.go (F':=λ a=>H2 a=none) fr5 λ a _ f h=>⟨f,LE.ne h nofun⟩;have py5:aN (FrT H5) ys (O2 o.z o.kt o.kg S.1):=Paired.imp' (λ _ _ r=>FrT.fr0 fr5 r) pyE;have okn:=ok3 (S.1++[h]) (bN _ (.head _));have zl:zs.length=S.1.length+1:=by rw [pzs.length,okn.l,aM]; rfl
 obtain ⟨zs0,zl0,rfl,lzs0⟩:=T6 zl;obtain ⟨qs0,q0,eqs,lqs0⟩:=T6 (l:=O2 o.z o.kt o.kg (S.1++[h])) (k:=S.1.length) (by rw [okn.l,aM]; rfl);rw [eqs] at pzs;obtain ⟨_,hq0⟩:=Y0 pzs;refine ⟨_,rfl,(by show 0<=sizeLine; decide),λ el hel=>?_⟩;have t6:=Same.new hel (.lst []);refine ⟨.list [],.list [],.lst (SqL.of (t6 _ _ kl5)) .nil,.lst (SqL.of upd_same) .nil,rfl,rfl,by decide,?_⟩;rw [a9v];refine ⟨_,rfl,Q9 ?_⟩;refine ⟨_,rfl,t,_,"tuple",true,rfl,SqT.of (t6 _ _ ht5),M9 _,_,rfl,Q9 ?_⟩;refine ⟨_,rfl,_,rfl,1,rfl,nl,_,_,_,rfl,rfl,SqL.of (t6 _ _ hnl),a4w zs0 zl0,_,rfl,_,rfl,wl,nl,ys,_,_,_,rfl,t6 _ _ hwl5,t6 _ _ hnl,FrL.same t6 (V3 py5),FrL.same t6 (V3 pzs),by simp; omega,by omega,λ l H7 e7 hq=>?_⟩;refine ⟨(by show 2<=sizeLine; decide),λ rt hrt=>?_⟩;have t8:=Same.new hrt (.tup [zl0,V.ref l]);have e68:=t6.trans (e7.trans t8);have edat:a6b o.z o.kt o.kg S.1 h=.tuple [dF q0,a0d (O2 o.z o.kt o.kg S.1) (qs0++[q0])]:=by
  unfold a6b;rw [eqs];have g1:(qs0++[q0]).getLastD (0,0)=q0:=by simp
  have g2:(qs0++[q0]).dropLast=qs0:=by simp
  rw [g1,g2];have:a0d (O2 o.z o.kt o.kg S.1) qs0=a0d (O2 o.z o.kt o.kg S.1) (qs0++[q0]):=by
   unfold a0d chI;have l1:=ok1.l;rw [aM,lqs0,l1,fB (aF _),fB (by omega)];have gd:∀ i,i<S.1.length->(qs0++[q0]).getD i (0,0)=qs0.getD i (0,0):=λ i hi=>by
    rw [aI,aI,bO (by omega)]
   have fe:(aE S.1.length).filter (λ i=>decide ((O2 o.z o.kt o.kg S.1).getD i (0,0)≠(qs0++[q0]).getD i (0,0)))=(aE S.1.length).filter (λ i=>decide ((O2 o.z o.kt o.kg S.1).getD i (0,0)≠qs0.getD i (0,0))) :=
    List.filter_congr λ i hi=>by rw [gd i (cS.mp hi)]
   rw [fe]
   congr 1
   refine cW λ i hi=>?_;rw [gd i (cS.mp ((fW.mp hi).1))]
  rw [this]
 rw [edat] at dq5;have ly:(PyData.tuple [dF q0,a0d (O2 o.z o.kt o.kg S.1) (qs0++[q0])]).canLay0=true:=by rw [PyData.canLay0,PyData.canLayAll0,PyData.canLayAll0,PyData.canLayAll0,X2,a1F]; rfl
 have dp:(PyData.tuple [dF q0,a0d (O2 o.z o.kt o.kg S.1) (qs0++[q0])]).depth<=60:=by
  rw [PyData.depth];simp only [PyData.depthAll];have a:=a1Q q0;have b:=a6D (O2 o.z o.kt o.kg S.1) (qs0++[q0]);omega
 have D2:Dp K _ (.ref rt) (.tuple [dF q0,a0d (O2 o.z o.kt o.kg S.1) (qs0++[q0])]):=.tup (SqT.of (upd_same (a:=rt) (o:=.tup [zl0,V.ref l]))) (.cons (FrV.dp (FrT.v (hq0.same e68))) (.cons (hq.same (F':=λ _=>True) t8 λ _ _=>trivial).dp .nil));refine ⟨_,_,(dq5.same (F':=λ _=>True) e68 λ _ _=>trivial).dp,D2,ly,ly,aW (dU _ _) dp,?_⟩;rw [G1 _ ly];exact q _ (S.1++[h],S.2++[S.1]) (xs++[hv]) ((koE.same1 LE e5).same e68) (e68 _ _ (e5.get LE hbkE nofun)) (Bk.same e68 (Bk.same1 LE e5 hBE)) h40' (by simp) (λ b u n1 n2 n3 n4 h=>e68 _ _ (e5 _ _ n2 (leftE b u n1 n2 n3 n4 h))) (L5.same e68)
end
end Rim
namespace L2
open PySem
def b3X (t:TE):TE:=λ σ H Q=>∃ M:V->Hp->Prop,t σ H M/\∀ v H',M v H'->Q v H'
theorem b0S {X:Cx} {e:Expr} {t:TE} (h:PE X e t):PE X e (b3X t):=λ pins s σ H Q I ⟨M,h1,h2⟩=>A8 (h pins s σ H M I h1) λ v s' ⟨x,H',I',r,q⟩=>⟨x,H',I',r,h2 x H' q⟩
end L2
namespace Rim
open PySem L2 Fr
section
variable {P:Program} {w:World} {K:W.Frag} {mg:Str->Option Value} {base:Heap} {f C Pt:Addr} {fd:FuncData} {n:Nat}
abbrev b3D:List Str:=["script","heads","some","counts","sizes","both","books","j","house","cell","picks","k"]
theorem scLaw:m9 b3D ["script"] (i8 a0n):=⟨rfl,rfl,rfl,by decide +kernel,rfl,by decide +kernel,by decide +kernel⟩
structure Calls (P:Program) (w:World) (K:W.Frag) (mg:Str->Option Value) (base:Heap) (n:Nat) (C Pt cB cM:Addr) (a1 a2 a3 a4 a5:Addr) (d1 d2 d3 d4 d5:FuncData):Prop where
 ce:Cal P w K mg base n "_law_cell_at" ["script","k"] (a8E K) a1 d1
 dw:Cal P w K mg base n "_law_draws" ["cell","many","base"] (a6O K) a2 d2
 co:R9 P w K mg base (CX1 P w) n C "come" ["self","house"] (a1A K C cB cM Pt) a3 d3
 de:Cal P w K mg base n "_law_deed_right" ["kept","book","counts","sizes","picks"] (a4j K C Pt) a4 d4
 to:Cal P w K mg base n "_law_told_right" ["kept","book","sizes"] (a4O K C Pt) a5 d5
structure b1H (P:Program) (w:World) (K:W.Frag) (mg:Str->Option Value) (base:Heap) (C fi:Addr) (di:FuncData):Prop where
 mak:Mk K C fi
 ok:∀ m:Nat,FnOk P w K mg base E4 (m+1) fi di ["self","takes","gives","sizes"] (a3Z K C)
 bd:Binds K di ["self","takes","gives","sizes"] []
 m:mg "Kept"=some (.ref C)
abbrev b2R (P:Program) (w:World) (K:W.Frag) (mg:Str->Option Value) (base:Heap) (f:Addr) (cdv:Value) (A:Around) (outer:List Env) (s:Shared) (H:Hp) (E:XK):Cx:=(K1 E4 P w K mg base b3D "law" (i8 a0n) f cdv A outer s H E).nox
variable {cdv:Value} {A:Around} {outer:List Env} {s:Shared} {H:Hp} {E:XK} {cB cM a1 a2 a3 a4 a5 fi:Addr} {d1 d2 d3 d4 d5 di:FuncData}
abbrev nth (i:Nat):Stmt:=(w4 a0n).getD i (.Pass ⟨0,0,0,0⟩)
theorem ndC:(["k","heads"]:List Str).Nodup:=by decide +kernel
theorem ndK:(["k","counts","sizes"]:List Str).Nodup:=by decide +kernel
noncomputable def b2z (T:x5 mg) (TKd:TK K C) (Cs:Calls P w K mg base n C Pt cB cM a1 a2 a3 a4 a5 d1 d2 d3 d4 d5) (hr:Room n (A.deeper (dC "law" (i8 a0n) s.heap.objs.size f cdv))):{ t:TS // PS (b2R P w K mg base f cdv A outer s H E) (nth 6) t } :=
 ⟨_,W3 PassesOwn.never rfl (A3 rfl T.range (a0 (j9 j5 (u9 (a0 (j4 x9 (j9 j5 (pv 1) h8 (λ _ _=>rfl)) h8) (a0 h8 e9))) (v9 R8 rfl T.int fT (a0 (A9 N6 (j4 x9 (j9 j5 (pv 1) h8 (λ _ _=>rfl)) h8) h8 (p6 _)) e9)) (λ _ _=>rfl)) e9)) (j8 (i:=7) scLaw.nd rfl (aC rfl))
  (p7 (o4 (i:=8) scLaw.nd rfl (aC rfl) (D4 (a0 (j4 a3l (D4 (a0 (j4 C4 h8 (j4 x9 (pv 7) h8)) e9)) (j9 a1W (j9 j5 (pv 3) h8 (λ _ _=>rfl)) h8 (λ _ _=>rfl))) (a0 (j4 a3l (D4 (a0 (j4 C4 h8 (j4 x9 (j4 N5 (pv 7) h8) h8)) e9)) (j9 a1W (j9 j5 (pv 3) h8 (λ _ _=>rfl)) h8 (λ _ _=>rfl))) e9))))
  (p7 (D3 (a0L eE fE fF J4 (j9 j5 (pv 6) h8 (λ _ _=>rfl)) (a0 (pv 8) e9)))
  (j3 (D3 (Y5 (j9 j5 (pv 5) h8 (λ _ _=>rfl)) TKd.cl Cs.co.me Cs.co.ok hr Cs.co.bd .nil a1b (a0 (pv 8) e9))))))⟩
noncomputable def b2C (T:x5 mg) (TKd:TK K C) (Cs:Calls P w K mg base n C Pt cB cM a1 a2 a3 a4 a5 d1 d2 d3 d4 d5) (hr:Room n (A.deeper (dC "law" (i8 a0n) s.heap.objs.size f cdv))):{ t:TS // PS (b2R P w K mg base f cdv A outer s H E) (nth 7) t } :=
 ⟨_,W3 PassesOwn.never rfl (M4 (b0S (j4 C5 (u9 (a0 (o6 Cs.ce.ok hr rfl Cs.ce.m Cs.ce.k Cs.ce.b .nil w6 (a0 (pv 0) (a0 h8 e9))) e9)) (G3 P9 (pv 0) (G4 h8) (G4 (j4 a1N h8 (j4 N5 h8 (v9 R8 rfl T.int fT (a0 (A9 N6 (j6 j7 rfl T.len bB (a0 (j9 j5 (pv 6) h8 (λ _ _=>rfl)) e9)) h8 (p6 _)) e9))))))))) (j8 (i:=9) scLaw.nd rfl (aC rfl))
  (p7 (o4 (i:=10) scLaw.nd rfl (aC rfl) (o6 Cs.dw.ok hr rfl Cs.dw.m Cs.dw.k Cs.dw.b .nil w6 (a0 (pv 9) (a0 h8 (a0 h8 e9)))))
  (p7 (o4 (i:=11) scLaw.nd rfl (aC rfl) (j4 x9 (j9 j5 (pv 10) h8 (λ _ _=>rfl)) h8))
  (p7 (A4 (U3 (U9 (o6 Cs.de.ok hr rfl Cs.de.m Cs.de.k Cs.de.b .nil w6 (a0 (j9 j5 (pv 5) (pv 11) (λ _ _=>rfl)) (a0 (j9 j5 (pv 6) (pv 11) (λ _ _=>rfl)) (a0 (j9 j5 (pv 3) (pv 11) (λ _ _=>rfl)) (a0 (j9 j5 (pv 4) (pv 11) (λ _ _=>rfl)) (a0 (pv 10) e9)))))))) a2b v8)
  (j3 (W3 PassesOwn.never rfl (A3 rfl T.range (a0 h8 e9)) (j8 (i:=7) scLaw.nd rfl (aC rfl))
   (j3 (A4 (U3 (U9 (o6 Cs.to.ok hr rfl Cs.to.m Cs.to.k Cs.to.b .nil w6 (a0 (j9 j5 (pv 5) (pv 7) (λ _ _=>rfl)) (a0 (j9 j5 (pv 6) (pv 7) (λ _ _=>rfl)) (a0 (j9 j5 (pv 4) (pv 7) (λ _ _=>rfl)) e9)))))) a2b v8)))))))⟩
noncomputable def b5i (T:x5 mg) (TKd:TK K C) (M:b1H P w K mg base C fi di) (Cs:Calls P w K mg base (n+2) C Pt cB cM a1 a2 a3 a4 a5 d1 d2 d3 d4 d5) (hr:Room (n+2) (A.deeper (dC "law" (i8 a0n) s.heap.objs.size f cdv))):{ t:TS // PSs (b2R P w K mg base f cdv A outer s H E) (w4 a0n) t } :=
 ⟨_,i9 (o4 (i:=1) scLaw.nd rfl (dH rfl) (o6 Cs.dw.ok hr rfl Cs.dw.m Cs.dw.k Cs.dw.b .nil w6 (a0 (o6 Cs.ce.ok hr rfl Cs.ce.m Cs.ce.k Cs.ce.b .nil w6 (a0 (pv 0) (a0 h8 e9))) (a0 h8 (a0 h8 e9)))))
  (i9 (o4 (i:=2) scLaw.nd rfl (aC rfl) (u9 (a0 D8 (a0 D8 (a0 D8 (a0 D8 e9))))))
  (p7 (o4 (i:=3) scLaw.nd rfl (dH rfl) (V2 ["k"] [1] rfl (A3 rfl T.range (a0 h8 e9)) (λ _ _ _ _=>j8 (i:=0) ndC rfl (aC rfl)) (λ _ _ _ _=>D4 (a0 (j4 C4 h8 (j4 x9 (j9 (N3 K rfl) (pv 1) (j4 N5 h8 (pv 0)) (λ _ _=>rfl)) h8)) (a0 (j4 C4 h8 (j4 x9 (j9 (N3 K rfl) (pv 1) (j4 C4 (j4 N5 h8 (pv 0)) h8) (λ _ _=>rfl)) h8)) e9)))))
  (p7 (o4 (i:=4) scLaw.nd rfl (dH rfl) (u9 (a0 (j9 j5 (pv 2) (j4 x9 (j9 j5 (pv 1) h8 (λ _ _=>rfl)) h8) (λ _ _=>rfl)) (a0 (j9 j5 (pv 2) (j4 x9 (j9 j5 (pv 1) h8 (λ _ _=>rfl)) h8) (λ _ _=>rfl)) e9))))
  (p7 (V9 (i:=5) ["k"] [3,4] scLaw.nd rfl rfl rfl (A3 rfl T.range (a0 h8 e9)) (λ _ _ _ _=>j8 (i:=0) ndK rfl (aC rfl)) (λ _ _ _ _=>a6a M.mak (M.ok n) hr rfl M.m M.bd .nil w6 (a0 (j9 (a5C K rfl) (j9 (N3 K rfl) (pv 1) (pv 0) (λ _ _=>rfl)) h8 (λ _ _=>rfl)) (a0 (j9 (a5C K rfl) (j9 (N3 K rfl) (pv 1) (pv 0) (λ _ _=>rfl)) h8 (λ _ _=>rfl)) (a0 (j9 (N3 K rfl) (pv 2) (pv 0) (λ _ _=>rfl)) e9)))))
  (p7 (o4 (i:=6) scLaw.nd rfl (aC rfl) (u9 (a0 (u9 e9) (a0 (u9 e9) e9))))
  (p7 (b2z T TKd Cs hr).2
  (p7 (b2C T TKd Cs hr).2
  (j3 (r9 a3h)))))))))⟩
end
theorem b0V {K:W.Frag} {σ:St} {H:Hp} {Q:VK} {ta tb tc td:TE} {a b:Int} {kt kg:Nat} (ha:∀ H1 (Q1:VK),Same H H1->Q1 (.int a) H1->ta σ H1 Q1) (hc:∀ H1 (Q1:VK),Same H H1->Q1 (.int (kt:Int)) H1->tc σ H1 Q1) (hb:∀ H1 (Q1:VK),Same H H1->Q1 (.int b) H1->tb σ H1 Q1) (hd:∀ H1 (Q1:VK),Same H H1->Q1 (.int (kg:Int)) H1->td σ H1 Q1)
  (k1:1<=kt) (k2:kt<=4) (g1:1<=kg) (g2:kg<=4) (q:∀ v H',Same H H'->HS K H' v (aG kt a,aG kg b)->Q v H') :
  a7H (a0i (tOp (a6p K) (a7H (a0i ta a3y)) tc) (a0i (tOp (a6p K) (a7H (a0i tb a3y)) td) a3y)) σ H Q:=by
 have fl:∀ (k:Nat) (x:V),(aG k [x]).flatten=aG k x:=λ k x=>by
  induction k with
  | zero=>rfl
  | succ k ih=>rw [cZ,eX,ih,cZ]; rfl
 have side:∀ {H0:Hp} {tx ty:TE} {x:Int} {k:Nat} {Q0:VK},Same H H0->(∀ H1 (Q1:VK),Same H H1->Q1 (.int x) H1->tx σ H1 Q1)->(∀ H1 (Q1:VK),Same H H1->Q1 (.int (k:Int)) H1->ty σ H1 Q1)->1<=k->k<=4->(∀ t H',Same H0 H'->SqT K H' t ((aG k x).map V.int)->Q0 (.ref t) H')->(tOp (a6p K) (a7H (a0i tx a3y)) ty) σ H0 Q0:=by
  intro H0 tx ty x k Q0 e0 hx hy h1 h4 q0;refine hx H0 _ e0 ⟨(by show 1<=sizeLine; decide),λ t1 ht1=>?_⟩;have s1:=Same.new ht1 (.tup [V.int x]);refine hy _ _ (e0.trans s1) ⟨t1,(k:Int),[V.int x],rfl,rfl,SqT.of upd_same,nofun,by omega,by omega,(by show 1<=1000; decide),λ e=>?_,λ _ t2 ht2=>?_⟩
  ·have:k=1:=by omega
   subst this;exact q0 t1 _ s1 (SqT.of upd_same)
  ·have s2:=Same.new ht2 (.tup (aG (k:Int).toNat [V.int x]).flatten)
   refine q0 t2 _ (s1.trans s2) (SqT.of ?_);rw [upd_same,fl,aY,kZ]
 refine side (Same.refl _) ha hc k1 k2 λ t1 H1 e1 h1=>?_;refine side e1 hb hd g1 g2 λ t2 H2 e2 h2=>?_;refine ⟨(by show 2<=sizeLine; decide),λ r hr=>?_⟩;have s3:=Same.new hr (.tup [V.ref t1,V.ref t2]);exact q _ _ (e1.trans (e2.trans s3)) ⟨r,t1,t2,rfl,SqT.of upd_same,(e2.trans s3).tseq h1,s3.tseq h2⟩
theorem a9L {a b:Int} {kt kg:Nat} (a1:1<=a) (a2:a<=1000) (b1:1<=b) (b2:b<=1000) (g1:1<=kg) (h1:kt<=4) (h2:kg<=4):GoodK (aG kt a,aG kg b) kt kg/\V0 (aG kt a,aG kg b):=by
 refine ⟨⟨⟨by simp,λ x hx=>?_⟩,⟨by simp,λ x hx=>?_⟩,b,?_,by omega⟩,by simp; omega,by simp; omega⟩
 ·rw [(eH.mp hx).2]; omega
 ·rw [(eH.mp hx).2]; omega
 ·exact eH.mpr ⟨by omega,rfl⟩
section
variable {K:W.Frag} {C Pt:Addr} {H H':Hp} {Ws:List Addr} {o x y:Kq} {S Sx Sy:KS} {bx bY:Addr}
theorem KO.fr {Z:Addr->Prop} (k:KO K C H Ws o S) (e:Fr0 Z H H') (h1:¬ Z o.p) (h2:¬ Z o.pa) (h3:∀ b xs,b ∉ Ws->H b=some (.lst xs)->¬ Z b):KO K C H' Ws o S:=by
 obtain ⟨lo,kp,n,ok⟩:=k;exact ⟨lo,kp.fr0 e (λ b hb=>by obtain ⟨zs,hz⟩:=kp.ls b hb; exact h3 b zs (n b hb) hz) h1 h2,n,ok⟩
def BkAt (K:W.Frag) (H:Hp) (o:Kq) (S:KS) (b:Addr):Prop:=∃ xs,H b=some (.lst xs)/\Bk K H xs S.1/\∀ g∈S.1,HG 40 o.kt o.kg g
structure Ss (Ws:List Addr) (x y:Kq) (bx bY:Addr):Prop where
 pxy:x.p≠y.p
 xy:x.pa≠y.pa
 xbx:x.pa≠bx
 xby:x.pa≠bY
 ybx:y.pa≠bx
 yby:y.pa≠bY
 bb:bx≠bY
 wx:x.pa∈Ws
 wy:y.pa∈Ws
 wbx:bx∈Ws
 wby:bY∈Ws
 all:∀ b∈Ws,b=x.pa\/b=y.pa\/b=bx\/b=bY
 fx:Fit x.z x.kt x.kg
 fy:Fit y.z y.kt y.kg
 gx:1<=x.kg
 gy:1<=y.kg
theorem Ss.swap (s:Ss Ws x y bx bY):Ss Ws y x bY bx:=⟨s.pxy.symm,s.xy.symm,s.yby,s.ybx,s.xby,s.xbx,s.bb.symm,s.wy,s.wx,s.wby,s.wbx,λ b hb=>by
 rcases s.all b hb with h | h | h | h <;> simp [h],s.fy,s.fx,s.gy,s.gx⟩
structure Iv (K:W.Frag) (C Pt:Addr) (H:Hp) (Ws:List Addr) (x y:Kq) (bx bY:Addr) (Sx Sy:KS):Prop where
 lt:LT Pt H
 kx:KO K C H Ws x Sx
 ky:KO K C H Ws y Sy
 bx:BkAt K H x Sx bx
 bY:BkAt K H y Sy bY
theorem Iv.swap (i:Iv K C Pt H Ws x y bx bY Sx Sy):Iv K C Pt H Ws y x bY bx Sy Sx:=⟨i.lt,i.ky,i.kx,i.bY,i.bx⟩
theorem BkAt.same1 {b:Addr} (T:LT Pt H) (e:Same1 Pt H H') (h:BkAt K H o S b):BkAt K H' o S b:=by
 obtain ⟨xs,h1,h2,h3⟩:=h;exact ⟨xs,e.get T h1 nofun,Bk.same1 T e h2,h3⟩
theorem BkAt.same {b:Addr} (e:Same H H') (h:BkAt K H o S b):BkAt K H' o S b:=by
 obtain ⟨xs,h1,h2,h3⟩:=h;exact ⟨xs,e _ _ h1,Bk.same e h2,h3⟩
theorem Iv.same1 (e:Same1 Pt H H') (L:LT Pt H') (i:Iv K C Pt H Ws x y bx bY Sx Sy):Iv K C Pt H' Ws x y bx bY Sx Sy:=⟨L,i.kx.same1 i.lt e,i.ky.same1 i.lt e,i.bx.same1 i.lt e,i.bY.same1 i.lt e⟩
theorem Iv.same (e:Same H H') (i:Iv K C Pt H Ws x y bx bY Sx Sy):Iv K C Pt H' Ws x y bx bY Sx Sy:=⟨i.lt.same e,i.kx.same e,i.ky.same e,i.bx.same e,i.bY.same e⟩
theorem Iv.al (s:Ss Ws x y bx bY) (i:Iv K C Pt H Ws x y bx bY Sx Sy):∀ b∈Ws,∃ vs,H b=some (.lst vs):=λ b hb=>by
 rcases s.all b hb with rfl | rfl | rfl | rfl
 ·exact i.kx.pa'
 ·exact i.ky.pa'
 ·obtain ⟨xs,h,_⟩:=i.bx; exact ⟨xs,h⟩
 ·obtain ⟨xs,h,_⟩:=i.bY; exact ⟨xs,h⟩
structure St12 (H:Hp) (Ws:List Addr) (x y:Kq) (bx bY bl dl ca sz c0 c1:Addr):Prop where
 b:H bl=some (.lst [.ref x.p,.ref y.p])
 d:H dl=some (.lst [.ref bx,.ref bY])
 c:H ca=some (.lst [.ref c0,.ref c1])
 s:H sz=some (.lst [.str x.z,.str y.z])
 t0:H c0=some (.tup [.int (x.kt:Int),.int (x.kg:Int)])
 t1:H c1=some (.tup [.int (y.kt:Int),.int (y.kg:Int)])
 nb:bl ∉ Ws
 nd:dl ∉ Ws
 nc:ca ∉ Ws
 ns:sz ∉ Ws
theorem St12.tr {bl dl ca sz c0 c1:Addr} (t:Tr Ws H H') (s:St12 H Ws x y bx bY bl dl ca sz c0 c1):St12 H' Ws x y bx bY bl dl ca sz c0 c1 :=
 ⟨t.lst s.nb s.b,t.lst s.nd s.d,t.lst s.nc s.c,t.lst s.ns s.s,t.tup s.t0,t.tup s.t1,s.nb,s.nd,s.nc,s.ns⟩
theorem Iv.deed {S':KS} {xs':List V} (s:Ss Ws x y bx bY) (i:Iv K C Pt H Ws x y bx bY Sx Sy) (ko:KO K C H' Ws x S') (h1:H' bx=some (.lst xs')) (h2:Bk K H' xs' S'.1) (h3:∀ g∈S'.1,HG 40 x.kt x.kg g) (lf:∀ b u,b≠x.p->b≠Pt->b≠x.pa->b≠bx->H b=some u->H' b=some u) (L:LT Pt H'):Iv K C Pt H' Ws x y bx bY S' Sy/\Tr Ws H H':=by
 obtain ⟨dx,fs,hp⟩:=i.kx.p';obtain ⟨pv,hpa⟩:=i.kx.pa';obtain ⟨xs,hb,_⟩:=i.bx;obtain ⟨dy,fy,hpy⟩:=i.ky.p';obtain ⟨pvy,hpay⟩:=i.ky.pa';obtain ⟨ys,hby,hBy,h4⟩:=i.bY;have fr:Fr0 (λ b=>b=x.p\/b=Pt\/b=x.pa\/b=bx) H H':=⟨λ b u hx e=>lf b u (λ z=>hx (.inl z)) (λ z=>hx (.inr (.inl z))) (λ z=>hx (.inr (.inr (.inl z)))) (λ z=>hx (.inr (.inr (.inr z)))) e,λ z hz=>by
  rcases hz with rfl | rfl | rfl | rfl
  ·exact L9 hp
  ·exact L6 i.lt
  ·exact x4 hpa
  ·exact x4 hb⟩
 have no:∀ b xs,b ∉ Ws->H b=some (.lst xs)->¬ (b=x.p\/b=Pt\/b=x.pa\/b=bx):=λ b xs n h z=>by
  rcases z with rfl | rfl | rfl | rfl
  ·rw [hp] at h; cases h
  ·exact i.lt.ne h nofun rfl
  ·exact n s.wx
  ·exact n s.wbx
 refine ⟨⟨L,ko,i.ky.fr fr (λ z=>?_) (λ z=>?_) no,⟨xs',h1,h2,h3⟩,⟨ys,fr.k _ _ (λ z=>?_) hby,hBy.fr0 fr,h4⟩⟩,_,fr,no⟩
 ·rcases z with z | z | z | z
  ·exact s.pxy z.symm
  ·exact i.lt.ne hpy nofun z
  ·rw [z,hpa] at hpy; cases hpy
  ·rw [z,hb] at hpy; cases hpy
 ·rcases z with z | z | z | z
  ·rw [z,hp] at hpay; cases hpay
  ·exact i.lt.ne hpay nofun z
  ·exact s.xy z.symm
  ·exact s.ybx z
 ·rcases z with z | z | z | z
  ·rw [z,hp] at hby; cases hby
  ·exact i.lt.ne hby nofun z
  ·exact s.xby z.symm
  ·exact s.bb z.symm
theorem a6n {a:Addr} {xs:List V} (h:SqL K H a xs) (n:H a=none):∀ H',SqL K H' a xs:=λ H'=>by
 rcases h with (h | ⟨o,h⟩) | h
 ·rw [n] at h; cases h
 ·rw [n] at h; cases h
 ·exact .inr h
theorem b2U {a:Addr} {xs:List V} (t:Tr Ws H H') (w:a∈Ws->∀ H,SqL K H a xs) (h:SqL K H a xs):SqL K H' a xs:=by
 by_cases ha:a∈Ws
 ·exact w ha H'
 ·rcases h with (h | ⟨o,h⟩) | h
  ·exact .inl (.inl (t.lst ha h))
  ·obtain ⟨X,e,_⟩:=t
   exact .inl (.inr ⟨o,e.k a _ (λ x=>(e.m a x _ h).2 _ _ rfl) h⟩)
  ·exact .inr h
end
section
variable {P:Program} {w:World} {K:W.Frag} {mg:Str->Option Value} {base:Heap} {f C Pt:Addr} {fd:FuncData} {n:Nat}
def a6L (K:W.Frag) (Pt:Addr):Sp:=λ vs H Q _=>∃ (a:Addr) (ns:List Int),vs=[.ref a]/\SqL K H a (ns.map V.int)/\ns.length<=63/\LT Pt H/\∀ H',Q (.bl true) H'
abbrev a5X:List V:=[V.str "any",V.str "one",V.str "less",V.str "more"]
theorem a8r {i:Int} (h0:0<=i) (h4:i<4):∃ z,Y8 a5X i=some (.str z)/\Szw z:=by
 have:i=0\/i=1\/i=2\/i=3:=by omega
 rcases this with rfl | rfl | rfl | rfl
 ·exact ⟨"any",rfl,.inl rfl⟩
 ·exact ⟨"one",rfl,.inr (.inl rfl)⟩
 ·exact ⟨"less",rfl,.inr (.inr (.inl rfl))⟩
 ·exact ⟨"more",rfl,.inr (.inr (.inr rfl))⟩
theorem a3I {v:Int} (h:0<=v):∃ k:Nat,1+v % 4=(k:Int)/\1<=k/\k<=4:=⟨(1+v % 4).toNat,by omega,by omega,by omega⟩
theorem b2F {cB cM a1 a2 a3 a4 a5 fi:Addr} {d1 d2 d3 d4 d5 di:FuncData} (F:Fun K "law" "law" a0n f fd) (T:x5 mg) (TKd:TK K C) (M:b1H P w K mg base C fi di) (Cs:Calls P w K mg base (n+2) C Pt cB cM a1 a2 a3 a4 a5 d1 d2 d3 d4 d5) :
  FnOk P w K mg base E4 (n+3) f fd ["script"] (a6L K Pt):=by
 refine F.ok scLaw (λ vs H Q E h=>?_) (λ cdv A outer s H vs Q E hr h=>?_)
 ·obtain ⟨a,ns,rfl,_⟩:=h
  rfl
 obtain ⟨a,ns,rfl,hS,h63,LTH,q⟩:=h;refine ⟨_,(b5i T TKd M Cs hr).2,?_⟩;have small:=m8 (show (1000:Nat)<=1000 from aF _);refine ⟨_,rfl,a,ns,0,rfl,hS,by decide,λ c0=>?_⟩;refine ⟨_,10,1000,rfl,by decide,by decide,by decide,λ hd H0 ds e0 hhd0 ld bd=>?_⟩;have at10:∀ k:Nat,k<10->∃ v,v∈ds/\Y8 (ds.map V.int) (k:Int)=some (.int v):=λ k hk=>M3 (by omega) (by omega);refine ⟨(by show 4<=sizeLine; decide),λ so hso0=>?_⟩;have s1:=Same.new hso0 (.lst a5X);have e1:=e0.trans s1;have hhd:=s1 _ _ hhd0;have hso:r6 H0 so (.lst a5X) so=some (.lst a5X):=upd_same;have L1:=LTH.same e1;have hS1:=e1.seq hS;generalize r6 H0 so (.lst a5X)=H1 at *;refine ⟨λ σ' H'=>∃ ca ca0 ca1 k0 g0 k1 g1,σ'=[some (.ref a),some (.ref hd),some (.ref so),some (.ref ca),none,none,none,none,none,none,none,none]/\Same H1 H'/\H' ca=some (.lst [.ref ca0,.ref ca1])/\H' ca0=some (.tup [.int ((k0:Nat):Int),.int ((g0:Nat):Int)])/\H' ca1=some (.tup [.int ((k1:Nat):Int),.int ((g1:Nat):Int)])/\(1<=k0/\k0<=4/\1<=g0/\g0<=4)/\(1<=k1/\k1<=4/\1<=g1/\g1<=4),?_,?_⟩
 ·refine ⟨2,rfl,by omega,by omega,λ ca hca=>?_⟩
  have s5:=Same.new hca (.lst []);refine a8K (λ v H'=>∃ ca0 k0 g0,v=.ref ca0/\(∀ b o,b≠ca->H1 b=some o->H' b=some o)/\H' ca0=some (.tup [.int ((k0:Nat):Int),.int ((g0:Nat):Int)])/\(1<=k0/\k0<=4/\1<=g0/\g0<=4)) (λ v0 v1 H'=>∃ ca0 ca1 k0 g0 k1 g1,v0=.ref ca0/\v1=.ref ca1/\(∀ b o,b≠ca->H1 b=some o->H' b=some o)/\H' ca0=some (.tup [.int ((k0:Nat):Int),.int ((g0:Nat):Int)])/\H' ca1=some (.tup [.int ((k1:Nat):Int),.int ((g1:Nat):Int)])/\(1<=k0/\k0<=4/\1<=g0/\g0<=4)/\(1<=k1/\k1<=4/\1<=g1/\g1<=4)) (λ N hN=>?_) (λ v0 H5 N hR h5 hN=>?_) (λ v0 v1 H5 hR h5=>?_)
  ·obtain ⟨v0,m0,i0⟩:=at10 0 (by decide)
   obtain ⟨v1,m1,i1⟩:=at10 1 (by decide);obtain ⟨k0,q0,k01,k03⟩:=a3I (bd v0 m0).1;obtain ⟨g0,f0,g01,g03⟩:=a3I (bd v1 m1).1;refine ⟨_,rfl,_,rfl,_,_,rfl,rfl,.inl ⟨by decide,by decide⟩,hd,_,_,_,rfl,rfl,SqL.of (s5 _ _ hhd),i0,_,_,rfl,rfl,(by show (0:Int)<4; decide),_,_,rfl,rfl,_,rfl,_,rfl,_,_,rfl,rfl,.inl ⟨by decide,by decide⟩,_,_,rfl,rfl,hd,_,_,_,rfl,rfl,SqL.of (s5 _ _ hhd),i1,_,_,rfl,rfl,(by show (0:Int)<4; decide),_,_,rfl,rfl,(by show 2<=sizeLine; decide),λ t0 ht0=>?_⟩;have t1:=Same.new ht0 (.tup [V.int (1+v0 % 4),V.int (1+v1 % 4)]);exact hN _ _ ⟨t0,k0,g0,rfl,λ b o _ h=>t1 _ _ (s5 _ _ h),by rw [<- q0,<- f0]; exact upd_same,k01,k03,g01,g03⟩ (t1 _ _ upd_same)
  ·obtain ⟨ca0,k0,g0,rfl,k5,hc0,b0⟩:=hR
   obtain ⟨v0,m0,i0⟩:=at10 2 (by decide);obtain ⟨v1,m1,i1⟩:=at10 3 (by decide);obtain ⟨k1,q0,k01,k03⟩:=a3I (bd v0 m0).1;obtain ⟨g1,f0,g01,g03⟩:=a3I (bd v1 m1).1;have nhd:hd≠ca:=d7 hhd hca;have hhd6:r6 H5 ca (.lst [V.ref ca0]) hd=some (.lst (ds.map V.int)):=by rw [c9 nhd]; exact k5 _ _ nhd hhd
   refine ⟨_,rfl,_,rfl,_,_,rfl,rfl,.inl ⟨by decide,by decide⟩,hd,_,_,_,rfl,rfl,SqL.of hhd6,i0,_,_,rfl,rfl,(by show (0:Int)<4; decide),_,_,rfl,rfl,_,rfl,_,rfl,_,_,rfl,rfl,.inl ⟨by decide,by decide⟩,_,_,rfl,rfl,hd,_,_,_,rfl,rfl,SqL.of hhd6,i1,_,_,rfl,rfl,(by show (0:Int)<4; decide),_,_,rfl,rfl,(by show 2<=sizeLine; decide),λ t0 ht0=>?_⟩;have t1:=Same.new ht0 (.tup [V.int (1+v0 % 4),V.int (1+v1 % 4)]);exact hN _ _ ⟨ca0,t0,k0,g0,k1,g1,rfl,rfl,λ b o nb h=>t1 _ _ (by rw [c9 nb]; exact k5 _ _ nb h),t1 _ _ (by rw [c9 (y9 hc0 h5 nofun)]; exact hc0),by rw [<- q0,<- f0]; exact upd_same,b0,k01,k03,g01,g03⟩ (t1 _ _ upd_same)
  ·obtain ⟨ca0,ca1,k0,g0,k1,g1,rfl,rfl,k5,h0,h1,b0,b1⟩:=hR
   exact ⟨ca,ca0,ca1,k0,g0,k1,g1,rfl,λ b o h=>by rw [c9 (d7 h hca)]; exact k5 _ _ (d7 h hca) h,upd_same,by rw [c9 (y9 h0 h5 nofun)]; exact h0,by rw [c9 (y9 h1 h5 nofun)]; exact h1,b0,b1⟩
 intro σ2 H2 hM_; refine X1 λ G_ hG_=>?_; obtain ⟨ca,ca0,ca1,k0,g0,k1,g1,rfl,e2,hca2,ht02,ht12,b0,b1⟩:=hM_; subst hG_;have hhd2:=e2 _ _ hhd;have hso2:=e2 _ _ hso;refine ⟨λ σ' H'=>∃ sz z0 z1,σ'=[some (.ref a),some (.ref hd),some (.ref so),some (.ref ca),some (.ref sz),none,none,none,none,none,none,none]/\Same H2 H'/\H' sz=some (.lst [.str z0,.str z1])/\Szw z0/\Szw z1,?_,?_⟩
 ·obtain ⟨v4,m4,i4⟩:=at10 4 (by decide)
  obtain ⟨v5,m5,i5⟩:=at10 5 (by decide);have b4:=bd v4 m4;have b5:=bd v5 m5;obtain ⟨z0,hz0,hz0'⟩:=a8r (i:=v4 % 4) (by omega) (by omega);obtain ⟨z1,hz1,hz1'⟩:=a8r (i:=v5 % 4) (by omega) (by omega);refine ⟨_,rfl,_,rfl,hd,_,4,_,rfl,rfl,SqL.of hhd2,i4,_,_,rfl,rfl,(by show (0:Int)<4; decide),so,a5X,_,_,rfl,rfl,SqL.of hso2,hz0,_,rfl,_,rfl,hd,_,5,_,rfl,rfl,SqL.of hhd2,i5,_,_,rfl,rfl,(by show (0:Int)<4; decide),so,a5X,_,_,rfl,rfl,SqL.of hso2,hz1,(by show 2<=sizeLine; decide),λ sz hsz=>?_⟩;exact ⟨sz,z0,z1,rfl,Same.new hsz _,upd_same,hz0',hz1'⟩
 intro σ4 H4 hM_; refine X1 λ G_ hG_=>?_; obtain ⟨sz,z0,z1,rfl,e4,hsz,hz0,hz1⟩:=hM_; subst hG_;have hca4:=e4 _ _ hca2;have ht04:=e4 _ _ ht02;have ht14:=e4 _ _ ht12;have L4:=(L1.same e2).same e4;have hS4:=e4.seq (e2.seq hS1);refine ⟨λ σ' H'=>∃ bl p0 p1 pa0 pa1 lo0 lo1,σ'=[some (.ref a),some (.ref hd),some (.ref so),some (.ref ca),some (.ref sz),some (.ref bl),none,none,none,none,none,none]/\Same H4 H'/\H' bl=some (.lst [.ref p0,.ref p1])/\KpAt K C H' p0 k0 g0 z0 ([],[]) [] pa0 lo0/\KpAt K C H' p1 k1 g1 z1 ([],[]) [] pa1 lo1/\p0≠p1/\pa0≠pa1/\bl≠pa0/\bl≠pa1/\pa0 ∉ lo1/\pa1 ∉ lo0/\H4 pa0=none/\H4 pa1=none,?_,?_⟩
 ·refine ⟨2,rfl,by omega,by omega,λ bl hbl=>?_⟩
  have s5:=Same.new hbl (.lst []);refine a8K (λ v H'=>∃ p pa lo,v=.ref p/\Same (r6 H4 bl (.lst [])) H'/\H4 pa=none/\KpAt K C H' p k0 g0 z0 ([],[]) [] pa lo/\bl ∉ lo/\bl≠pa) (λ v0 v1 H'=>∃ p0 p1 pa0 pa1 lo0 lo1,v0=.ref p0/\v1=.ref p1/\(∀ b o,b≠bl->H4 b=some o->H' b=some o)/\KpAt K C H' p0 k0 g0 z0 ([],[]) [] pa0 lo0/\KpAt K C H' p1 k1 g1 z1 ([],[]) [] pa1 lo1/\p0≠p1/\pa0≠pa1/\bl≠pa0/\bl≠pa1/\pa0 ∉ lo1/\pa1 ∉ lo0/\bl ∉ lo0/\bl ∉ lo1/\H4 pa0=none/\H4 pa1=none) (λ N hN=>?_) (λ v0 H5 N hR h5 hN=>?_) (λ v0 v1 H5 hR h5=>?_)
  ·refine ⟨_,rfl,_,rfl,ca,_,0,_,rfl,rfl,SqL.of (s5 _ _ hca4),rfl,ca0,_,0,_,rfl,rfl,SqT.of (s5 _ _ ht04),rfl,_,rfl,_,rfl,ca,_,0,_,rfl,rfl,SqL.of (s5 _ _ hca4),rfl,ca0,_,1,_,rfl,rfl,SqT.of (s5 _ _ ht04),rfl,_,rfl,_,rfl,sz,_,0,_,rfl,rfl,SqL.of (s5 _ _ hsz),rfl,?_⟩
   refine made λ p pa lo H' e6 n1 n2 n3 KP=>hN _ _ ⟨p,pa,lo,rfl,e6,s5.free n2,KP,λ hb=>?_,λ z=>?_⟩ (e6 _ _ upd_same)
   ·have:=n3 _ hb; rw [upd_same] at this; cases this
   ·rw [<- z,upd_same] at n2; cases n2
  ·obtain ⟨p,pa,lo,rfl,e6,n2,KP,nb1,nb2⟩:=hR
   have g6:∀ {b:Addr} {o:HO},H4 b=some o->(r6 H5 bl (.lst [V.ref p])) b=some o:=λ {b o} h=>by
    rw [c9 (d7 h hbl)]; exact e6 _ _ (s5 _ _ h)
   have KP6:KpAt K C (r6 H5 bl (.lst [V.ref p])) p k0 g0 z0 ([],[]) [] pa lo:=by
    obtain ⟨dx,ta,wa,pv0,hp,_,hpa,_⟩:=KP.ex;exact KP.fr0 (X:=λ b=>b=bl) ⟨λ b o hx e=>by rw [c9 hx]; exact e,λ x hx=>by subst hx; exact x4 h5⟩ (λ b hb z=>nb1 (z ▸ hb)) (λ z=>by rw [z,h5] at hp; cases hp) λ z=>nb2 z.symm
   refine ⟨_,rfl,_,rfl,ca,_,1,_,rfl,rfl,SqL.of (g6 hca4),rfl,ca1,_,0,_,rfl,rfl,SqT.of (g6 ht14),rfl,_,rfl,_,rfl,ca,_,1,_,rfl,rfl,SqL.of (g6 hca4),rfl,ca1,_,1,_,rfl,rfl,SqT.of (g6 ht14),rfl,_,rfl,_,rfl,sz,_,1,_,rfl,rfl,SqL.of (g6 hsz),rfl,?_⟩;obtain ⟨dx,ta,wa,pv0,hp,_,hpa,_⟩:=KP6.ex;refine made λ p' pa' lo' H' e7 m1 m2 m3 KP'=>hN _ _ ⟨p,p',pa,pa',lo,lo',rfl,rfl,λ b o hb h=>e7 _ _ (g6 h),KP6.same e7,KP',λ z=>?_,λ z=>?_,nb2,λ z=>?_,λ z=>?_,λ z=>?_,nb1,λ z=>?_,n2,?_⟩ (e7 _ _ upd_same)
   ·rw [<- z,hp] at m1; cases m1
   ·rw [<- z,hpa] at m2; cases m2
   ·rw [<- z,upd_same] at m2; cases m2
   ·have:=m3 _ z; rw [hpa] at this; cases this
   ·obtain ⟨zs,hz⟩:=KP6.ls _ z; rw [hz] at m2; cases m2
   ·have:=m3 _ z; rw [upd_same] at this; cases this
   ·cases q:H4 pa' with
    | none=>rfl
    | some o=>rw [g6 q] at m2; cases m2
  ·obtain ⟨p0,p1,pa0,pa1,lo0,lo1,rfl,rfl,k5,KP0,KP1,np,npa,n0,n1,x1,x2,y0,y1,f0,f1⟩:=hR
   have up:∀ {p pa:Addr} {lo:List Addr} {kt kg:Nat} {z:Str},KpAt K C H5 p kt kg z ([],[]) [] pa lo->bl≠pa->bl ∉ lo->KpAt K C (r6 H5 bl (.lst [V.ref p0,V.ref p1])) p kt kg z ([],[]) [] pa lo:=λ KP nb2 nb1=>by
    obtain ⟨dx,ta,wa,pv0,hp,_,hpa,_⟩:=KP.ex;exact KP.fr0 (X:=λ b=>b=bl) ⟨λ b o hx e=>by rw [c9 hx]; exact e,λ x hx=>by subst hx; exact x4 h5⟩ (λ b hb z=>nb1 (z ▸ hb)) (λ z=>by rw [z,h5] at hp; cases hp) λ z=>nb2 z.symm
   exact ⟨bl,p0,p1,pa0,pa1,lo0,lo1,rfl,λ b o h=>by rw [c9 (d7 h hbl)]; exact k5 b o (d7 h hbl) h,upd_same,up KP0 n0 y0,up KP1 n1 y1,np,npa,n0,n1,x1,x2,f0,f1⟩
 intro σ5 H5 hM_; refine X1 λ G_ hG_=>?_; obtain ⟨bl,p0,p1,pa0,pa1,lo0,lo1,rfl,e5,hbl,KP0,KP1,np,npa,nb0,nb1,x1,x2,f0,f1⟩:=hM_; subst hG_;have g5:∀ {b:Addr} {o:HO},H4 b=some o->H5 b=some o:=λ h=>e5 _ _ h;refine ⟨λ σ' H'=>∃ x y bx bY dl Ws,σ'=[some (.ref a),some (.ref hd),some (.ref so),some (.ref ca),some (.ref sz),some (.ref bl),some (.ref dl),none,none,none,none,none]/\Ss Ws x y bx bY/\Iv K C Pt H' Ws x y bx bY ([],[]) ([],[])/\St12 H' Ws x y bx bY bl dl ca sz ca0 ca1/\SqL K H' a (ns.map V.int)/\(a∈Ws->∀ H,SqL K H a (ns.map V.int))/\H' hd=some (.lst (ds.map V.int)),?_,?_⟩
 ·refine ⟨(by show 0<=sizeLine; decide),λ d0 hd0=>⟨(by show 0<=sizeLine; decide),λ d1 hd1=>⟨(by show 2<=sizeLine; decide),λ dl hdl=>?_⟩⟩⟩
  have s0:=Same.new hd0 (.lst []);have s1:=Same.new hd1 (.lst []);have s2:=Same.new hdl (.lst [V.ref d0,V.ref d1]);have q0:=(s1.trans s2) _ _ (upd_same (H:=H5) (a:=d0) (o:=.lst []));have q1:=s2 _ _ (upd_same (H:=r6 H5 d0 (.lst [])) (a:=d1) (o:=.lst []));have q2:=upd_same (H:=r6 (r6 H5 d0 (.lst [])) d1 (.lst [])) (a:=dl) (o:=.lst [V.ref d0,V.ref d1]);have ff1:H5 d1=none:=s0.free hd1;have ff2:H5 dl=none:=(s0.trans s1).free hdl;have n01:d0≠d1:=d7 upd_same hd1;have n02:d0≠dl:=d7 (s1 _ _ upd_same) hdl;have n12:d1≠dl:=d7 upd_same hdl;have s6:=s0.trans (s1.trans s2);generalize r6 (r6 (r6 H5 d0 (.lst [])) d1 (.lst [])) dl (.lst [V.ref d0,V.ref d1])=H7 at *;obtain ⟨dx0,ta0,wa0,pv0,hp0,_,hpa0,_⟩:=KP0.ex;obtain ⟨dx1,ta1,wa1,pv1,hp1,_,hpa1,_⟩:=KP1.ex;have old:∀ {b:Addr} {o:HO},H5 b=some o->b≠d0/\b≠d1/\b≠dl:=λ h=>⟨d7 h hd0,d7 h ff1,d7 h ff2⟩;have notW:∀ {b:Addr},b≠pa0->b≠pa1->b≠d0->b≠d1->b ∉ [pa0,pa1,d0,d1]:=λ a b c d=>by simp [a,b,c,d]
  obtain ⟨o02,o03,o05⟩:=old hpa0;obtain ⟨o12,o13,o15⟩:=old hpa1;refine ⟨⟨p0,pa0,k0,g0,z0⟩,⟨p1,pa1,k1,g1,z1⟩,d0,d1,dl,[pa0,pa1,d0,d1],rfl,⟨np,npa,o02,o03,o12,o13,n01,by simp,by simp,by simp,by simp,λ b hb=>by simpa using hb,⟨hz0,b0.1,b0.2.1,b0.2.2.2⟩,⟨hz1,b1.1,b1.2.1,b1.2.2.2⟩,b0.2.2.1,b1.2.2.1⟩,⟨(L4.same e5).same s6,KO.new (lo:=lo0) (KP0.same s6) λ b hb=>?_,KO.new (lo:=lo1) (KP1.same s6) λ b hb=>?_,⟨[],q0,.nil,λ g hg=>by cases hg⟩,⟨[],q1,.nil,λ g hg=>by cases hg⟩⟩,⟨s6 _ _ hbl,q2,s6 _ _ (g5 hca4),s6 _ _ (g5 hsz),s6 _ _ (g5 ht04),s6 _ _ (g5 ht14),?_,?_,?_,?_⟩,s6.seq (e5.seq hS4),λ ha=>?_,s6 _ _ (g5 (e4 _ _ hhd2))⟩
  ·obtain ⟨zs,hz⟩:=KP0.ls b hb
   obtain ⟨r2,r3,_⟩:=old hz;exact notW (λ z=>KP0.no (z ▸ hb)) (λ z=>x2 (z ▸ hb)) r2 r3
  ·obtain ⟨zs,hz⟩:=KP1.ls b hb
   obtain ⟨r2,r3,_⟩:=old hz;exact notW (λ z=>x1 (z ▸ hb)) (λ z=>KP1.no (z ▸ hb)) r2 r3
  ·obtain ⟨r2,r3,_⟩:=old hbl
   exact notW nb0 nb1 r2 r3
  ·exact notW o05.symm o15.symm n02.symm n12.symm
  ·obtain ⟨r2,r3,_⟩:=old (g5 hca4)
   exact notW (d7 hca4 f0) (d7 hca4 f1) r2 r3
  ·obtain ⟨r2,r3,_⟩:=old (g5 hsz)
   exact notW (d7 hsz f0) (d7 hsz f1) r2 r3
  ·simp only [aJ,aZ,or_false] at ha
   rcases ha with rfl | rfl | rfl | rfl
   ·exact a6n hS4 f0
   ·exact a6n hS4 f1
   ·exact a6n (e5.seq hS4) hd0
   ·exact a6n (e5.seq hS4) ff1
 intro σ7 H7 hM_; refine X1 λ G_ hG_=>?_; obtain ⟨x,y,bx,bY,dl,Ws,rfl,ss,iv,st,hS7,hSw,hhd7⟩:=hM_; subst hG_;refine ⟨λ σ' H'=>∃ o7 o8 Sx,σ'=[some (.ref a),some (.ref hd),some (.ref so),some (.ref ca),some (.ref sz),some (.ref bl),some (.ref dl),o7,o8,none,none,none]/\Iv K C Pt H' Ws x y bx bY Sx ([],[])/\St12 H' Ws x y bx bY bl dl ca sz ca0 ca1/\SqL K H' a (ns.map V.int)/\Sx.2.length<=16,?_,?_⟩
 ·obtain ⟨v6,m6,i6⟩:=at10 6 (by decide)
  obtain ⟨v7,m7,i7⟩:=at10 7 (by decide);have b6:=bd v6 m6;refine ⟨_,rfl,hd,_,6,_,rfl,rfl,SqL.of hhd7,i6,_,_,rfl,rfl,(by show (0:Int)<3; decide),(by show 2<=sizeLine; decide),λ nl hnl=>?_⟩;have t1:=Same.new hnl (.lst [V.int (v6 % 3),V.int 16]);have pick:∀ k:Bool,∃ nn:Nat,nn<=16/\Y8 [V.int (v6 % 3),V.int 16] (if k=true then 1 else 0)=some (.int (nn:Int)):=λ k=>by
   cases k with
   | true=>exact ⟨16,by decide,rfl⟩
   | false=>exact ⟨(v6 % 3).toNat,by omega,by rw [show (((v6 % 3).toNat:Nat):Int)=v6 % 3 by omega]; rfl⟩
  refine ⟨_,rfl,hd,_,7,_,rfl,rfl,SqL.of (t1 _ _ hhd7),i7,_,_,rfl,rfl,(by show (0:Int)<8; decide),rfl,.inr ⟨_,rfl,?_⟩⟩;obtain ⟨nn,nn16,ann⟩:=pick _;refine ⟨nl,_,_,_,rfl,rfl,SqL.of upd_same,ann,_,rfl,by omega,by omega,?_⟩;rw [aY];have iv8:=iv.same t1;have st8:=st.tr (Tr.same t1);have hS8:=t1.seq hS7;generalize r6 H7 nl (.lst [V.int (v6 % 3),V.int 16])=H8 at *;refine Z8 (n:=nn) (λ j σ H'=>∃ o7 o8 Sx,σ=[some (.ref a),some (.ref hd),some (.ref so),some (.ref ca),some (.ref sz),some (.ref bl),some (.ref dl),o7,o8,none,none,none]/\Iv K C Pt H' Ws x y bx bY Sx ([],[])/\St12 H' Ws x y bx bY bl dl ca sz ca0 ca1/\SqL K H' a (ns.map V.int)/\Sx.1.length=j/\Sx.2.length=j)
   ⟨_,_,_,rfl,iv8,st8,hS8,rfl,rfl⟩ ?_ ?_
  rotate_left
  ·rintro σ H9 ⟨o7,o8,Sx,rfl,h1,h2,h3,h4,h5⟩
   exact ⟨o7,o8,Sx,rfl,h1,h2,h3,by omega⟩
  rintro j σ H9 hj ⟨o7,o8,Sx,rfl,iv9,st9,hS9,l1,l2⟩;rw [eO];refine ⟨λ σ' H'=>∃ (hv:V) (h:j0),σ'=[some (.ref a),some (.ref hd),some (.ref so),some (.ref ca),some (.ref sz),some (.ref bl),some (.ref dl),some (.int (j:Int)),some hv,none,none,none]/\Same H9 H'/\HS K H' hv h/\GoodK h x.kt x.kg/\V0 h/\HG 40 x.kt x.kg h,?_,?_⟩
  ·refine b0V (a:=1+(j:Int) % 5) (b:=1+(j:Int)*3 % 7) (kt:=x.kt) (kg:=x.kg) (λ H1 Q1 e1 hq=>⟨_,rfl,_,_,rfl,rfl,(by show (0:Int)<5; decide),_,_,rfl,rfl,hq⟩) (λ H1 Q1 e1 hq=>⟨_,rfl,ca,_,0,_,rfl,rfl,SqL.of (e1 _ _ st9.c),rfl,ca0,_,0,_,rfl,rfl,SqT.of (e1 _ _ st9.t0),rfl,hq⟩) (λ H1 Q1 e1 hq=>⟨_,rfl,_,_,rfl,rfl,.inr ⟨by decide,by decide⟩,_,_,rfl,rfl,(by show (0:Int)<7; decide),_,_,rfl,rfl,hq⟩) (λ H1 Q1 e1 hq=>⟨_,rfl,ca,_,0,_,rfl,rfl,SqL.of (e1 _ _ st9.c),rfl,ca0,_,1,_,rfl,rfl,SqT.of (e1 _ _ st9.t0),rfl,hq⟩) ss.fx.t1 ss.fx.t4 ss.gx ss.fx.g4 (λ v H10 e10 hv=>?_)
   obtain ⟨gk,sk⟩:=a9L (a:=1+(j:Int) % 5) (b:=1+(j:Int)*3 % 7) (kt:=x.kt) (kg:=x.kg) (by omega) (by omega) (by omega) (by omega) ss.gx ss.fx.t4 ss.fx.g4;have g0:=gk.hg;exact ⟨v,_,rfl,e10,hv,gk,sk,⟨g0.lt,g0.lg,λ z hz=>by have:=(eH.mp hz).2; omega,λ z hz=>by have:=(eH.mp hz).2; omega,g0.p⟩⟩
  rintro _ H10 ⟨hv,h,rfl,e10,hHS,gk,sk,g40⟩;have iv10:=iv9.same e10;have st10:=st9.tr (Tr.same e10);obtain ⟨xs,hbx,hBx,h40⟩:=iv10.bx;have xl:xs.length=Sx.1.length:=Paired.length hBx;refine ⟨λ σ' H'=>σ'=[some (.ref a),some (.ref hd),some (.ref so),some (.ref ca),some (.ref sz),some (.ref bl),some (.ref dl),some (.int (j:Int)),some hv,none,none,none]/\H'=r6 H10 bx (.lst (xs++[hv])),?_,?_⟩
  ·exact ⟨_,rfl,dl,_,0,_,rfl,rfl,SqL.of st10.d,rfl,.inl ⟨rfl,_,SqL.of hbx⟩,_,rfl,bx,_,_,rfl,rfl,hbx,cC (show xs.length<=1000 by omega) small,rfl,rfl⟩
  rintro _ _ ⟨rfl,rfl⟩;have trW:Tr Ws H10 (r6 H10 bx (.lst (xs++[hv]))):=Tr.write hbx ss.wbx;have frW:Fr0 (λ b=>b=bx) H10 (r6 H10 bx (.lst (xs++[hv]))):=⟨λ b u hx h=>by rw [c9 hx]; exact h,λ z hz=>by subst hz; exact x4 hbx⟩;have koW:=iv10.kx.write (ws:=xs++[hv]) hbx ss.wbx ss.xbx;have stW:=st10.tr trW;have LW:LT Pt (r6 H10 bx (.lst (xs++[hv]))):=iv10.lt.write hbx;have hbW:r6 H10 bx (.lst (xs++[hv])) bx=some (.lst (xs++[hv])):=upd_same;have hBW:Bk K (r6 H10 bx (.lst (xs++[hv]))) (xs++[hv]) (Sx.1++[h]):=Paired.app (hBx.fr0 frW) (.cons (hHS.fr0 frW) .nil);have hHW:=hHS.fr0 frW;have upW:∀ b u,b≠bx->H10 b=some u->r6 H10 bx (.lst (xs++[hv])) b=some u:=λ b u nb h=>by rw [c9 nb]; exact h
  have alW:∀ b∈Ws,∃ vs,(r6 H10 bx (.lst (xs++[hv]))) b=some (.lst vs):=λ b hb=>by
   by_cases e:b=bx
   ·subst e; exact ⟨_,hbW⟩
   ·obtain ⟨vs,hv⟩:=iv10.al ss b hb; exact ⟨vs,upW b _ e hv⟩
  generalize r6 H10 bx (.lst (xs++[hv]))=HW at *;obtain ⟨lo,kp,nlo,okS⟩:=id koW;obtain ⟨dx,ta,wa,pv0,hp,_,hpa,_⟩:=kp.ex;have ok1:OkK x.z x.kt x.kg Sx.1:=okS Sx.1 (bN _ (.head _));have hpl':(Sx.2.map (lv x.z x.kt x.kg)).length<=1000:=by rw [aA]; omega
  refine ⟨_,rfl,bl,_,0,_,rfl,rfl,SqL.of stW.b,rfl,x.p,dx,_,rfl,hp,rfl,_,rfl,?_⟩;refine ⟨x.p,x.pa,hv,h,x.kt,x.kg,x.z,lv x.z x.kt x.kg Sx.1,Sx.2.map (lv x.z x.kt x.kg),lo,rfl,kp,ss.fx,hHW,sk,ok1.g,ok1.m,ok1.l,hpl',LW,λ _ l16 H12 ha wa' r cl u qs z KP2 sh n1 n2 lf L12 n4 hr hu n5 ch _ _=>?_,λ bad=>absurd gk bad,λ _ bad=>absurd bad (by show ¬ 16<=Sx.1.length; omega)⟩;have hG:∀ g∈Sx.1++[h],HG (10 ^ 9) x.kt x.kg g:=λ g hg=>by
   rcases aO.mp hg with hg | hg
   ·exact ok1.g g hg
   ·rw [bF.mp hg]; exact gk.hg
  have eq:=Shs.q ss.fx.z hG sh;have okn:OkK x.z x.kt x.kg (Sx.1++[h]):=⟨by simp; omega,hG,by rw [<- eq]; exact sh.1⟩;have ko12:KO K C H12 Ws x (Sx.1++[h],Sx.2++[Sx.1]):=by
   refine ⟨ha::wa'::lo,?_,λ b hb=>(a5H n1 n2 b hb).elim (nlo b) λ hn hb'=>?_,a2i okS okn⟩
   ·show KpAt _ _ _ _ _ _ _ (Sx.1++[h],O2 x.z x.kt x.kg (Sx.1++[h])) ((Sx.2++[Sx.1]).map (lv x.z x.kt x.kg)) _ _
    rw [bC,<- eq];exact KP2
   ·obtain ⟨vs,hv'⟩:=alW b hb'
    rw [hv'] at hn; cases hn
  have frC:Fr0 (λ b=>b=x.p\/b=x.pa\/b=Pt) HW H12:=⟨λ b u hx e=>lf b u (λ z=>hx (.inl z)) (λ z=>hx (.inr (.inr z))) (λ z=>hx (.inr (.inl z))) e,λ z hz=>by
   rcases hz with rfl | rfl | rfl
   ·exact L9 hp
   ·exact x4 hpa
   ·exact L6 LW⟩
  have hb12:H12 bx=some (.lst (xs++[hv])):=lf bx _ (y9 hbW hp nofun) (LW.ne hbW nofun) ss.xbx.symm hbW;obtain ⟨iv12,tr12⟩:=iv10.deed ss ko12 hb12 (hBW.fr0 frC) (λ g hg=>by
   rcases aO.mp hg with hg | hg
   ·exact h40 g hg
   ·rw [bF.mp hg]; exact g40) (λ b u m1 m2 m3 m4 h=>lf b u m1 m2 m3 (upW b u m4 h)) L12
  exact ⟨_,_,_,rfl,iv12,st10.tr tr12,b2U tr12 hSw (e10.seq hS9),by simp; omega,by simp; omega⟩
 intro σ8 H8 hM_; refine X1 λ G_ hG_=>?_; obtain ⟨o7,o8,Sx,rfl,iv8,st8,hS8,lS8⟩:=hM_; subst hG_;refine ⟨λ _ _=>True,?_,λ _ _ _=>q _⟩;obtain ⟨xs8,hbx8,_,_⟩:=iv8.bx;refine ⟨λ v H'=>∃ (cl:Addr) (cv:List V),v=.ref cl/\Same H8 H'/\H8 cl=none/\H' cl=some (.lst cv)/\(∀ v∈cv,∃ c,v=.int c)/\cv.length<=64,?_,?_⟩
 ·refine ⟨_,rfl,a,ns,1,rfl,hS8,by decide,λ c0=>?_⟩
  refine ⟨(by show 1<=sizeLine; decide),λ l0 hl0=>?_⟩;have f0':=Same.new hl0 (.lst [V.int c0]);refine ⟨_,rfl,_,rfl,_,rfl,dl,_,0,_,rfl,rfl,SqL.of (f0' _ _ st8.d),rfl,bx,xs8,rfl,.inl (SqL.of (f0' _ _ hbx8)),rfl,.inr ⟨_,rfl,_,_,rfl,rfl,.inl ⟨by decide,by decide⟩,_,_,rfl,rfl,_,rfl,a,_,rfl,f0'.seq hS8,λ l1 hl1=>?_⟩⟩;have mc0:∀ (lo hi:Option Int) v,v∈E8 (ns.map V.int) lo hi->∃ c,v=.int c:=λ lo hi v hv=>by
   obtain ⟨c,_,rfl⟩:=bA.mp (b0O hv);exact ⟨c,rfl⟩
  have lc0:∀ (lo hi:Option Int),(E8 (ns.map V.int) lo hi).length<=63:=λ lo hi=>by
   have:=W6 (ns.map V.int) lo hi;rw [aA] at this;omega
  dsimp only at hl1 ⊢;have mc:=mc0 (some 2) (some (13 - 10*if decide (V.int (xs8.length:Int)=V.int 16)=true then 1 else 0));have lc:=lc0 (some 2) (some (13 - 10*if decide (V.int (xs8.length:Int)=V.int 16)=true then 1 else 0));generalize E8 (ns.map V.int) (some 2) (some (13 - 10*if decide (V.int (xs8.length:Int)=V.int 16)=true then 1 else 0))=cs at *;have f1':=Same.new hl1 (.lst cs);refine ⟨l0,l1,_,_,rfl,rfl,f1' _ _ upd_same,upd_same,by show 1+cs.length<=sizeLine; omega,λ cl hcl=>?_⟩;have f2':=Same.new hcl (.lst ([V.int c0]++cs));refine ⟨cl,[V.int c0]++cs,rfl,f0'.trans (f1'.trans f2'),(f0'.trans f1').free hcl,upd_same,λ v hv=>?_,by simp; omega⟩;rcases aO.mp hv with z | z
  ·exact ⟨c0,bF.mp z⟩
  ·exact mc v z
 rintro _ H9 ⟨cl,cv,rfl,e8,hcl0,hcl9,mcv,lcl⟩;refine ⟨cl,rfl,⟨_,SqL.of hcl9⟩,?_⟩;have itn:∀ (i:Nat) (x:V),cv[i]?=some x->∃ c,x=.int c:=λ i x hx=>mcv x (bS hx);have ncl:cl ∉ Ws:=λ hb=>by
  obtain ⟨vs,hv⟩:=iv8.al ss cl hb;rw [hv] at hcl0; cases hcl0
 have iv9:=iv8.same e8;have st9:=st8.tr (Tr.same e8);refine a4h (xs:=cv) (λ i σ H'=>∃ o7 o8 o9 o10 o11 Sx Sy,σ=[some (.ref a),some (.ref hd),some (.ref so),some (.ref ca),some (.ref sz),some (.ref bl),some (.ref dl),o7,o8,o9,o10,o11]/\Iv K C Pt H' Ws x y bx bY Sx Sy/\St12 H' Ws x y bx bY bl dl ca sz ca0 ca1/\H' cl=some (.lst cv)/\Sx.2.length<=16+i/\Sy.2.length<=16+i)
  ⟨_,_,_,_,_,Sx,([],[]),rfl,iv9,st9,hcl9,by omega,by show 0<=16+0; omega⟩ (λ i σ H' _ ⟨_,_,_,_,_,_,_,_,_,_,h,_⟩=>SqL.of h) ?_ ?_
 rotate_left
 ·intro _ _ _; exact trivial
 rintro i xc σ H10 hx ⟨o7,o8,o9,o10,o11,Sx,Sy,rfl,iv10,st10,hcl10,lx,ly⟩;have hil:i<cv.length:=(bQ.mp hx).1;obtain ⟨c,rfl⟩:=itn i xc hx;refine ⟨λ σ' H'=>∃ (pk:Addr) (ps:List Int),σ'=[some (.ref a),some (.ref hd),some (.ref so),some (.ref ca),some (.ref sz),some (.ref bl),some (.ref dl),o7,o8,some (.int c),some (.ref pk),o11]/\Same H10 H'/\H' pk=some (.lst (ps.map V.int))/\ps.length=16/\∀ d∈ps,0<=d/\d<1000,?_,?_⟩
 ·exact ⟨_,rfl,c,16,1000,rfl,by decide,by decide,by decide,λ pk H11 ps e11 hpk lp bp=>⟨pk,ps,rfl,e11,hpk,lp,bp⟩⟩
 rintro _ H11 ⟨pk,ps,rfl,e11,hpk,lp,bp⟩;have iv11:=iv10.same e11;have st11:=st10.tr (Tr.same e11);have hcl11:=e11 _ _ hcl10;refine ⟨λ σ' H'=>∃ kk:Int,(kk=0\/kk=1)/\σ'=[some (.ref a),some (.ref hd),some (.ref so),some (.ref ca),some (.ref sz),some (.ref bl),some (.ref dl),o7,o8,some (.int c),some (.ref pk),some (.int kk)]/\H11=H',?_,?_⟩
 ·obtain ⟨v15,m15,i15⟩:=M3 (ns:=ps) (k:=15) (by decide) (by omega)
  exact ⟨_,rfl,pk,_,15,_,rfl,rfl,SqL.of hpk,i15,_,_,rfl,rfl,(by show (0:Int)<2; decide),v15 % 2,by omega,rfl,rfl⟩
 rintro _ _ ⟨kk,hkk,rfl,rfl⟩;have sel:∀ {H0:Hp} {kk:Int} {Sx Sy:KS},(kk=0\/kk=1)->Iv K C Pt H0 Ws x y bx bY Sx Sy->St12 H0 Ws x y bx bY bl dl ca sz ca0 ca1->∃ X Y bX bYY SX SY cX,((kk=0/\X=x/\Y=y/\bX=bx/\bYY=bY/\SX=Sx/\SY=Sy)\/(kk=1/\X=y/\Y=x/\bX=bY/\bYY=bx/\SX=Sy/\SY=Sx))/\Ss Ws X Y bX bYY/\Iv K C Pt H0 Ws X Y bX bYY SX SY/\Y8 [V.ref x.p,V.ref y.p] kk=some (V.ref X.p)/\Y8 [V.ref bx,V.ref bY] kk=some (V.ref bX)/\Y8 [V.ref ca0,V.ref ca1] kk=some (V.ref cX)/\Y8 [V.str x.z,V.str y.z] kk=some (V.str X.z)/\H0 cX=some (.tup [.int (X.kt:Int),.int (X.kg:Int)]):=by
  intro H0 kk Sx Sy h i s;rcases h with rfl | rfl
  ·exact ⟨x,y,bx,bY,Sx,Sy,ca0,.inl ⟨rfl,rfl,rfl,rfl,rfl,rfl,rfl⟩,ss,i,rfl,rfl,rfl,rfl,s.t0⟩
  ·exact ⟨y,x,bY,bx,Sy,Sx,ca1,.inr ⟨rfl,rfl,rfl,rfl,rfl,rfl,rfl⟩,ss.swap,i.swap,rfl,rfl,rfl,rfl,s.t1⟩
 refine ⟨λ σ' H'=>∃ Sx Sy,σ'=[some (.ref a),some (.ref hd),some (.ref so),some (.ref ca),some (.ref sz),some (.ref bl),some (.ref dl),o7,o8,some (.int c),some (.ref pk),some (.int kk)]/\Iv K C Pt H' Ws x y bx bY Sx Sy/\St12 H' Ws x y bx bY bl dl ca sz ca0 ca1/\H' cl=some (.lst cv)/\Sx.2.length<=16+(i+1)/\Sy.2.length<=16+(i+1),?_,?_⟩
 ·obtain ⟨X,Y,bX,bYY,SX,SY,cX,hk,sX,IX,iB,iD,iC,iS,hcX⟩:=sel hkk iv11 st11
  obtain ⟨xs,hbX,hBX,h40⟩:=IX.bx;have lSX:SX.2.length<=16+i:=by rcases hk with ⟨_,_,_,_,_,rfl,rfl⟩ | ⟨_,_,_,_,_,rfl,rfl⟩ <;> assumption
  refine ⟨_,rfl,_,rfl,bl,_,kk,_,rfl,rfl,SqL.of st11.b,iB,_,rfl,_,rfl,dl,_,kk,_,rfl,rfl,SqL.of st11.d,iD,_,rfl,_,rfl,ca,_,kk,_,rfl,rfl,SqL.of st11.c,iC,_,rfl,_,rfl,sz,_,kk,_,rfl,rfl,SqL.of st11.s,iS,_,rfl,?_⟩;refine ⟨X,SX,Ws,bX,cX,pk,xs,ps,rfl,IX.kx,⟨sX.wbx,sX.xbx.symm,sX.wx⟩,IX.al sX,hbX,hBX,h40,hcX,sX.fx,sX.gx,hpk,lp,bp,by omega,IX.lt,λ H12 S' xs' ko hb hB h4 hl lf L=>⟨_,rfl,a0c ?_⟩⟩;obtain ⟨iv12,tr12⟩:=IX.deed sX ko hb hB h4 lf L;have st12:=st11.tr tr12;have hcl12:=tr12.lst ncl hcl11;rcases hk with ⟨_,rfl,rfl,rfl,rfl,rfl,rfl⟩ | ⟨_,rfl,rfl,rfl,rfl,rfl,rfl⟩
  ·exact ⟨S',SY,rfl,iv12,st12,hcl12,by omega,by omega⟩
  ·exact ⟨SY,S',rfl,iv12.swap,st12,hcl12,by omega,by omega⟩
 rintro _ H12 ⟨Sx2,Sy2,rfl,iv12,st12,hcl12,lx2,ly2⟩;refine ⟨2,rfl,by omega,by omega,?_⟩;refine Z8 (n:=2) (λ j σ H'=>∃ o7,σ=[some (.ref a),some (.ref hd),some (.ref so),some (.ref ca),some (.ref sz),some (.ref bl),some (.ref dl),o7,o8,some (.int c),some (.ref pk),some (.int kk)]/\Iv K C Pt H' Ws x y bx bY Sx2 Sy2/\St12 H' Ws x y bx bY bl dl ca sz ca0 ca1/\H' cl=some (.lst cv))
  ⟨_,rfl,iv12,st12,hcl12⟩ ?_ ?_
 rotate_left
 ·rintro σ H13 ⟨o7',rfl,h1,h2,h3⟩
  exact ⟨o7',o8,_,_,_,Sx2,Sy2,rfl,h1,h2,h3,lx2,ly2⟩
 rintro j σ H13 hj ⟨o7',rfl,iv13,st13,hcl13⟩;rw [eO];obtain ⟨X,Y,bX,bYY,SX,SY,cX,hk,sX,IX,iB,iD,iC,iS,hcX⟩:=sel (kk:=(j:Int)) (by omega) iv13 st13;obtain ⟨xs,hbX,hBX,h40⟩:=IX.bx;obtain ⟨lo,kp,nlo,ok⟩:=IX.kx;refine ⟨_,rfl,_,rfl,bl,_,(j:Int),_,rfl,rfl,SqL.of st13.b,iB,_,rfl,_,rfl,dl,_,(j:Int),_,rfl,rfl,SqL.of st13.d,iD,_,rfl,_,rfl,sz,_,(j:Int),_,rfl,rfl,SqL.of st13.s,iS,?_⟩;refine ⟨X,SX,lo,bX,xs,rfl,kp,sX.fx,ok,IX.lt,hbX,hBX,λ H14 e14 L14=>⟨_,rfl,a0c ?_⟩⟩;exact ⟨_,rfl,iv13.same1 e14 L14,st13.tr (Tr.same1 iv13.lt e14),e14.get iv13.lt hcl13 nofun⟩
end
theorem all_mk {l:W.OpenLaw} {w:World} {K:W.Frag} {h:Heap} {mg:Str->Option Value} {fa:Addr} {Ct Pt:Addr} (X:K.In h) (G:h.Ns mainGlobals mg) (hfa:mg "law"=some (.ref fa))
    {f1 f2 f3 f4 f5 f6 f7 f8 f9 f10 f11 f12 f13 f14 f15 f16 f17 f18 f19 f20 f21 f22 f23 f24 f25 f26 f27 f28 f29 f30 f31 f32 f33 f34 f35 f36 f37 f38 f39 f40 f41 f42 f43 f44 CB CK dS tS0 tS1 tS2 tS3 cE_NoHouse cE_NoBook cE_RimError cE_NoRow cE_NoText cE_TooMany cE_NothingLeft:Addr} {cd1 cd2 cd3 cd4 cd5 cd7 cd8 cd9 cd10 cd11 cd12 cd13 cd14 cd15 cd16 cd17 cd18 cd19 cd20 cd21 cd22 cd23 cd24 cd25 cd26 cd27 cd28 cd29 cd30 cd31 cd32 cd33 cd34 cd35 cd36 cd37 cd38 cd39 cd40 cd41 cd42 cd43 ocL kVL dcL pmL cdL ctL:Value} {odL anL:Option Addr} {slL:Array (Option Value)} {odS0 odS1 odS2 odS3:Option Addr} {slS0 slS1 slS2 slS3:Array (Option Value)} {eS:Array DictEntry} {nS nS0 nS1 nS2 nS3:Nat} {tkA tkB tkC tkD:Tok} {tkC_MOST_AMOUNT:Tok} {tkC_MOST_HOUSES:Tok}
    (aK:W.nsIn K mainGlobals "Kept"=some (some (.ref CK)))
    (aB:W.nsIn K mainGlobals "Board"=some (some (.ref CB)))
    (a1:W.findIn K (.ref CK) "__init__"=some (some (.ref f1)))
    (l1:FunI K "__init__" "Kept.__init__" N0 f1 cd1)
    (n1:W.isFn K (.ref f1)=true)
    (a2:W.nsIn K mainGlobals "_law_cell_at"=some (some (.ref f2)))
    (l2:FunI K "_law_cell_at" "_law_cell_at" a8R f2 cd2)
    (a3:W.nsIn K mainGlobals "_law_draws"=some (some (.ref f3)))
    (l3:FunI K "_law_draws" "_law_draws" a5i f3 cd3)
    (a4:W.nsIn K mainGlobals "house_of"=some (some (.ref f4)))
    (l4:FunI K "house_of" "house_of" b2M f4 cd4)
    (a5:W.findIn K (.ref CB) "__init__"=some (some (.ref f5)))
    (l5:FunI K "__init__" "Board.__init__" a4L f5 cd5)
    (n5:W.isFn K (.ref f5)=true)
    (a6:W.findIn K (.ref CB) "coming"=some (some (.ref f6)))
    (l6:FunI K "coming" "Board.coming" a3Q f6 (.ref Ct))
    (n6:W.isFn K (.ref f6)=true)
    (a7:W.findIn K (.ref CB) "is_ahead"=some (some (.ref f7)))
    (l7:FunI K "is_ahead" "Board.is_ahead" a5t f7 cd7)
    (n7:W.isFn K (.ref f7)=true)
    (a8:W.findIn K (.ref CB) "going"=some (some (.ref f8)))
    (l8:FunI K "going" "Board.going" a5z f8 cd8)
    (n8:W.isFn K (.ref f8)=true)
    (a9:W.nsIn K mainGlobals "swept"=some (some (.ref f9)))
    (l9:FunI K "swept" "swept" a5M f9 cd9)
    (a10:W.findIn K (.ref CB) "exchange"=some (some (.ref f10)))
    (l10:FunI K "exchange" "Board.exchange" O3 f10 cd10)
    (n10:W.isFn K (.ref f10)=true)
    (a11:W.findIn K (.ref CB) "amounts"=some (some (.ref f11)))
    (l11:FunI K "amounts" "Board.amounts" a9u f11 cd11)
    (n11:W.isFn K (.ref f11)=true)
    (a12:W.findIn K (.ref CB) "weights"=some (some (.ref f12)))
    (l12:FunI K "weights" "Board.weights" b2r f12 cd12)
    (n12:W.isFn K (.ref f12)=true)
    (a13:W.nsIn K mainGlobals "greatest"=some (some (.ref f13)))
    (l13:FunI K "greatest" "greatest" M0 f13 cd13)
    (a14:W.nsIn K mainGlobals "house_rows"=some (some (.ref f14)))
    (l14:FunI K "house_rows" "house_rows" O5 f14 cd14)
    (a15:W.nsIn K mainGlobals "greatest_earned"=some (some (.ref f15)))
    (l15:FunI K "greatest_earned" "greatest_earned" Z7 f15 cd15)
    (a16:W.nsIn K mainGlobals "common_divisor"=some (some (.ref f16)))
    (l16:FunI K "common_divisor" "common_divisor" b2c f16 cd16)
    (a17:W.nsIn K mainGlobals "lowest"=some (some (.ref f17)))
    (l17:FunI K "lowest" "lowest" b1Q f17 cd17)
    (a18:W.nsIn K mainGlobals "held_against"=some (some (.ref f18)))
    (l18:FunI K "held_against" "held_against" a9A f18 cd18)
    (a19:W.nsIn K mainGlobals "share"=some (some (.ref f19)))
    (l19:FunI K "share" "share" a5y f19 cd19)
    (a20:W.findIn K (.ref CK) "turn_to"=some (some (.ref f20)))
    (l20:FunI K "turn_to" "Kept.turn_to" C7 f20 cd20)
    (n20:W.isFn K (.ref f20)=true)
    (a21:W.nsIn K mainGlobals "is_whole"=some (some (.ref f21)))
    (l21:FunI K "is_whole" "is_whole" a0r f21 cd21)
    (a22:W.nsIn K mainGlobals "are_amounts"=some (some (.ref f22)))
    (l22:FunI K "are_amounts" "are_amounts" R3 f22 cd22)
    (a23:W.nsIn K mainGlobals "is_house"=some (some (.ref f23)))
    (l23:FunI K "is_house" "is_house" a0m f23 cd23)
    (a24:W.nsIn K mainGlobals "refuse_unfit"=some (some (.ref f24)))
    (l24:FunI K "refuse_unfit" "refuse_unfit" P0 f24 cd24)
    (a25:W.nsIn K mainGlobals "with_one_more"=some (some (.ref f25)))
    (l25:FunI K "with_one_more" "with_one_more" N1 f25 cd25)
    (a26:W.nsIn K mainGlobals "changes"=some (some (.ref f26)))
    (l26:FunI K "changes" "changes" a1a f26 cd26)
    (a27:W.findIn K (.ref CK) "come"=some (some (.ref f27)))
    (l27:FunI K "come" "Kept.come" X6 f27 cd27)
    (n27:W.isFn K (.ref f27)=true)
    (a28:W.nsIn K mainGlobals "without"=some (some (.ref f28)))
    (l28:FunI K "without" "without" a2v f28 cd28)
    (a29:W.findIn K (.ref CK) "go"=some (some (.ref f29)))
    (l29:FunI K "go" "Kept.go" a1m f29 cd29)
    (n29:W.isFn K (.ref f29)=true)
    (a30:W.nsIn K mainGlobals "_law_a_kin"=some (some (.ref f30)))
    (l30:FunI K "_law_a_kin" "_law_a_kin" U0 f30 cd30)
    (a31:W.nsIn K mainGlobals "_law_tried"=some (some (.ref f31)))
    (l31:FunI K "_law_tried" "_law_tried" E7 f31 cd31)
    (a32:W.nsIn K mainGlobals "_law_due_kin"=some (some (.ref f32)))
    (l32:FunI K "_law_due_kin" "_law_due_kin" O7 f32 cd32)
    (a33:W.nsIn K mainGlobals "_law_changes"=some (some (.ref f33)))
    (l33:FunI K "_law_changes" "_law_changes" P1 f33 cd33)
    (a34:W.nsIn K mainGlobals "_law_near"=some (some (.ref f34)))
    (l34:FunI K "_law_near" "_law_near" a8o f34 cd34)
    (a35:W.nsIn K mainGlobals "_law_a_house"=some (some (.ref f35)))
    (l35:FunI K "_law_a_house" "_law_a_house" C8 f35 cd35)
    (a36:W.nsIn K mainGlobals "_law_is_good"=some (some (.ref f36)))
    (l36:FunI K "_law_is_good" "_law_is_good" O9 f36 cd36)
    (a37:W.nsIn K mainGlobals "_law_deed_right"=some (some (.ref f37)))
    (l37:FunI K "_law_deed_right" "_law_deed_right" A5 f37 cd37)
    (a38:W.nsIn K mainGlobals "greatest_floor"=some (some (.ref f38)))
    (l38:FunI K "greatest_floor" "greatest_floor" a1j f38 cd38)
    (a39:W.nsIn K mainGlobals "rim_of"=some (some (.ref f39)))
    (l39:FunI K "rim_of" "rim_of" a5c f39 cd39)
    (a40:W.findIn K (.ref CK) "houses"=some (some (.ref f40)))
    (l40:FunI K "houses" "Kept.houses" Q5 f40 cd40)
    (n40:W.isFn K (.ref f40)=true)
    (a41:W.findIn K (.ref CK) "shares"=some (some (.ref f41)))
    (l41:FunI K "shares" "Kept.shares" Q7 f41 cd41)
    (n41:W.isFn K (.ref f41)=true)
    (a42:W.findIn K (.ref CK) "rim"=some (some (.ref f42)))
    (l42:FunI K "rim" "Kept.rim" a0w f42 cd42)
    (n42:W.isFn K (.ref f42)=true)
    (a43:W.nsIn K mainGlobals "_law_told_right"=some (some (.ref f43)))
    (l43:FunI K "_law_told_right" "_law_told_right" A7 f43 cd43)
    (a44:W.nsIn K mainGlobals "law"=some (some (.ref f44)))
    (l44:K.lookup f44=some ⟨ocL,odL,.func (W.fnOf "law" "law" (F0 a0n) (w4 a0n) (i8 a0n) .none kVL dcL pmL anL cdL ctL),slL⟩)
    (c44:W.codeIn K cdL "law"=true)
    (k44:W.keepIn K (.ref f44)=true)
    (z1:W.nsIn K mainGlobals "len"=some none)
    (z2:W.nsIn K mainGlobals "all"=some none)
    (z3:W.nsIn K mainGlobals "any"=some none)
    (z4:W.nsIn K mainGlobals "max"=some none)
    (z5:W.nsIn K mainGlobals "min"=some none)
    (z6:W.nsIn K mainGlobals "sum"=some none)
    (z7:W.nsIn K mainGlobals "tuple"=some none)
    (z8:W.nsIn K mainGlobals "list"=some none)
    (z9:W.nsIn K mainGlobals "int"=some none)
    (z10:W.nsIn K mainGlobals "bool"=some none)
    (z11:W.nsIn K mainGlobals "range"=some none)
    (z12:W.nsIn K mainGlobals "isinstance"=some none)
    (z13:W.nsIn K mainGlobals "abs"=some none)
    (z14:W.nsIn K mainGlobals "zip"=some none)
    (z15:W.nsIn K mainGlobals "enumerate"=some none)
    (z16:W.nsIn K mainGlobals "ValueError"=some none)
    (z17:W.nsIn K mainGlobals "sorted"=some none)
    (bp:W.plainGet K CB Str.empty=true)
    (bh:W.hasDictIn K CB=true)
    (bo:W.plainOver K CB=true)
    (bs:W.findIn K (.ref CB) "__setattr__"=some (some (.builtin "object.__setattr__")))
    (b_many:W.findIn K (.ref CB) "many"=some none)
    (b_scale:W.findIn K (.ref CB) "scale"=some none)
    (b_cells:W.findIn K (.ref CB) "cells"=some none)
    (b_outs:W.findIn K (.ref CB) "outs"=some none)
    (b_ins:W.findIn K (.ref CB) "ins"=some none)
    (bm:W.makesIn K CB=true)
    (bk:W.keepIn K (.ref CB)=true)
    (kp:W.plainGet K CK Str.empty=true)
    (kh:W.hasDictIn K CK=true)
    (ko:W.plainOver K CK=true)
    (ks:W.findIn K (.ref CK) "__setattr__"=some (some (.builtin "object.__setattr__")))
    (k_many_takes:W.findIn K (.ref CK) "many_takes"=some none)
    (k_many_gives:W.findIn K (.ref CK) "many_gives"=some none)
    (k_sizes:W.findIn K (.ref CK) "sizes"=some none)
    (k_there:W.findIn K (.ref CK) "there"=some none)
    (k_worth:W.findIn K (.ref CK) "worth"=some none)
    (k_past:W.findIn K (.ref CK) "past"=some none)
    (km:W.makesIn K CK=true)
    (kk:W.keepIn K (.ref CK)=true)
    (s1:W.nsIn K mainGlobals "SIZE_SIGNS"=some (some (.ref dS)))
    (s3:K.lookup dS=some ⟨.type "dict",none,.dict eS nS,#[]⟩)
    (s4:W.KeysLit w.params eS.toList)
    (sa0:W.nsIn K dS "any"=some (some (.ref tS0)))
    (sb0:K.lookup tS0=some ⟨.type "tuple",odS0,.seq #[] nS0,slS0⟩)
    (sa1:W.nsIn K dS "one"=some (some (.ref tS1)))
    (sb1:K.lookup tS1=some ⟨.type "tuple",odS1,.seq #[.int 1 tkA,.int (-1) tkB] nS1,slS1⟩)
    (sa2:W.nsIn K dS "less"=some (some (.ref tS2)))
    (sb2:K.lookup tS2=some ⟨.type "tuple",odS2,.seq #[.int (-1) tkC] nS2,slS2⟩)
    (sa3:W.nsIn K dS "more"=some (some (.ref tS3)))
    (sb3:K.lookup tS3=some ⟨.type "tuple",odS3,.seq #[.int 1 tkD] nS3,slS3⟩)
    (xmNoHouse:W.nsIn K mainGlobals "NoHouse"=some (some (.ref cE_NoHouse)))
    (xoNoHouse:W.excIn K cE_NoHouse [.type "ValueError",.type "Exception",.type "BaseException",.type "object"] "ValueError.__new__"=true)
    (xgaNoHouse:W.findIn K (.ref cE_NoHouse) "__getattribute__"=some (some (.builtin "BaseException.__getattribute__")))
    (xgnNoHouse:W.findIn K (.ref cE_NoHouse) "__getattr__"=some none)
    (xcaNoHouse:W.findIn K (.ref cE_NoHouse) "__class__"=some (some (.builtin "object.__class__")))
    (xmoNoHouse:W.mroIn K cE_NoHouse (.type "object")=some true)
    (xmbNoHouse:W.mroIn K cE_NoHouse (.type "BaseException")=some true)
    (xmNoBook:W.nsIn K mainGlobals "NoBook"=some (some (.ref cE_NoBook)))
    (xoNoBook:W.excIn K cE_NoBook [.type "ValueError",.type "Exception",.type "BaseException",.type "object"] "ValueError.__new__"=true)
    (xgaNoBook:W.findIn K (.ref cE_NoBook) "__getattribute__"=some (some (.builtin "BaseException.__getattribute__")))
    (xgnNoBook:W.findIn K (.ref cE_NoBook) "__getattr__"=some none)
    (xcaNoBook:W.findIn K (.ref cE_NoBook) "__class__"=some (some (.builtin "object.__class__")))
    (xmoNoBook:W.mroIn K cE_NoBook (.type "object")=some true)
    (xmbNoBook:W.mroIn K cE_NoBook (.type "BaseException")=some true)
    (xmRimError:W.nsIn K mainGlobals "RimError"=some (some (.ref cE_RimError)))
    (xoRimError:W.excIn K cE_RimError [.type "ValueError",.type "Exception",.type "BaseException",.type "object"] "ValueError.__new__"=true)
    (xgaRimError:W.findIn K (.ref cE_RimError) "__getattribute__"=some (some (.builtin "BaseException.__getattribute__")))
    (xgnRimError:W.findIn K (.ref cE_RimError) "__getattr__"=some none)
    (xcaRimError:W.findIn K (.ref cE_RimError) "__class__"=some (some (.builtin "object.__class__")))
    (xmoRimError:W.mroIn K cE_RimError (.type "object")=some true)
    (xmbRimError:W.mroIn K cE_RimError (.type "BaseException")=some true)
    (xmNoRow:W.nsIn K mainGlobals "NoRow"=some (some (.ref cE_NoRow)))
    (xoNoRow:W.excIn K cE_NoRow [.type "ValueError",.type "Exception",.type "BaseException",.type "object"] "ValueError.__new__"=true)
    (xgaNoRow:W.findIn K (.ref cE_NoRow) "__getattribute__"=some (some (.builtin "BaseException.__getattribute__")))
    (xgnNoRow:W.findIn K (.ref cE_NoRow) "__getattr__"=some none)
    (xcaNoRow:W.findIn K (.ref cE_NoRow) "__class__"=some (some (.builtin "object.__class__")))
    (xmoNoRow:W.mroIn K cE_NoRow (.type "object")=some true)
    (xmbNoRow:W.mroIn K cE_NoRow (.type "BaseException")=some true)
    (xmNoText:W.nsIn K mainGlobals "NoText"=some (some (.ref cE_NoText)))
    (xoNoText:W.excIn K cE_NoText [.type "ValueError",.type "Exception",.type "BaseException",.type "object"] "ValueError.__new__"=true)
    (xgaNoText:W.findIn K (.ref cE_NoText) "__getattribute__"=some (some (.builtin "BaseException.__getattribute__")))
    (xgnNoText:W.findIn K (.ref cE_NoText) "__getattr__"=some none)
    (xcaNoText:W.findIn K (.ref cE_NoText) "__class__"=some (some (.builtin "object.__class__")))
    (xmoNoText:W.mroIn K cE_NoText (.type "object")=some true)
    (xmbNoText:W.mroIn K cE_NoText (.type "BaseException")=some true)
    (xmTooMany:W.nsIn K mainGlobals "TooMany"=some (some (.ref cE_TooMany)))
    (xoTooMany:W.excIn K cE_TooMany [.type "ValueError",.type "Exception",.type "BaseException",.type "object"] "ValueError.__new__"=true)
    (xgaTooMany:W.findIn K (.ref cE_TooMany) "__getattribute__"=some (some (.builtin "BaseException.__getattribute__")))
    (xgnTooMany:W.findIn K (.ref cE_TooMany) "__getattr__"=some none)
    (xcaTooMany:W.findIn K (.ref cE_TooMany) "__class__"=some (some (.builtin "object.__class__")))
    (xmoTooMany:W.mroIn K cE_TooMany (.type "object")=some true)
    (xmbTooMany:W.mroIn K cE_TooMany (.type "BaseException")=some true)
    (xmNothingLeft:W.nsIn K mainGlobals "NothingLeft"=some (some (.ref cE_NothingLeft)))
    (xoNothingLeft:W.excIn K cE_NothingLeft [.type "ValueError",.type "Exception",.type "BaseException",.type "object"] "ValueError.__new__"=true)
    (xgaNothingLeft:W.findIn K (.ref cE_NothingLeft) "__getattribute__"=some (some (.builtin "BaseException.__getattribute__")))
    (xgnNothingLeft:W.findIn K (.ref cE_NothingLeft) "__getattr__"=some none)
    (xcaNothingLeft:W.findIn K (.ref cE_NothingLeft) "__class__"=some (some (.builtin "object.__class__")))
    (xmoNothingLeft:W.mroIn K cE_NothingLeft (.type "object")=some true)
    (xmbNothingLeft:W.mroIn K cE_NothingLeft (.type "BaseException")=some true)
    (cmMOST_AMOUNT:W.nsIn K mainGlobals "MOST_AMOUNT"=some (some (.int 1000000000 tkC_MOST_AMOUNT)))
    (cmMOST_HOUSES:W.nsIn K mainGlobals "MOST_HOUSES"=some (some (.int 16 tkC_MOST_HOUSES)))
    (eSub_NoHouse:W.mroIn K cE_NoHouse (.ref cE_RimError)=some true)
    (eI_NoHouse_NoBook:W.kitOne K (.ref cE_NoHouse) (.ref cE_NoBook)=some false)
    (eI_NoHouse_NoRow:W.kitOne K (.ref cE_NoHouse) (.ref cE_NoRow)=some false)
    (eI_NoHouse_NoText:W.kitOne K (.ref cE_NoHouse) (.ref cE_NoText)=some false)
    (eI_NoHouse_TooMany:W.kitOne K (.ref cE_NoHouse) (.ref cE_TooMany)=some false)
    (eI_NoHouse_NothingLeft:W.kitOne K (.ref cE_NoHouse) (.ref cE_NothingLeft)=some false)
    (eIV_NoHouse:W.kitOne K (.ref cE_NoHouse) (.type "ValueError")=some true)
    (eSub_NoBook:W.mroIn K cE_NoBook (.ref cE_RimError)=some true)
    (eI_NoBook_NoHouse:W.kitOne K (.ref cE_NoBook) (.ref cE_NoHouse)=some false)
    (eI_NoBook_NoRow:W.kitOne K (.ref cE_NoBook) (.ref cE_NoRow)=some false)
    (eI_NoBook_NoText:W.kitOne K (.ref cE_NoBook) (.ref cE_NoText)=some false)
    (eI_NoBook_TooMany:W.kitOne K (.ref cE_NoBook) (.ref cE_TooMany)=some false)
    (eI_NoBook_NothingLeft:W.kitOne K (.ref cE_NoBook) (.ref cE_NothingLeft)=some false)
    (eIV_NoBook:W.kitOne K (.ref cE_NoBook) (.type "ValueError")=some true)
    (eSub_TooMany:W.mroIn K cE_TooMany (.ref cE_RimError)=some true)
    (eI_TooMany_NoBook:W.kitOne K (.ref cE_TooMany) (.ref cE_NoBook)=some false)
    (eI_TooMany_NoHouse:W.kitOne K (.ref cE_TooMany) (.ref cE_NoHouse)=some false)
    (eI_TooMany_NoRow:W.kitOne K (.ref cE_TooMany) (.ref cE_NoRow)=some false)
    (eI_TooMany_NoText:W.kitOne K (.ref cE_TooMany) (.ref cE_NoText)=some false)
    (eI_TooMany_NothingLeft:W.kitOne K (.ref cE_TooMany) (.ref cE_NothingLeft)=some false)
    (eIV_TooMany:W.kitOne K (.ref cE_TooMany) (.type "ValueError")=some true)
   :∃ fd:FuncData,(∀ (s:Shared) (v:Value),BindsTo s fd ⟨[v],[]⟩ [("script",v)])/\∀ base:Heap,K.In base->base.Ns mainGlobals mg->T9 mg base->(∀ t∈[(Ct,Pt)],W.CodeHd base t.1 t.2)->FnOk l.prog w K mg base E4 13 fa fd ["script"] (a6L K Pt):=by
  have e:=hfa.symm.trans (W.mg_of X G a44)
  cases e;obtain ⟨_,F1,hc1,k1⟩:=l1.fn;obtain ⟨_,F2,hc2,k2⟩:=l2.fn;obtain ⟨_,F3,hc3,k3⟩:=l3.fn;obtain ⟨_,F4,hc4,k4⟩:=l4.fn;obtain ⟨_,F5,hc5,k5⟩:=l5.fn;obtain ⟨_,F6,hc6,k6⟩:=l6.fn;obtain ⟨_,F7,hc7,k7⟩:=l7.fn;obtain ⟨_,F8,hc8,k8⟩:=l8.fn;obtain ⟨_,F9,hc9,k9⟩:=l9.fn;obtain ⟨_,F10,hc10,k10⟩:=l10.fn;obtain ⟨_,F11,hc11,k11⟩:=l11.fn;obtain ⟨_,F12,hc12,k12⟩:=l12.fn;obtain ⟨_,F13,hc13,k13⟩:=l13.fn;obtain ⟨_,F14,hc14,k14⟩:=l14.fn;obtain ⟨_,F15,hc15,k15⟩:=l15.fn;obtain ⟨_,F16,hc16,k16⟩:=l16.fn;obtain ⟨_,F17,hc17,k17⟩:=l17.fn;obtain ⟨_,F18,hc18,k18⟩:=l18.fn;obtain ⟨_,F19,hc19,k19⟩:=l19.fn;obtain ⟨_,F20,hc20,k20⟩:=l20.fn;obtain ⟨_,F21,hc21,k21⟩:=l21.fn;obtain ⟨_,F22,hc22,k22⟩:=l22.fn;obtain ⟨_,F23,hc23,k23⟩:=l23.fn;obtain ⟨_,F24,hc24,k24⟩:=l24.fn;obtain ⟨_,F25,hc25,k25⟩:=l25.fn;obtain ⟨_,F26,hc26,k26⟩:=l26.fn;obtain ⟨_,F27,hc27,k27⟩:=l27.fn;obtain ⟨_,F28,hc28,k28⟩:=l28.fn;obtain ⟨_,F29,hc29,k29⟩:=l29.fn;obtain ⟨_,F30,hc30,k30⟩:=l30.fn;obtain ⟨_,F31,hc31,k31⟩:=l31.fn;obtain ⟨_,F32,hc32,k32⟩:=l32.fn;obtain ⟨_,F33,hc33,k33⟩:=l33.fn;obtain ⟨_,F34,hc34,k34⟩:=l34.fn;obtain ⟨_,F35,hc35,k35⟩:=l35.fn;obtain ⟨_,F36,hc36,k36⟩:=l36.fn;obtain ⟨_,F37,hc37,k37⟩:=l37.fn;obtain ⟨_,F38,hc38,k38⟩:=l38.fn;obtain ⟨_,F39,hc39,k39⟩:=l39.fn;obtain ⟨_,F40,hc40,k40⟩:=l40.fn;obtain ⟨_,F41,hc41,k41⟩:=l41.fn;obtain ⟨_,F42,hc42,k42⟩:=l42.fn;obtain ⟨_,F43,hc43,k43⟩:=l43.fn;have F44:=a8y (st:=a0n) l44 c44 k44;have b1:Binds K _ ["self","takes","gives","sizes"] []:=F1.b4 λ _ _ _ _ _ _ _ _ _ _=>rfl;have b2:Binds K _ ["script","k"] []:=F2.b2 λ _ _ _ _ _ _ _ _=>rfl;have b3:Binds K _ ["cell","many","base"] []:=F3.b3 λ _ _ _ _ _ _ _ _ _=>rfl;have b4:Binds K _ ["book","number"] []:=F4.b2 λ _ _ _ _ _ _ _ _=>rfl;have b5:Binds K _ ["self","goal","rows","bounds"] []:=F5.b4 λ _ _ _ _ _ _ _ _ _ _=>rfl;have b6:Binds K _ ["self"] []:=F6.b1 λ _ _ _ _ _ _ _=>rfl;have b7:Binds K _ ["self","row","other","column"] []:=F7.b4 λ _ _ _ _ _ _ _ _ _ _=>rfl;have b8:Binds K _ ["self","column"] []:=F8.b2 λ _ _ _ _ _ _ _ _=>rfl;have b9:Binds K _ ["cells","lead","column","scale"] []:=F9.b4 λ _ _ _ _ _ _ _ _ _ _=>rfl;have b10:Binds K _ ["self","row","column"] []:=F10.b3 λ _ _ _ _ _ _ _ _ _=>rfl;have b11:Binds K _ ["self"] []:=F11.b1 λ _ _ _ _ _ _ _=>rfl;have b12:Binds K _ ["self"] []:=F12.b1 λ _ _ _ _ _ _ _=>rfl;have b13:Binds K _ ["goal","rows","bounds"] []:=F13.b3 λ _ _ _ _ _ _ _ _ _=>rfl;have b14:Binds K _ ["houses","sizes"] []:=F14.b2 λ _ _ _ _ _ _ _ _=>rfl;have b15:Binds K _ ["houses","house","sizes"] []:=F15.b3 λ _ _ _ _ _ _ _ _ _=>rfl;have b16:Binds K _ ["one","other"] []:=F16.b2 λ _ _ _ _ _ _ _ _=>rfl;have b17:Binds K _ ["top","bottom"] []:=F17.b2 λ _ _ _ _ _ _ _ _=>rfl;have b18:Binds K _ ["houses","house","sizes"] []:=F18.b3 λ _ _ _ _ _ _ _ _ _=>rfl;have b19:Binds K _ ["book","number","sizes"] []:=F19.b3 λ _ _ _ _ _ _ _ _ _=>rfl;have b20:Binds K _ ["self","houses"] []:=F20.b2 λ _ _ _ _ _ _ _ _=>rfl;have b21:Binds K _ ["thing"] []:=F21.b1 λ _ _ _ _ _ _ _=>rfl;have b22:Binds K _ ["thing","many","least"] []:=F22.b3 λ _ _ _ _ _ _ _ _ _=>rfl;have b23:Binds K _ ["thing","many_takes","many_gives"] []:=F23.b3 λ _ _ _ _ _ _ _ _ _=>rfl;have b24:Binds K _ ["thing","many_takes","many_gives"] []:=F24.b3 λ _ _ _ _ _ _ _ _ _=>rfl;have b25:Binds K _ ["houses","house","many_takes","many_gives"] []:=F25.b4 λ _ _ _ _ _ _ _ _ _ _=>rfl;have b26:Binds K _ ["ahead","behind"] []:=F26.b2 λ _ _ _ _ _ _ _ _=>rfl;have b27:Binds K _ ["self","house"] []:=F27.b2 λ _ _ _ _ _ _ _ _=>rfl;have b28:Binds K _ ["houses","number"] []:=F28.b2 λ _ _ _ _ _ _ _ _=>rfl;have b29:Binds K _ ["self","number"] []:=F29.b2 λ _ _ _ _ _ _ _ _=>rfl;have b30:Binds K _ ["e"] []:=F30.b1 λ _ _ _ _ _ _ _=>rfl;have b31:Binds K _ ["kept","word","thing"] []:=F31.b3 λ _ _ _ _ _ _ _ _ _=>rfl;have b32:Binds K _ ["name"] []:=F32.b1 λ _ _ _ _ _ _ _=>rfl;have b33:Binds K _ ["was","now"] []:=F33.b2 λ _ _ _ _ _ _ _ _=>rfl;have b34:Binds K _ ["house","picks","far"] []:=F34.b3 λ _ _ _ _ _ _ _ _ _=>rfl;have b35:Binds K _ ["book","counts","picks"] []:=F35.b3 λ _ _ _ _ _ _ _ _ _=>rfl;have b36:Binds K _ ["house","counts"] []:=F36.b2 λ _ _ _ _ _ _ _ _=>rfl;have b37:Binds K _ ["kept","book","counts","sizes","picks"] []:=F37.b5 λ _ _ _ _ _ _ _ _ _ _ _=>rfl;have b38:Binds K _ ["houses","number","sizes"] []:=F38.b3 λ _ _ _ _ _ _ _ _ _=>rfl;have b39:Binds K _ ["book","sizes"] []:=F39.b2 λ _ _ _ _ _ _ _ _=>rfl;have b40:Binds K _ ["self"] []:=F40.b1 λ _ _ _ _ _ _ _=>rfl;have b41:Binds K _ ["self"] []:=F41.b1 λ _ _ _ _ _ _ _=>rfl;have b42:Binds K _ ["self"] []:=F42.b1 λ _ _ _ _ _ _ _=>rfl;have b43:Binds K _ ["kept","book","sizes"] []:=F43.b3 λ _ _ _ _ _ _ _ _ _=>rfl;have T:x5 mg:=⟨W.mg_none_of X G z1,W.mg_none_of X G z2,W.mg_none_of X G z3,W.mg_none_of X G z4,W.mg_none_of X G z5,W.mg_none_of X G z6,W.mg_none_of X G z7,W.mg_none_of X G z8,W.mg_none_of X G z9,W.mg_none_of X G z10,W.mg_none_of X G z11,W.mg_none_of X G z12,W.mg_none_of X G z13,W.mg_none_of X G z14,W.mg_none_of X G z15,W.mg_none_of X G z16,W.mg_none_of X G z17⟩;have TBd:TB K CB:=⟨⟨bp,bh,bo,bs⟩,b_many,b_scale,b_cells,b_outs,b_ins⟩;have TKd:TK K CK:=⟨⟨kp,kh,ko,ks⟩,k_many_takes,k_many_gives,k_sizes,k_there,k_worth,k_past⟩;have SG:Sg K w.params mg dS:=⟨W.mg_of X G s1,⟨_,_,s3,s4⟩,λ z hz=>by
    rcases hz with rfl | rfl | rfl | rfl
    . exact ⟨_,sa0,λ H=>.inr ⟨_,_,_,sb0,rfl,rfl,(by show 0<=sizeLine; decide),.nil⟩⟩
    . exact ⟨_,sa1,λ H=>.inr ⟨_,_,_,sb1,rfl,rfl,(by show 2<=sizeLine; decide),.cons ⟨_,rfl⟩ (.cons ⟨_,rfl⟩ .nil)⟩⟩
    . exact ⟨_,sa2,λ H=>.inr ⟨_,_,_,sb2,rfl,rfl,(by show 1<=sizeLine; decide),.cons ⟨_,rfl⟩ .nil⟩⟩
    . exact ⟨_,sa3,λ H=>.inr ⟨_,_,_,sb3,rfl,rfl,(by show 1<=sizeLine; decide),.cons ⟨_,rfl⟩ .nil⟩⟩
    ⟩
  have C_MOST_AMOUNT:∃ t,mg "MOST_AMOUNT"=some (.int 1000000000 t):=⟨_,W.mg_of X G cmMOST_AMOUNT⟩;have C_MOST_HOUSES:∃ t,mg "MOST_HOUSES"=some (.int 16 t):=⟨_,W.mg_of X G cmMOST_HOUSES⟩;have k_NoHouse:V5 K cE_NoHouse:=⟨a0q xoNoHouse,xgaNoHouse,xgnNoHouse,xcaNoHouse,xmoNoHouse,xmbNoHouse⟩;have m_NoHouse:=W.mg_of X G xmNoHouse;have k_NoBook:V5 K cE_NoBook:=⟨a0q xoNoBook,xgaNoBook,xgnNoBook,xcaNoBook,xmoNoBook,xmbNoBook⟩;have m_NoBook:=W.mg_of X G xmNoBook;have k_RimError:V5 K cE_RimError:=⟨a0q xoRimError,xgaRimError,xgnRimError,xcaRimError,xmoRimError,xmbRimError⟩;have m_RimError:=W.mg_of X G xmRimError;have k_NoRow:V5 K cE_NoRow:=⟨a0q xoNoRow,xgaNoRow,xgnNoRow,xcaNoRow,xmoNoRow,xmbNoRow⟩;have m_NoRow:=W.mg_of X G xmNoRow;have k_NoText:V5 K cE_NoText:=⟨a0q xoNoText,xgaNoText,xgnNoText,xcaNoText,xmoNoText,xmbNoText⟩;have m_NoText:=W.mg_of X G xmNoText;have k_TooMany:V5 K cE_TooMany:=⟨a0q xoTooMany,xgaTooMany,xgnTooMany,xcaTooMany,xmoTooMany,xmbTooMany⟩;have m_TooMany:=W.mg_of X G xmTooMany;have k_NothingLeft:V5 K cE_NothingLeft:=⟨a0q xoNothingLeft,xgaNothingLeft,xgnNothingLeft,xcaNothingLeft,xmoNothingLeft,xmbNothingLeft⟩;have m_NothingLeft:=W.mg_of X G xmNothingLeft;have R:b0b K mg cE_RimError cE_NoBook cE_NoHouse cE_NoRow cE_NoText cE_TooMany cE_NothingLeft:=⟨m_RimError,m_NoBook,m_NoHouse,m_NoRow,m_NoText,m_TooMany,m_NothingLeft,k_RimError⟩;have M_NoHouse:a1T K cE_NoHouse cE_RimError cE_NoBook cE_NoHouse cE_NoRow cE_NoText cE_TooMany cE_NothingLeft false true false false false false:=⟨k_NoHouse,eSub_NoHouse,eI_NoHouse_NoBook,M9 _,eI_NoHouse_NoRow,eI_NoHouse_NoText,eI_NoHouse_TooMany,eI_NoHouse_NothingLeft,eIV_NoHouse⟩;have M_NoBook:a1T K cE_NoBook cE_RimError cE_NoBook cE_NoHouse cE_NoRow cE_NoText cE_TooMany cE_NothingLeft true false false false false false:=⟨k_NoBook,eSub_NoBook,M9 _,eI_NoBook_NoHouse,eI_NoBook_NoRow,eI_NoBook_NoText,eI_NoBook_TooMany,eI_NoBook_NothingLeft,eIV_NoBook⟩;have M_TooMany:a1T K cE_TooMany cE_RimError cE_NoBook cE_NoHouse cE_NoRow cE_NoText cE_TooMany cE_NothingLeft false false false false true false:=⟨k_TooMany,eSub_TooMany,eI_TooMany_NoBook,eI_TooMany_NoHouse,eI_TooMany_NoRow,eI_TooMany_NoText,M9 _,eI_TooMany_NothingLeft,eIV_TooMany⟩;refine ⟨W.fnOf "law" "law" (F0 a0n) (w4 a0n) (i8 a0n) .none kVL dcL pmL anL cdL ctL,λ s v=>.of_eq rfl,λ base _ _ BM hCH=>?_⟩;have g1:=λ n:Nat=>a9l (mg:=mg) (P:=l.prog) (w:=w) (base:=base) (n:=n) F1 TKd;have g2:=λ n:Nat=>b0d (mg:=mg) (P:=l.prog) (w:=w) (base:=base) (n:=n) F2 T;have g3:=λ n:Nat=>a8Y (mg:=mg) (P:=l.prog) (w:=w) (base:=base) (n:=n) F3 T;have g4:=λ n:Nat=>b1Y (mg:=mg) (P:=l.prog) (w:=w) (base:=base) (n:=n) F4 T k_NoHouse m_NoHouse;have g5:=λ n:Nat=>b0n (mg:=mg) (P:=l.prog) (w:=w) (base:=base) (n:=n) F5 T TBd;have g6:=λ n:Nat=>a7K (mg:=mg) (P:=l.prog) (w:=w) (base:=base) (n:=n) F6 hc6 (hCH _ (.head _)) BM T TBd;have g7:=λ n:Nat=>a7Y (mg:=mg) (P:=l.prog) (w:=w) (base:=base) (n:=n) F7 TBd;have g8:=λ n:Nat=>a8L (mg:=mg) (P:=l.prog) (w:=w) (base:=base) F8 T TBd ⟨g7 (n+0),b7,⟨a7,n7,k7⟩⟩;have g9:=λ n:Nat=>a8d (mg:=mg) (P:=l.prog) (w:=w) (base:=base) (n:=n) F9 T;have g10:=λ n:Nat=>a4M (mg:=mg) (P:=l.prog) (w:=w) (base:=base) F10 TBd ⟨g9 (n+0),b9,k9,(W.mg_of X G a9)⟩;have g11:=λ n:Nat=>b0F (mg:=mg) (P:=l.prog) (w:=w) (base:=base) (n:=n) F11 T TBd;have g12:=λ n:Nat=>b1X (mg:=mg) (P:=l.prog) (w:=w) (base:=base) (n:=n) F12 T TBd;have g13:=λ n:Nat=>a4V (mg:=mg) (P:=l.prog) (w:=w) (base:=base) F13 TBd ⟨⟨bm,a5,n5,bk⟩,g5 (n+2),b5,W.mg_of X G aB,⟨g6 (n+0),b6,⟨a6,n6,k6⟩⟩,⟨g8 (n+1),b8,⟨a8,n8,k8⟩⟩,⟨g10 (n+1),b10,⟨a10,n10,k10⟩⟩,⟨g11 (n+2),b11,⟨a11,n11,k11⟩⟩,⟨g12 (n+2),b12,⟨a12,n12,k12⟩⟩⟩;have g14:=λ n:Nat=>a3H (mg:=mg) (P:=l.prog) (w:=w) (base:=base) (n:=n) F14 T SG;have g15:=λ n:Nat=>a7i (mg:=mg) (P:=l.prog) (w:=w) (base:=base) F15 T SG ⟨g13 (n+0),b13,k13,(W.mg_of X G a13)⟩ ⟨g14 (n+4),b14,k14,(W.mg_of X G a14)⟩;have g16:=λ n:Nat=>b2k (mg:=mg) (P:=l.prog) (w:=w) (base:=base) (n:=n) F16 T;have g17:=λ n:Nat=>b2d (mg:=mg) (P:=l.prog) (w:=w) (base:=base) F17 T ⟨g16 (n+0),b16,k16,(W.mg_of X G a16)⟩;have g18:=λ n:Nat=>b0s (mg:=mg) (P:=l.prog) (w:=w) (base:=base) F18 ⟨g15 (n+0),b15,k15,(W.mg_of X G a15)⟩ ⟨g17 (n+4),b17,k17,(W.mg_of X G a17)⟩;have g19:=λ n:Nat=>a9i (mg:=mg) (P:=l.prog) (w:=w) (base:=base) F19 ⟨g4 (n+6),b4,k4,(W.mg_of X G a4)⟩ ⟨g18 (n+0),b18,k18,(W.mg_of X G a18)⟩;have g20:=λ n:Nat=>a8g (mg:=mg) (P:=l.prog) (w:=w) (base:=base) F20 T TKd ⟨g19 (n+0),b19,k19,(W.mg_of X G a19)⟩;have g21:=λ n:Nat=>a9Y (mg:=mg) (P:=l.prog) (w:=w) (base:=base) (n:=n) F21 T;have g22:=λ n:Nat=>b0o (mg:=mg) (P:=l.prog) (w:=w) (base:=base) F22 T C_MOST_AMOUNT ⟨g21 (n+0),b21,k21,(W.mg_of X G a21)⟩;have g23:=λ n:Nat=>b0a (mg:=mg) (P:=l.prog) (w:=w) (base:=base) F23 T ⟨g22 (n+0),b22,k22,(W.mg_of X G a22)⟩;have g24:=λ n:Nat=>a7Q (mg:=mg) (P:=l.prog) (w:=w) (base:=base) F24 k_NoBook m_NoBook ⟨g23 (n+0),b23,k23,(W.mg_of X G a23)⟩;have g25:=λ n:Nat=>a5j (mg:=mg) (P:=l.prog) (w:=w) (base:=base) F25 T k_TooMany m_TooMany C_MOST_HOUSES ⟨g24 (n+0),b24,k24,(W.mg_of X G a24)⟩;have g26:=λ n:Nat=>a5u (mg:=mg) (P:=l.prog) (w:=w) (base:=base) (n:=n) F26 T;have g27:=λ n:Nat=>a7Z (mg:=mg) (P:=l.prog) (w:=w) (base:=base) F27 TKd ⟨g20 (n+0),b20,⟨a20,n20,k20⟩⟩ ⟨g25 (n+4),b25,k25,(W.mg_of X G a25)⟩ ⟨g26 (n+8),b26,k26,(W.mg_of X G a26)⟩;have g28:=λ n:Nat=>a5o (mg:=mg) (P:=l.prog) (w:=w) (base:=base) F28 ⟨g4 (n+0),b4,k4,(W.mg_of X G a4)⟩;have g29:=λ n:Nat=>b2g (mg:=mg) (P:=l.prog) (w:=w) (base:=base) F29 TKd ⟨g20 (n+0),b20,⟨a20,n20,k20⟩⟩ ⟨g28 (n+7),b28,k28,(W.mg_of X G a28)⟩ ⟨g26 (n+8),b26,k26,(W.mg_of X G a26)⟩;have g30:=λ n:Nat=>a9T (mg:=mg) (P:=l.prog) (w:=w) (base:=base) (n:=n) F30 T R;have g31:=λ n:Nat=>a5e (mg:=mg) (P:=l.prog) (w:=w) (base:=base) F31 TKd R M_NoBook M_NoHouse M_TooMany ⟨g29 (n+0),b29,⟨a29,n29,k29⟩⟩ ⟨g27 (n+0),b27,⟨a27,n27,k27⟩⟩ ⟨g30 (n+9),b30,k30,(W.mg_of X G a30)⟩;have g32:=λ n:Nat=>b0I (mg:=mg) (P:=l.prog) (w:=w) (base:=base) (n:=n) F32 T;have g33:=λ n:Nat=>a8i (mg:=mg) (P:=l.prog) (w:=w) (base:=base) (n:=n) F33 T;have g34:=λ n:Nat=>b0g (mg:=mg) (P:=l.prog) (w:=w) (base:=base) (n:=n) F34 T;have g35:=λ n:Nat=>a5F (mg:=mg) (P:=l.prog) (w:=w) (base:=base) F35 T ⟨g34 (n+0),b34,k34,(W.mg_of X G a34)⟩;have g36:=λ n:Nat=>a7e (mg:=mg) (P:=l.prog) (w:=w) (base:=base) (n:=n) F36 T;have g37:=λ n:Nat=>a7R (mg:=mg) (P:=l.prog) (w:=w) (base:=base) F37 T ⟨g19 (n+3),b19,k19,(W.mg_of X G a19)⟩ ⟨g31 (n+0),b31,k31,(W.mg_of X G a31)⟩ ⟨g32 (n+10),b32,k32,(W.mg_of X G a32)⟩ ⟨g33 (n+10),b33,k33,(W.mg_of X G a33)⟩ ⟨g35 (n+9),b35,k35,(W.mg_of X G a35)⟩ ⟨g36 (n+10),b36,k36,(W.mg_of X G a36)⟩;have g38:=λ n:Nat=>a9n (mg:=mg) (P:=l.prog) (w:=w) (base:=base) F38 T ⟨g13 (n+0),b13,k13,(W.mg_of X G a13)⟩ ⟨g14 (n+4),b14,k14,(W.mg_of X G a14)⟩;have g39:=λ n:Nat=>a8J (mg:=mg) (P:=l.prog) (w:=w) (base:=base) F39 T ⟨g38 (n+0),b38,k38,(W.mg_of X G a38)⟩;have g40:=λ n:Nat=>a5q (mg:=mg) (P:=l.prog) (w:=w) (base:=base) (n:=n) F40 T TKd;have g41:=λ n:Nat=>a5p (mg:=mg) (P:=l.prog) (w:=w) (base:=base) (n:=n) F41 T TKd;have g42:=λ n:Nat=>b1f (mg:=mg) (P:=l.prog) (w:=w) (base:=base) F42 TKd ⟨g39 (n+0),b39,k39,(W.mg_of X G a39)⟩;have g43:=λ n:Nat=>a7M (mg:=mg) (P:=l.prog) (w:=w) (base:=base) F43 T TKd ⟨g19 (n+0),b19,k19,(W.mg_of X G a19)⟩ ⟨g39 (n+1),b39,k39,(W.mg_of X G a39)⟩ ⟨g40 (n+7),b40,⟨a40,n40,k40⟩⟩ ⟨g41 (n+7),b41,⟨a41,n41,k41⟩⟩ ⟨g42 (n+0),b42,⟨a42,n42,k42⟩⟩;exact b2F F44 T TKd ⟨⟨km,a1,n1,kk⟩,g1,b1,W.mg_of X G aK⟩ ⟨⟨g2 11,b2,k2,(W.mg_of X G a2)⟩,⟨g3 11,b3,k3,(W.mg_of X G a3)⟩,⟨g27 2,b27,⟨a27,n27,k27⟩⟩,⟨g37 0,b37,k37,(W.mg_of X G a37)⟩,⟨g43 3,b43,k43,(W.mg_of X G a43)⟩⟩
end Rim
def PySem.W.Fast.tw11145465106427726000:Nat:=0
def PySem.W.Fast.tw17431721634113981979:Nat:=0
def PySem.W.Fast.tw2752111975489914855:Nat:=0
def PySem.W.Fast.tw1714962663249075189:Nat:=0
def PySem.W.Fast.tw1222399621171791567:Nat:=0
def PySem.W.Fast.tw13605934582699609350:Nat:=0
def PySem.W.Fast.tw1023307734289540295:Nat:=0
def PySem.W.Fast.tw8377997688437199246:Nat:=0
def PySem.W.Fast.tw10640089334888731277:Nat:=0
def PySem.W.Fast.tw8822107373742342296:Nat:=0
def PySem.W.Fast.tw3158596578343653427:Nat:=0
def PySem.W.Fast.tw18224353023726727045:Nat:=0
def PySem.W.Fast.tw13834829647917149272:Nat:=0
def PySem.W.Fast.tw9695182524158568075:Nat:=0
def PySem.W.Fast.tw4316734179081675303:Nat:=0
def PySem.W.Fast.tw16878700779646728769:Nat:=0
def PySem.W.Fast.tw6412372702849316076:Nat:=0
def PySem.W.Fast.tw8181115126734467126:Nat:=0
def PySem.W.Fast.tw7424202360277482757:Nat:=0
def PySem.W.Fast.tw6418995561070688583:Nat:=0
def PySem.W.Fast.tw15387885959163919077:Nat:=0
def PySem.W.Fast.tw11307191457326178857:Nat:=0
def PySem.W.Fast.tw12916235780779482239:Nat:=0
def PySem.W.Fast.tw789552498298711674:Nat:=0
def PySem.W.Fast.tw15578011219249193235:Nat:=0
def PySem.W.Fast.tw13298519799873717498:Nat:=0
def PySem.W.Fast.tw12787991292552190294:Nat:=0
def PySem.W.Fast.tw1402883802682770177:Nat:=0
def PySem.W.Fast.tw15258501967407793967:Nat:=0
def PySem.W.Fast.tw4199027519977022914:Nat:=0
def PySem.W.Fast.tw3249148927289307029:Nat:=0
def PySem.W.Fast.tw15323272761741393455:Nat:=0
def PySem.W.Fast.tw7608410422788347682:Nat:=0
def PySem.W.Fast.tw1698467885289565412:Nat:=0
def PySem.W.Fast.tw15708719645852050913:Nat:=0
def PySem.W.Fast.tw16167759431060528214:Nat:=0
def PySem.W.Fast.tw13704749565295730412:Nat:=0
def PySem.W.Fast.tw15224647766076577973:Nat:=0
def PySem.W.Fast.tw10175126361680341342:Nat:=0
def PySem.W.Fast.tw5376855091500620101:Nat:=0
def PySem.W.Fast.tw1682823593201428737:Nat:=0
def PySem.W.Fast.tw5519882452295622766:Nat:=0
def PySem.W.Fast.tw5910220235738691796:Nat:=0
def PySem.W.Fast.tw16946771379544515592:Nat:=0
def PySem.W.Fast.tw710085565909208809:Nat:=0
def PySem.W.Fast.tw10810951074652027909:Nat:=0
def PySem.W.Fast.tw7633921021662391931:Nat:=0
def PySem.W.Fast.tw17150025232390388464:Nat:=0
def PySem.W.Fast.tw7384175152943610046:Nat:=0
def PySem.W.Fast.tw7499561671013797900:Nat:=0
def PySem.W.Fast.tw17644130591326681475:Nat:=0
def PySem.W.Fast.tw13204856159935553328:Nat:=0
def PySem.W.Fast.tw16230378719053456742:Nat:=0
def PySem.W.Fast.tw15855701886994408549:Nat:=0
def PySem.W.Fast.tw11950240390634265628:Nat:=0
def PySem.W.Fast.tw3496795566578790751:Nat:=0
def PySem.W.Fast.tw14544701266057231615:Nat:=0
def PySem.W.Fast.tw9290023166433069357:Nat:=0
def PySem.W.Fast.tw1764416882533747229:Nat:=0
def PySem.W.Fast.tw5059570316112422996:Nat:=0
def PySem.W.Fast.tw438624076519981566:Nat:=0
def PySem.W.Fast.tw5526440186877835840:Nat:=0
def PySem.W.Fast.tw6669930944906211053:Nat:=0
def PySem.W.Fast.tw17292166980848326750:Nat:=0
def PySem.W.Fast.tw3300617338254741482:Nat:=0
def PySem.W.Fast.tw11894490693458075724:Nat:=0
def PySem.W.Fast.tw6975220966389016972:Nat:=0
def PySem.W.Fast.tw13817031594152901470:Nat:=0
def PySem.W.Fast.tw10774821382429523014:Nat:=0
def PySem.W.Fast.tw3784181738138193047:Nat:=0
def PySem.W.Fast.tw5137156545622783336:Nat:=0
def PySem.W.Fast.tw2633671529316769230:Nat:=0
def PySem.W.Fast.tw3380924054660999843:Nat:=0
def PySem.W.Fast.tw1997847746680090563:Nat:=0
def PySem.W.Fast.tw15492257158088475164:Nat:=0
def PySem.W.Fast.tw13340135706850969156:Nat:=0
def PySem.W.Fast.tw4552124516501257341:Nat:=0
def PySem.W.Fast.tw17239146135629758990:Nat:=0
def PySem.W.Fast.tw4433117787879397413:Nat:=0
def PySem.W.Fast.tw12396329130401519630:Nat:=0
def PySem.W.Fast.tw14766077679042922298:Nat:=0
def PySem.W.Fast.tw2069047693827500765:Nat:=0
def PySem.W.Fast.tw1212567177779316126:Nat:=0
def PySem.W.Fast.tw16561214296137195633:Nat:=0
def PySem.W.Fast.tw3776187156825316557:Nat:=0
def PySem.W.Fast.tw2632544701721569167:Nat:=0
def PySem.W.Fast.tw11000842738632720995:Nat:=0
def PySem.W.Fast.tw6312610792486269073:Nat:=0
def PySem.W.Fast.tw7713576383321418898:Nat:=0
def PySem.W.Fast.tw17655272468102028779:Nat:=0
def PySem.W.Fast.tw7340667618584531480:Nat:=0
def PySem.W.Fast.tw1174745533396076473:Nat:=0
def PySem.W.Fast.tw5854870643009850478:Nat:=0
def PySem.W.Fast.tw18207795808431777492:Nat:=0
def PySem.W.Fast.tw5934947735013218838:Nat:=0
def PySem.W.Fast.tw3141858936583265399:Nat:=0
def PySem.W.Fast.tw1848096173446453385:Nat:=0
def PySem.W.Fast.tw15498232376795352974:Nat:=0
def PySem.W.Fast.tw13561629411032486490:Nat:=0
def PySem.W.Fast.tw17190670844767251794:Nat:=0
def PySem.W.Fast.tw14535659302684740654:Nat:=0
def PySem.W.Fast.tw18316586575070511475:Nat:=0
def PySem.W.Fast.tw11046339666307665641:Nat:=0
def PySem.W.Fast.tw14890805882505418451:Nat:=0
def PySem.W.Fast.tw13814324922295705447:Nat:=0
def PySem.W.Fast.tw12414289628342697594:Nat:=0
def PySem.W.Fast.tw17978857017964893392:Nat:=0
namespace Rim
open PySem L2 Fr
theorem walk {l:W.OpenLaw} {q:Program} {loose:List Str} {XP:(Str->Option Value)->Heap->Prop} {YP:World->Heap->Prop} {d:DefRec} {K:Params->W.Frag} {Ct Pt:Addr} (hn:l.most=some 63) (hdf:d.params.defaults=[])
  (hY:∀ (w:World) (h:Heap),YP w h->(K w.params).In h/\∀ t∈[(Ct,Pt)],h.get? t.2=some (W.tabObj #[]))
  (hC:∀ (w:World),∀ t∈[(Ct,Pt)],W.codeHdIn (K w.params) t.1 t.2=true/\(K w.params).lookup t.2=none)
  (F:∀ (w:World) (mg:Str->Option Value) (fa:Addr) (h:Heap),(K w.params).In h->h.Ns mainGlobals mg->mg d.name=some (.ref fa) →
   ∃ fd:FuncData,(∀ (s:Shared) (u:Value),BindsTo s fd ⟨[u],[]⟩ [("script",u)])/\∀ base:Heap,(K w.params).In base->base.Ns mainGlobals mg->T9 mg base->(∀ t∈[(Ct,Pt)],W.CodeHd base t.1 t.2)->FnOk l.prog w (K w.params) mg base E4 13 fa fd ["script"] (a6L (K w.params) Pt)) :
  W.WalkO q loose XP YP l.row.toRowW d [] (λ f vs=>iE f vs) :=
 L2.walk_ofT (n:=63) (k:=13) (x:="script") (Ts:=[(Ct,Pt)]) (CX:=λ _=>E4) (sp:=λ w=>a6L (K w.params) Pt) hn (by decide) hdf ⟨rfl,by decide,by decide⟩ hY hC F (λ _ _ a ns hl hT hS=>⟨a,ns,rfl,hS,hl,.inl (hT _ (.head _)),λ _=>rfl⟩) λ _ _ _ _ _ z=>z
end Rim
open PySem PySem.W PyProof.Rows
set_option maxRecDepth 100000 in
set_option maxHeartbeats 0 in
theorem PySem.Challenge.cw_rimhouse_k12_whole_kept_holds : PySem.Challenge.rw_rimhouse_k12_whole_kept.Holds := by
  w_on; o_law; km_head; (case hw=>w_witness2)
  k_fill
  refine' Rim.walk (l:=PySem.Challenge.rw_rimhouse_k12_whole_kept) (Ct:=_) (Pt:=184) rfl rfl ?Y ?C ?F
  case Y=>exact λ w h Y=>⟨W.km_in_of Y,λ t ht=>by rw [bF.mp ht]; exact W.km_tabs_of Y _ (.head _)⟩
  case F =>
    intro w mg fa h KX G hmg;refine' Rim.all_mk KX G hmg ?aK ?aB ?a1 ?l1 ?n1 ?a2 ?l2 ?a3 ?l3 ?a4 ?l4 ?a5 ?l5 ?n5 ?a6 ?l6 ?n6 ?a7 ?l7 ?n7 ?a8 ?l8 ?n8 ?a9 ?l9 ?a10 ?l10 ?n10 ?a11 ?l11 ?n11 ?a12 ?l12 ?n12 ?a13 ?l13 ?a14 ?l14 ?a15 ?l15 ?a16 ?l16 ?a17 ?l17 ?a18 ?l18 ?a19 ?l19 ?a20 ?l20 ?n20 ?a21 ?l21 ?a22 ?l22 ?a23 ?l23 ?a24 ?l24 ?a25 ?l25 ?a26 ?l26 ?a27 ?l27 ?n27 ?a28 ?l28 ?a29 ?l29 ?n29 ?a30 ?l30 ?a31 ?l31 ?a32 ?l32 ?a33 ?l33 ?a34 ?l34 ?a35 ?l35 ?a36 ?l36 ?a37 ?l37 ?a38 ?l38 ?a39 ?l39 ?a40 ?l40 ?n40 ?a41 ?l41 ?n41 ?a42 ?l42 ?n42 ?a43 ?l43 ?a44 ?l44 ?c44 ?k44 ?z1 ?z2 ?z3 ?z4 ?z5 ?z6 ?z7 ?z8 ?z9 ?z10 ?z11 ?z12 ?z13 ?z14 ?z15 ?z16 ?z17 ?bp ?bh ?bo ?bs ?b_many ?b_scale ?b_cells ?b_outs ?b_ins ?bm ?bk ?kp ?kh ?ko ?ks ?k_many_takes ?k_many_gives ?k_sizes ?k_there ?k_worth ?k_past ?km ?kk ?s1 ?s3 ?s4 ?sa0 ?sb0 ?sa1 ?sb1 ?sa2 ?sb2 ?sa3 ?sb3 ?xmNoHouse ?xoNoHouse ?xgaNoHouse ?xgnNoHouse ?xcaNoHouse ?xmoNoHouse ?xmbNoHouse ?xmNoBook ?xoNoBook ?xgaNoBook ?xgnNoBook ?xcaNoBook ?xmoNoBook ?xmbNoBook ?xmRimError ?xoRimError ?xgaRimError ?xgnRimError ?xcaRimError ?xmoRimError ?xmbRimError ?xmNoRow ?xoNoRow ?xgaNoRow ?xgnNoRow ?xcaNoRow ?xmoNoRow ?xmbNoRow ?xmNoText ?xoNoText ?xgaNoText ?xgnNoText ?xcaNoText ?xmoNoText ?xmbNoText ?xmTooMany ?xoTooMany ?xgaTooMany ?xgnTooMany ?xcaTooMany ?xmoTooMany ?xmbTooMany ?xmNothingLeft ?xoNothingLeft ?xgaNothingLeft ?xgnNothingLeft ?xcaNothingLeft ?xmoNothingLeft ?xmbNothingLeft ?cmMOST_AMOUNT ?cmMOST_HOUSES ?eSub_NoHouse ?eI_NoHouse_NoBook ?eI_NoHouse_NoRow ?eI_NoHouse_NoText ?eI_NoHouse_TooMany ?eI_NoHouse_NothingLeft ?eIV_NoHouse ?eSub_NoBook ?eI_NoBook_NoHouse ?eI_NoBook_NoRow ?eI_NoBook_NoText ?eI_NoBook_TooMany ?eI_NoBook_NothingLeft ?eIV_NoBook ?eSub_TooMany ?eI_TooMany_NoBook ?eI_TooMany_NoHouse ?eI_TooMany_NoRow ?eI_TooMany_NoText ?eI_TooMany_NothingLeft ?eIV_TooMany
    (case aK=>k_is)
    (case aB=>k_is)
    (case a1=>k_is)
    (case l1=>(refine' L2.fun_in ?l ?c ?k; (case l=>k_is); (case c=>k_is); (case k=>k_is)))
    (case n1=>k_is)
    (case a2=>k_is)
    (case l2=>(refine' L2.fun_in ?l ?c ?k; (case l=>k_is); (case c=>k_is); (case k=>k_is)))
    (case a3=>k_is)
    (case l3=>(refine' L2.fun_in ?l ?c ?k; (case l=>k_is); (case c=>k_is); (case k=>k_is)))
    (case a4=>k_is)
    (case l4=>(refine' L2.fun_in ?l ?c ?k; (case l=>k_is); (case c=>k_is); (case k=>k_is)))
    (case a5=>k_is)
    (case l5=>(refine' L2.fun_in ?l ?c ?k; (case l=>k_is); (case c=>k_is); (case k=>k_is)))
    (case n5=>k_is)
    (case a6=>k_is)
    (case l6=>(refine' L2.fun_in ?l ?c ?k; (case l=>k_is); (case c=>k_is); (case k=>k_is)))
    (case n6=>k_is)
    (case a7=>k_is)
    (case l7=>(refine' L2.fun_in ?l ?c ?k; (case l=>k_is); (case c=>k_is); (case k=>k_is)))
    (case n7=>k_is)
    (case a8=>k_is)
    (case l8=>(refine' L2.fun_in ?l ?c ?k; (case l=>k_is); (case c=>k_is); (case k=>k_is)))
    (case n8=>k_is)
    (case a9=>k_is)
    (case l9=>(refine' L2.fun_in ?l ?c ?k; (case l=>k_is); (case c=>k_is); (case k=>k_is)))
    (case a10=>k_is)
    (case l10=>(refine' L2.fun_in ?l ?c ?k; (case l=>k_is); (case c=>k_is); (case k=>k_is)))
    (case n10=>k_is)
    (case a11=>k_is)
    (case l11=>(refine' L2.fun_in ?l ?c ?k; (case l=>k_is); (case c=>k_is); (case k=>k_is)))
    (case n11=>k_is)
    (case a12=>k_is)
    (case l12=>(refine' L2.fun_in ?l ?c ?k; (case l=>k_is); (case c=>k_is); (case k=>k_is)))
    (case n12=>k_is)
    (case a13=>k_is)
    (case l13=>(refine' L2.fun_in ?l ?c ?k; (case l=>k_is); (case c=>k_is); (case k=>k_is)))
    (case a14=>k_is)
    (case l14=>(refine' L2.fun_in ?l ?c ?k; (case l=>k_is); (case c=>k_is); (case k=>k_is)))
    (case a15=>k_is)
    (case l15=>(refine' L2.fun_in ?l ?c ?k; (case l=>k_is); (case c=>k_is); (case k=>k_is)))
    (case a16=>k_is)
    (case l16=>(refine' L2.fun_in ?l ?c ?k; (case l=>k_is); (case c=>k_is); (case k=>k_is)))
    (case a17=>k_is)
    (case l17=>(refine' L2.fun_in ?l ?c ?k; (case l=>k_is); (case c=>k_is); (case k=>k_is)))
    (case a18=>k_is)
    (case l18=>(refine' L2.fun_in ?l ?c ?k; (case l=>k_is); (case c=>k_is); (case k=>k_is)))
    (case a19=>k_is)
    (case l19=>(refine' L2.fun_in ?l ?c ?k; (case l=>k_is); (case c=>k_is); (case k=>k_is)))
    (case a20=>k_is)
    (case l20=>(refine' L2.fun_in ?l ?c ?k; (case l=>k_is); (case c=>k_is); (case k=>k_is)))
    (case n20=>k_is)
    (case a21=>k_is)
    (case l21=>(refine' L2.fun_in ?l ?c ?k; (case l=>k_is); (case c=>k_is); (case k=>k_is)))
    (case a22=>k_is)
    (case l22=>(refine' L2.fun_in ?l ?c ?k; (case l=>k_is); (case c=>k_is); (case k=>k_is)))
    (case a23=>k_is)
    (case l23=>(refine' L2.fun_in ?l ?c ?k; (case l=>k_is); (case c=>k_is); (case k=>k_is)))
    (case a24=>k_is)
    (case l24=>(refine' L2.fun_in ?l ?c ?k; (case l=>k_is); (case c=>k_is); (case k=>k_is)))
    (case a25=>k_is)
    (case l25=>(refine' L2.fun_in ?l ?c ?k; (case l=>k_is); (case c=>k_is); (case k=>k_is)))
    (case a26=>k_is)
    (case l26=>(refine' L2.fun_in ?l ?c ?k; (case l=>k_is); (case c=>k_is); (case k=>k_is)))
    (case a27=>k_is)
    (case l27=>(refine' L2.fun_in ?l ?c ?k; (case l=>k_is); (case c=>k_is); (case k=>k_is)))
    (case n27=>k_is)
    (case a28=>k_is)
    (case l28=>(refine' L2.fun_in ?l ?c ?k; (case l=>k_is); (case c=>k_is); (case k=>k_is)))
    (case a29=>k_is)
    (case l29=>(refine' L2.fun_in ?l ?c ?k; (case l=>k_is); (case c=>k_is); (case k=>k_is)))
    (case n29=>k_is)
    (case a30=>k_is)
    (case l30=>(refine' L2.fun_in ?l ?c ?k; (case l=>k_is); (case c=>k_is); (case k=>k_is)))
    (case a31=>k_is)
    (case l31=>(refine' L2.fun_in ?l ?c ?k; (case l=>k_is); (case c=>k_is); (case k=>k_is)))
    (case a32=>k_is)
    (case l32=>(refine' L2.fun_in ?l ?c ?k; (case l=>k_is); (case c=>k_is); (case k=>k_is)))
    (case a33=>k_is)
    (case l33=>(refine' L2.fun_in ?l ?c ?k; (case l=>k_is); (case c=>k_is); (case k=>k_is)))
    (case a34=>k_is)
    (case l34=>(refine' L2.fun_in ?l ?c ?k; (case l=>k_is); (case c=>k_is); (case k=>k_is)))
    (case a35=>k_is)
    (case l35=>(refine' L2.fun_in ?l ?c ?k; (case l=>k_is); (case c=>k_is); (case k=>k_is)))
    (case a36=>k_is)
    (case l36=>(refine' L2.fun_in ?l ?c ?k; (case l=>k_is); (case c=>k_is); (case k=>k_is)))
    (case a37=>k_is)
    (case l37=>(refine' L2.fun_in ?l ?c ?k; (case l=>k_is); (case c=>k_is); (case k=>k_is)))
    (case a38=>k_is)
    (case l38=>(refine' L2.fun_in ?l ?c ?k; (case l=>k_is); (case c=>k_is); (case k=>k_is)))
    (case a39=>k_is)
    (case l39=>(refine' L2.fun_in ?l ?c ?k; (case l=>k_is); (case c=>k_is); (case k=>k_is)))
    (case a40=>k_is)
    (case l40=>(refine' L2.fun_in ?l ?c ?k; (case l=>k_is); (case c=>k_is); (case k=>k_is)))
    (case n40=>k_is)
    (case a41=>k_is)
    (case l41=>(refine' L2.fun_in ?l ?c ?k; (case l=>k_is); (case c=>k_is); (case k=>k_is)))
    (case n41=>k_is)
    (case a42=>k_is)
    (case l42=>(refine' L2.fun_in ?l ?c ?k; (case l=>k_is); (case c=>k_is); (case k=>k_is)))
    (case n42=>k_is)
    (case a43=>k_is)
    (case l43=>(refine' L2.fun_in ?l ?c ?k; (case l=>k_is); (case c=>k_is); (case k=>k_is)))
    (case a44=>k_is)
    (case l44=>k_is)
    (case c44=>k_is)
    (case k44=>k_is)
    (case z1=>k_is)
    (case z2=>k_is)
    (case z3=>k_is)
    (case z4=>k_is)
    (case z5=>k_is)
    (case z6=>k_is)
    (case z7=>k_is)
    (case z8=>k_is)
    (case z9=>k_is)
    (case z10=>k_is)
    (case z11=>k_is)
    (case z12=>k_is)
    (case z13=>k_is)
    (case z14=>k_is)
    (case z15=>k_is)
    (case z16=>k_is)
    (case z17=>k_is)
    (case bp=>k_is)
    (case bh=>k_is)
    (case bo=>k_is)
    (case bs=>k_is)
    (case b_many=>k_is)
    (case b_scale=>k_is)
    (case b_cells=>k_is)
    (case b_outs=>k_is)
    (case b_ins=>k_is)
    (case bm=>k_is)
    (case bk=>k_is)
    (case kp=>k_is)
    (case kh=>k_is)
    (case ko=>k_is)
    (case ks=>k_is)
    (case k_many_takes=>k_is)
    (case k_many_gives=>k_is)
    (case k_sizes=>k_is)
    (case k_there=>k_is)
    (case k_worth=>k_is)
    (case k_past=>k_is)
    (case km=>k_is)
    (case kk=>k_is)
    (case s1=>k_is)
    (case s3=>k_is)
    (case s4=>k_keys)
    (case sa0=>k_is)
    (case sb0=>k_is)
    (case sa1=>k_is)
    (case sb1=>k_is)
    (case sa2=>k_is)
    (case sb2=>k_is)
    (case sa3=>k_is)
    (case sb3=>k_is)
    (case xmNoHouse=>k_is)
    (case xoNoHouse=>k_exc)
    (case xgaNoHouse=>k_is)
    (case xgnNoHouse=>k_is)
    (case xcaNoHouse=>k_is)
    (case xmoNoHouse=>k_is)
    (case xmbNoHouse=>k_is)
    (case xmNoBook=>k_is)
    (case xoNoBook=>k_exc)
    (case xgaNoBook=>k_is)
    (case xgnNoBook=>k_is)
    (case xcaNoBook=>k_is)
    (case xmoNoBook=>k_is)
    (case xmbNoBook=>k_is)
    (case xmRimError=>k_is)
    (case xoRimError=>k_exc)
    (case xgaRimError=>k_is)
    (case xgnRimError=>k_is)
    (case xcaRimError=>k_is)
    (case xmoRimError=>k_is)
    (case xmbRimError=>k_is)
    (case xmNoRow=>k_is)
    (case xoNoRow=>k_exc)
    (case xgaNoRow=>k_is)
    (case xgnNoRow=>k_is)
    (case xcaNoRow=>k_is)
    (case xmoNoRow=>k_is)
    (case xmbNoRow=>k_is)
    (case xmNoText=>k_is)
    (case xoNoText=>k_exc)
    (case xgaNoText=>k_is)
    (case xgnNoText=>k_is)
    (case xcaNoText=>k_is)
    (case xmoNoText=>k_is)
    (case xmbNoText=>k_is)
    (case xmTooMany=>k_is)
    (case xoTooMany=>k_exc)
    (case xgaTooMany=>k_is)
    (case xgnTooMany=>k_is)
    (case xcaTooMany=>k_is)
    (case xmoTooMany=>k_is)
    (case xmbTooMany=>k_is)
    (case xmNothingLeft=>k_is)
    (case xoNothingLeft=>k_exc)
    (case xgaNothingLeft=>k_is)
    (case xgnNothingLeft=>k_is)
    (case xcaNothingLeft=>k_is)
    (case xmoNothingLeft=>k_is)
    (case xmbNothingLeft=>k_is)
    (case cmMOST_AMOUNT=>k_is)
    (case cmMOST_HOUSES=>k_is)
    (case eSub_NoHouse=>k_is)
    (case eI_NoHouse_NoBook=>kit_is)
    (case eI_NoHouse_NoRow=>kit_is)
    (case eI_NoHouse_NoText=>kit_is)
    (case eI_NoHouse_TooMany=>kit_is)
    (case eI_NoHouse_NothingLeft=>kit_is)
    (case eIV_NoHouse=>kit_is)
    (case eSub_NoBook=>k_is)
    (case eI_NoBook_NoHouse=>kit_is)
    (case eI_NoBook_NoRow=>kit_is)
    (case eI_NoBook_NoText=>kit_is)
    (case eI_NoBook_TooMany=>kit_is)
    (case eI_NoBook_NothingLeft=>kit_is)
    (case eIV_NoBook=>kit_is)
    (case eSub_TooMany=>k_is)
    (case eI_TooMany_NoBook=>kit_is)
    (case eI_TooMany_NoHouse=>kit_is)
    (case eI_TooMany_NoRow=>kit_is)
    (case eI_TooMany_NoText=>kit_is)
    (case eI_TooMany_NothingLeft=>kit_is)
    (case eIV_TooMany=>kit_is)
  case C=>exact λ w t ht=>by rw [bF.mp ht]; exact ⟨by kernel_rfl,by kernel_rfl⟩
