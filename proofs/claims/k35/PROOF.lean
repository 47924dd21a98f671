import PyProof.Rows.All
import Wide.All
import OpenK.AllK
import Wide.FinOn
import Lean
import PyProof.EqAt
import PyProof.EqKinds
import PyProof.TupleCall
import PyProof.NeData
import PyProof.ZipIter
import PyProof.EnumMake
import PyProof.EnumFor
import KE.KMinKey
import KE.KUnpack
import KE.KNestM
import KE.KLam
import PySem.Challenge.RW_rimhouse_k35_whole_houses_in_another_ord
set_option Elab.async false
set_option maxHeartbeats 16000000
set_option linter.all false
set_option maxRecDepth 100000
open Array renaming length_toList->jM,toList->jN,getElem?_eq_getElem->lL
open Bool renaming false_ne_true->bX,and_eq_true->dD,eq_false_iff->dH,eq_iff_iff->fJ,false_eq_true->jZ,and_true->lI
open Classical renaming byContradiction->fV,propDecidable->lH
open False renaming elim->cZ
open ForInStep renaming yield->gQ
open Iff renaming rfl->gY
open Int renaming le_of_lt->aL,mul_comm->aV,mul_assoc->aW,toNat_natCast->bF,le_refl->bL,mul_zero->bM,mul_nonneg->cF,mul_le_mul_of_nonneg_right->cI,add_mul->cL,mul_pos->cO,emod_lt_of_pos->cU,mul_neg->cY,zero_mul->dG,add_zero->dO,one_mul->dP,mul_one->dZ,emod_nonneg->eG,lt_of_le_of_lt->eH,neg_mul->eM,mul_le_mul_of_nonneg_left->eP,natAbs_neg->eQ,le_of_dvd->eY,le_of_mul_le_mul_right->fA,zero_add->fC,natAbs_mul->fP,mul_add->fQ,mul_sub->fR,mul_eq_zero->fT,le_trans->fU,lt_of_lt_of_le->gC,gcd->gS,eq_of_mul_eq_mul_right->gT,sub_mul->gX,lt_irrefl->iC,dvd_mul_of_dvd_left->iQ,mul_ediv_cancel_left->iR,mul_ediv_cancel'->iS,toNat_of_nonneg->iW,ofNat_dvd_left->jB,lt_trans->jF,fdiv_eq_ediv_of_nonneg->jO,mul_dvd_mul_left->kH,natAbs_dvd_natAbs->kJ,mul_le_mul->kQ,natAbs_add_le->kZ,eq_ofNat_of_zero_le->lC,add_sub_cancel->lD,mul_lt_mul_of_pos_right->lM,lt_of_mul_lt_mul_right->lN
open List renaming length_map->aA,range->aD,getElem?_map->aE,getElem?_eq_getElem->aF,getD_eq_getElem?_getD->aG,replicate->aI,mem_of_getElem?->aJ,mem_map->aK,map_map->aM,length_append->aO,mem_append->aQ,mem_cons->aR,getElem?_eq_some_iff->aU,length_replicate->aX,zipWith->bB,map_append->bC,size_toArray->bD,getElem?_eq_none->bH,map_cons->bJ,getElem?_append_left->bK,mem_singleton->bN,mem_range->bO,getElem?_range->bQ,mem_cons_of_mem->bS,length_take->bU,getElem?_set_ne->bV,sum_cons->bW,not_mem_nil->bY,getElem?_append_right->bZ,getElem_mem->cD,mem_cons_self->cE,zipWith_cons_cons->cH,length_set->cJ,ext_getElem?->cK,getElem?_set_self->cM,mem_append_right->cN,map_congr_left->cP,length_range->cQ,getElem?_of_mem->cR,getElem?_replicate->cV,length_drop->cW,append_assoc->cX,cons_append->dA,mem_append_left->dC,lookup_cons->dE,mem_filter->dL,length_cons->dM,length_singleton->dN,mem_of_mem_take->dQ,mem_of_mem_drop->dR,zip->dW,all_eq_true->eD,take_of_length_le->eE,replicate_succ->eJ,length_zipWith->eL,lookup->eN,length_filter_le->eO,filterMap_cons->eV,nil_append->eX,eq_nil_of_length_eq_zero->fF,pairwise_iff_getElem->fG,set_comm->fH,map_nil->fL,range_succ->fW,mem_replicate->fZ,take_left'->gA,getElem?_take_of_lt->gF,flatten_cons->gG,length_nil->gH,nodup_cons->gK,of_mem_zip->gL,forIn_cons->gP,take_succ->gR,filter_append->gU,getElem?_drop->gW,mem_or_eq_of_mem_set->gZ,getElem?_zipWith->hU,map_take->hZ,mem_filterMap->iF,append_nil->iG,all_cons->iH,any_cons->iI,foldl->iJ,forIn_nil->iM,getElem_of_mem->iN,drop_zero->iT,map_set->iV,map_drop->iX,map->jC,drop_left'->jE,pairwise_map->jG,nodup_range->jI,length_reverse->jJ,getElem?_eq_none_iff->jL,length->jR,reverse_cons->jW,foldl_cons->jX,take_succ_eq_append_getElem->kB,zipIdx_cons->kC,zipIdx_nil->kD,range_succ_eq_map->kL,set_set->kO,filter_map->kS,mem_set->kX,dropLast_concat_getLast->lE,map_id->lG,perm_ext_iff_of_nodup->lK,length_zip->lO,getElem?_toArray->lP,mem_reverse->lR
open List.Pairwise renaming nil->mX
open List.Perm renaming eq_of_pairwise->lJ,swap->nB,trans->nD
open Nat renaming le_refl->aH,le_trans->aZ,lt_of_lt_of_le->bA,ne_of_lt->bI,lt_irrefl->cA,zero_le->cB,min_le_left->dU,le_of_lt->dX,ne_of_gt->dY,sub_self->eF,add_sub_cancel_left->eI,lt_of_le_of_lt->eK,lt_succ_self->eW,min_eq_left->eZ,pow_le_pow_right->fB,le_succ->fK,lt_succ_of_lt->fM,le_add_right->fO,not_lt_zero->gJ,succ_mul->gM,mul_comm->gN,mul_le_mul_right->iA,pow_lt_pow_right->iB,le_of_not_lt->iK,log2_lt->iO,lt_trichotomy->iU,add_assoc->iY,pow_pos->iZ,lcm->jA,max_le->jH,le_of_eq->jQ,lt_of_succ_le->kA,succ_ne_self->kF,lt_or_gt_of_ne->kM,pow_succ->kP,le_antisymm->kR,pow_add->kY,lt_trans->lF
open Ne renaming symm->aY
open Option renaming map_some->fD,getD_some->fN,map_eq_some_iff->iD,getD_none->jV,none->jY,ne_none_iff_exists'->lS
open Option.some renaming inj->aS
open Or renaming inl->aC,inr->cC
open Prod renaming ext->kK
open PyProof.Rows renaming envOfC->dB,boot_list->dI,callWith_type1->gD,boot_range->hV,boot_min->hW,boot_tuple->hX,boot_sum->jD,slot_tuple_getitem->jK,boot_int->kU,boot_max->kW,boot_sorted->lQ,callWith_builtin1->mV,callWith_kw->mY,boot_all->nA
open PyProof.Rows.Boot renaming abs->mZ
open PySem renaming boot_len->bR,Paired->cS,mem_of_lookup->gE,Within->iE,call->iL,Fin->iP
open PySem.EqMixed renaming eq_bool_str->lY,eq_int_str->mB,eq_str_bool->mG,eq_str_int->mH,ne_bool_str->mO,ne_int_str->mQ,ne_str_bool->mS,ne_str_int->mT
open PySem.EqNone renaming eq_none_none->lT,eq_none_bool->lU,eq_none_int->lV,eq_none_str->lW,eq_bool_none->lX,eq_int_none->lZ,eq_str_none->mD,ne_none_none->mI,ne_none_bool->mJ,ne_none_int->mK,ne_none_str->mL,ne_bool_none->mM,ne_int_none->mP,ne_str_none->mR
open PySem.F renaming plainAttrs_list->fE,slot_list_append->fX,type_list_append->fY,slot_tuple_add->jS,entry_tuple_add->jT,args_tuple_add_2->jU
open PySem.IsL renaming update->mW
open PySem.Within renaming cons->mU
open Sum renaming inl->eR,inr->eU
open True renaming intro->jP
namespace L2
open PySem PySem.Spec PyProof.Rows
abbrev Key:=Sum Int Str
def b2S:Key->Value->Bool
 | .inl k,v=>Value.isInt k v
 | .inr x,v=>Value.isStrOf x v
def b6o (w:World):Key->Int
 | .inl k=>hashInt k
 | .inr x=>hashStr w x
theorem C7:∀ {k:Key} {v:Value},b2S k v=true->(∃ i t,k=eR i/\v=Value.int i t)\/(∃ x t,k=eU x/\v=Value.str x t)
 | .inl i,v,h=>by
  obtain ⟨t,e⟩:=Value.isInt_shape (k:=i) (v:=v) h;exact .inl ⟨i,t,rfl,e⟩
 | .inr x,v,h=>by
  obtain ⟨t,e⟩:=Value.isStrOf_shape (x:=x) (v:=v) h;exact .inr ⟨x,t,rfl,e⟩
theorem b3x (a b:Int):decide ((eR a:Key)=eR b)=(a==b):=by
 by_cases e:a=b
 ·subst e; simp
 ·have h:¬ (eR a:Key)=eR b:=λ q=>e (Sum.inl.inj q)
  rw [decide_eq_false h];exact (beq_eq_false_iff_ne.mpr e).symm
theorem b4g (a b:Str):decide ((eU a:Key)=eU b)=decide (a=b):=by
 by_cases e:a=b
 ·subst e; simp
 ·have h:¬ (eU a:Key)=eU b:=λ q=>e (Sum.inr.inj q)
  rw [decide_eq_false h,decide_eq_false e]
theorem b3E (a:Int) (b:Str):decide ((eR a:Key)=eU b)=false:=decide_eq_false (λ q=>nomatch q)
theorem b3R (a:Str) (b:Int):decide ((eU a:Key)=eR b)=false:=decide_eq_false (λ q=>nomatch q)
def a4r (prog:Program) (w:World):PySem.KeyKind prog w Key where
 is:=b2S
 hash:=b6o w
 inj:=λ v a b ha hb=>by
  rcases C7 ha with ⟨i,t,rfl,rfl⟩ | ⟨x,t,rfl,rfl⟩
  ·rcases C7 hb with ⟨j,u,rfl,e⟩ | ⟨y,u,rfl,e⟩
   ·injection e with e1 _; rw [e1]
   ·exact nomatch e
  ·rcases C7 hb with ⟨j,u,rfl,e⟩ | ⟨y,u,rfl,e⟩
   ·exact nomatch e
   ·injection e with e1 _; rw [e1]
 byValue:=λ k v h=>by
  rcases C7 h with ⟨i,t,rfl,rfl⟩ | ⟨x,t,rfl,rfl⟩ <;> rfl
 pyHash:=λ hv h=>by
  rcases C7 hv with ⟨i,t,rfl,rfl⟩ | ⟨x,t,rfl,rfl⟩
  ·exact wpAny_pyHash_int h
  ·exact wpAny_pyHash_str h
 eqBool:=λ hu hv h=>by
  rcases C7 hu with ⟨i,t,rfl,rfl⟩ | ⟨x,t,rfl,rfl⟩
  ·rcases C7 hv with ⟨j,u,rfl,rfl⟩ | ⟨y,u,rfl,rfl⟩
   ·rw [b3x] at h; exact wpAny_eqBool_int h
   ·rw [b3E] at h; exact SeqAt.EqAt.int_str i t y u _ _ _ _ h
  ·rcases C7 hv with ⟨j,u,rfl,rfl⟩ | ⟨y,u,rfl,rfl⟩
   ·rw [b3R] at h; exact SeqAt.EqAt.str_int x t j u _ _ _ _ h
   ·rw [b4g] at h; exact wpAny_eqBool_str h
 «strs»:=λ k x t v h=>by
  rcases C7 h with ⟨i,u,rfl,e⟩ | ⟨y,u,rfl,e⟩
  ·exact nomatch e
  ·injection e with e1 _
   subst e1
   cases v <;> rfl
inductive V where
 | non | bl (b:Bool) | int (i:Int) | str (x:Str) | byt (b:Array UInt8) | flt (b:UInt64) | ref (a:Addr) | ty (n:String)
 deriving DecidableEq
def RelV:V->Value->Prop
 | .non,u=>u=Value.none
 | .bl b,u=>u=Value.bool b
 | .int i,u=>∃ t,u=Value.int i t
 | .str x,u=>∃ t,u=Value.str x t
 | .byt b,u=>∃ t,u=Value.bytes b t
 | .flt b,u=>∃ t,u=Value.float b t
 | .ref a,u=>u=Value.ref a
 | .ty n,u=>u=Value.type n
abbrev Vals:List V->List Value->Prop:=Paired RelV
theorem Vals.length {xs:List V} {us:List Value} (r:Vals xs us):xs.length=us.length:=Paired.length r
theorem Vals.get:∀ {xs:List V} {us:List Value} {i:Nat} {x:V},Vals xs us->xs[i]?=some x->∃ u,us[i]?=some u/\RelV x u
 | _,_,_,_,.nil,e=>by simp at e
 | _,_,0,_,.cons r _,e=>by simp at e; subst e; exact ⟨_,rfl,r⟩
 | _,_,i+1,x,.cons _ t,e=>by
  obtain ⟨u,h1,h2⟩:=Vals.get (i:=i) (x:=x) t (by simpa using e);exact ⟨u,by simpa using h1,h2⟩
theorem Vals.set {x:V} {u:Value} (r:RelV x u):∀ {xs:List V} {us:List Value} (i:Nat),Vals xs us->Vals (xs.set i x) (us.set i u)
 | _,_,_,.nil=>.nil
 | _,_,0,.cons _ t=>.cons r t
 | _,_,i+1,.cons q t=>.cons q (Vals.set r i t)
theorem Vals.append:∀ {xs ys:List V} {us ws:List Value},Vals xs us->Vals ys ws->Vals (xs++ys) (us++ws)
 | _,_,_,_,.nil,s=>s
 | _,_,_,_,.cons r t,s=>.cons r (Vals.append t s)
theorem Vals.take:∀ {xs:List V} {us:List Value} (n:Nat),Vals xs us->Vals (xs.take n) (us.take n)
 | _,_,0,_=>.nil
 | _,_,_+1,.nil=>.nil
 | _,_,n+1,.cons r t=>.cons r (Vals.take n t)
theorem Vals.drop:∀ {xs:List V} {us:List Value} (n:Nat),Vals xs us->Vals (xs.drop n) (us.drop n)
 | _,_,0,r=>r
 | _,_,_+1,.nil=>.nil
 | _,_,n+1,.cons _ t=>Vals.drop n t
theorem Vals.none_of:∀ {xs:List V} {us:List Value} {i:Nat},Vals xs us->xs[i]?=none->us[i]?=none:=λ {xs us i} r e=>by
 have h1:=r.length;have h2:xs.length<=i:=jL.mp e;exact jL.mpr (by omega)
def RelO:Option V->Option Value->Prop
 | some v,some u=>RelV v u
 | none,none=>True
 | _,_=>False
def KV {κ:Type}:List (κ×V)->List (κ×Value)->Prop:=Paired λ (p:κ×V) (q:κ×Value)=>p.1=q.1/\RelV p.2 q.2
def kV:Key->V
 | .inl i=>.int i
 | .inr x=>.str x
inductive HO where
  | lst (xs:List V)
  | tup (xs:List V)
  | dK (kvs:List (Key×V)) | dT (kvs:List (List Key×V))
  | set (S:Int->Bool) (n:Nat)
  | ins (C dx:Addr) (fs:List (Str×V))
  | own (x:Addr)
  | xd (fs:List (Str×V))
  | met (f x:Addr)
  | rng (lo hi:Int)
  | frz (o:Obj) (u:HO)
  | tbl (ps:Array Value)
  | ext (φ:Heap->Prop)
abbrev Hp:=Addr->Option HO
def upd (H:Hp) (a:Addr) (o:HO):Hp:=λ b=>if b=a then some o else H b
theorem upd_same {H:Hp} {a:Addr} {o:HO}:upd H a o a=some o:=by unfold upd; rw [if_pos rfl]
theorem i3 {H:Hp} {a b:Addr} {o:HO} (h:b≠a):upd H a o b=H b:=by unfold upd; rw [if_neg h]
theorem a2A {H:Hp} {a:Addr} {o u:HO}:upd (upd H a o) a u=upd H a u:=by
 funext b; unfold upd; split <;> rfl
theorem a0v {H:Hp} {a b:Addr} {o u:HO} (h:H a=some o) (h':H b=some u) (d:o≠u):a≠b:=by
 intro e; subst e; rw [h] at h'; exact d (aS h')
theorem i4 {H:Hp} {a b:Addr} {o:HO} (h:H a=some o) (h':H b=none):a≠b:=by
 intro e; subst e; rw [h] at h'; cases h'
section
variable (P:Program) (w:World)
def ObjOk (H:Hp) (h:Heap) (a:Addr):HO->Prop
 | .lst xs=>xs.length<=sizeLine/\∃ (its:List Value) (n:Nat),Vals xs its/\h.get? a=some { cls:=.type "list",data:=.seq its.toArray n }
 | .tup xs=>xs.length<=sizeLine/\∃ its:List Value,Vals xs its/\IsTup h a its.toArray
 | .dK kvs=>kvs.length<=sizeLine/\(a==sysModules)=false/\∃ vs,KV kvs vs/\h.DictOf (a4r P w) a vs
 | .dT kvs=>kvs.length<=sizeLine/\(a==sysModules)=false/\∃ xs:List (List Key×Addr×Value),
   Paired (λ (p:List Key×V) (q:List Key×Addr×Value)=>p.1=q.1/\H q.2.1=some (.tup (p.1.map kV))/\RelV p.2 q.2.2) kvs xs ∧
   ∃ o es ep,h.get? a=some o/\o.ExactDict/\o.data=.dict es ep/\es.toList=xs.map (entryOfKey (tupleKind (a4r P w)))/\(xs.map (·.1)).Nodup
 | .set S n=>h.SetOf (intKind P w) a S n
 | .ins C dx fs=>H dx=some (.own a)/\fs.length<=1000/\dx≠a/\h.get? a=some (W.instObj C dx) ∧
   ∃ mA,h.Ns1 dx mA/\(∀ f,RelO (fs.lookup f) (mA f))/\iE mA (fs.map (·.1))
 | .own _=>∃ o,h.get? a=some o
 | .xd fs=>∃ mA,h.Ns1 a mA/\∀ f,RelO (fs.lookup f) (mA f)
 | .rng lo hi=>∃ t u v,h.get? a=some { cls:=.type "range",data:=.fields #[.int lo t,.int hi u,.int 1 v] }
 | .frz o u=>h.get? a=some o/\ObjOk H h a u
 | .tbl ps=>h.get? a=some { cls:=.none,data:=.fields ps }
 | .met f x=>h.get? a=some (W.methodObj (.ref f) (.ref x))
 | .ext φ=>φ h/\(∃ o,h.get? a=some o)/\∀ h1 h2:Heap,φ h1->(∀ o,h1.get? a=some o->h2.get? a=some o)->φ h2
def HOk (H:Hp) (h:Heap):Prop:=∀ a o,H a=some o->ObjOk P w H h a o
end
section
variable {P:Program} {w:World} {H H':Hp} {h h':Heap} {a:Addr} {o:HO}
theorem ObjOk.lt (x:ObjOk P w H h a o):a<h.objs.size:=by
 cases o with
 | lst xs=>obtain ⟨_,_,_,_,e⟩:=x; exact Heap.lt_size e
 | tup xs=>obtain ⟨_,_,_,p⟩:=x; exact p.lt
 | dK kvs=>obtain ⟨_,_,_,_,o,_,_,e,_⟩:=x; exact Heap.lt_size e
 | dT kvs=>obtain ⟨_,_,_,_,o,_,_,e,_⟩:=x; exact Heap.lt_size e
 | set S n=>obtain ⟨o,_,_,_,e,_⟩:=x; exact Heap.lt_size e
 | ins C dx fs=>obtain ⟨_,_,_,e,_⟩:=x; exact Heap.lt_size e
 | own y=>obtain ⟨_,e⟩:=x; exact Heap.lt_size e
 | xd fs=>obtain ⟨_,⟨_,_,_,e,_⟩,_⟩:=x; exact Heap.lt_size e
 | rng lo hi=>obtain ⟨_,_,_,e⟩:=x; exact Heap.lt_size e
 | frz ob u=>obtain ⟨e,_⟩:=x; exact Heap.lt_size e
 | tbl ps=>exact Heap.lt_size (show h.get? a=some _ from x)
 | met f y=>exact Heap.lt_size (show h.get? a=some _ from x)
 | ext φ=>obtain ⟨_,⟨_,e⟩,_⟩:=x; exact Heap.lt_size e
theorem Paired.mapP {α β:Type} {F G:α->β->Prop}:∀ {l₁:List α} {l₂:List β},Paired F l₁ l₂->(∀ a b,F a b->G a b)->Paired G l₁ l₂
 | _,_,.nil,_=>.nil
 | _,_,.cons r t,f=>.cons (f _ _ r) (Paired.mapP t f)
theorem Paired.imp' {α β:Type} {F G:α->β->Prop} (f:∀ a b,F a b->G a b) {l₁:List α} {l₂:List β} (r:Paired F l₁ l₂):Paired G l₁ l₂:=Paired.mapP r f
theorem ObjOk.stay (x:ObjOk P w H h a o) (k:∀ b u,(b=a\/H b=some (.own a))->h.get? b=some u->h'.get? b=some u)
  (ho:∀ b,H b=some (.own a)->H' b=some (.own a)) (ht:∀ b xs,H b=some (.tup xs)->H' b=some (.tup xs)):ObjOk P w H' h' a o:=by
 induction o with
 | lst xs=>obtain ⟨z,its,n,r,e⟩:=x; exact ⟨z,its,n,r,k _ _ (.inl rfl) e⟩
 | tup xs=>obtain ⟨z,its,r,ob,e,c⟩:=x; exact ⟨z,its,r,ob,k _ _ (.inl rfl) e,c⟩
 | dK kvs=>obtain ⟨z,y,vs,r,ob,es,ep,e,c⟩:=x; exact ⟨z,y,vs,r,ob,es,ep,k _ _ (.inl rfl) e,c⟩
 | dT kvs =>
  obtain ⟨z,y,xs,r,ob,es,ep,e,c⟩:=x;exact ⟨z,y,xs,Paired.mapP r λ p q z=>⟨z.1,ht _ _ z.2.1,z.2.2⟩,ob,es,ep,k _ _ (.inl rfl) e,c⟩
 | set S n=>obtain ⟨ob,es,ep,t,e,c⟩:=x; exact ⟨ob,es,ep,t,k _ _ (.inl rfl) e,c⟩
 | ins C dx fs =>
  obtain ⟨d,z,ne,e,mA,⟨od,es,ep,e2,c⟩,r⟩:=x;exact ⟨ho _ d,z,ne,k _ _ (.inl rfl) e,mA,⟨od,es,ep,k _ _ (.inr d) e2,c⟩,r⟩
 | own y=>obtain ⟨ob,e⟩:=x; exact ⟨ob,k _ _ (.inl rfl) e⟩
 | xd fs=>obtain ⟨mA,⟨od,es,ep,e,c⟩,r⟩:=x; exact ⟨mA,⟨od,es,ep,k _ _ (.inl rfl) e,c⟩,r⟩
 | rng lo hi=>obtain ⟨t,u,v,e⟩:=x; exact ⟨t,u,v,k _ _ (.inl rfl) e⟩
 | frz ob u ih=>obtain ⟨e,q⟩:=x; exact ⟨k _ _ (.inl rfl) e,ih q⟩
 | tbl ps =>
  have e:h.get? a=some { cls:=.none,data:=.fields ps }:=x
  show h'.get? a=some { cls:=.none,data:=.fields ps }
  exact k a _ (.inl rfl) e
 | met f y =>
  have e:h.get? a=some (W.methodObj (.ref f) (.ref y)):=x
  show h'.get? a=some (W.methodObj (.ref f) (.ref y))
  exact k a _ (.inl rfl) e
 | ext φ=>obtain ⟨p,⟨o,e⟩,st⟩:=x; exact ⟨st _ _ p λ o q=>k _ _ (.inl rfl) q,⟨o,k _ _ (.inl rfl) e⟩,st⟩
theorem HOk.lt (x:HOk P w H h) (e:H a=some o):a<h.objs.size:=(x a o e).lt
theorem HOk.fresh (x:HOk P w H h) (e:h.objs.size<=a):H a=none:=by
 cases q:H a with
 | none=>rfl
 | some u=>exact absurd (bA (x.lt q) e) (cA _)
theorem HOk.kept (x:HOk P w H h) (k:∀ b u,h.get? b=some u->h'.get? b=some u):HOk P w H h':=λ a o e =>
 (x a o e).stay (λ b u _ q=>k b u q) (λ _ q=>q) λ _ _ q=>q
theorem HOk.laid (x:HOk P w H h) (k:∀ b u,h.get? b=some u->h'.get? b=some u) (hp:h.objs.size<=a) (new:ObjOk P w (upd H a o) h' a o):HOk P w (upd H a o) h':=λ b u e=>by
 have hn:=x.fresh hp
 by_cases hb:b=a
 ·subst hb; rw [upd_same] at e; cases e; exact new
 ·rw [i3 hb] at e
  exact (x b u e).stay (λ c v _ q=>k c v q) (λ c q=>by rw [i3 (i4 q hn)]; exact q) λ c xs q=>by rw [i3 (i4 q hn)]; exact q
end
def Rd (H:Hp) (a:Addr) (u:HO):Prop:=H a=some u\/∃ o,H a=some (.frz o u)
theorem Rd.ok {P:Program} {w:World} {H:Hp} {h:Heap} {a:Addr} {u:HO} (r:Rd H a u) (x:HOk P w H h):ObjOk P w H h a u:=by
 rcases r with r | ⟨o,r⟩
 ·exact x a u r
 ·obtain ⟨_,q⟩:=x a _ r
  exact q
def Mut:Option HO->Prop
 | some (.lst _)=>True
 | some (.dK _)=>True
 | some (.dT _)=>True
 | some (.set _ _)=>True
 | some (.ins _ _ _)=>True
 | some (.ext _)=>True
 | _=>False
section
variable {P:Program} {w:World} {H:Hp} {h h':Heap} {x e:Addr} {o':HO}
theorem HOk.write (ok:HOk P w H h) (mu:Mut (H x)) (he:e=x\/H e=some (.own x)) (k:∀ b u,b≠e->h.get? b=some u->h'.get? b=some u) (heo:∃ u,h'.get? e=some u)
  (new:ObjOk P w (upd H x o') h' x o'):HOk P w (upd H x o') h':=λ b u q=>by
 have nown:∀ c y,H c=some (.own y)->c≠x:=λ c y r z=>by subst z; rw [r] at mu; exact mu
 have ntup:∀ c xs,H c=some (.tup xs)->c≠x:=λ c xs r z=>by subst z; rw [r] at mu; exact mu
 by_cases hb:b=x
 ·subst hb; rw [upd_same] at q; cases q; exact new
 ·rw [i3 hb] at q
  by_cases hbe:b=e
  ·have q':H b=some (.own x):=by
    rcases he with z | z
    ·exact absurd (hbe.trans z) hb
    ·rw [hbe]; exact z
   rw [q] at q'; cases q';obtain ⟨v,hv⟩:=heo;exact ⟨v,by rw [hbe]; exact hv⟩
  ·refine (ok b u q).stay (λ c v hc r=>k c v ?_ r) (λ c r=>by rw [i3 (nown c b r)]; exact r) λ c xs r=>by rw [i3 (ntup c xs r)]; exact r
   rcases hc with rfl | hc
   ·exact hbe
   ·rintro rfl
    rcases he with z | z
    ·exact nown c b hc z
    ·rw [hc] at z; cases z; exact hb rfl
end
structure Un (fs ex:List Addr) (H H':Hp) (h h':Heap):Prop where
 keep:∀ b o,h.get? b=some o->H b=none->b ∉ fs->b ∉ ex->h'.get? b=some o
 slot:∀ b o,h.get? b=some o->H b=none->b∈fs->b ∉ ex->∃ sl,h'.get? b=some { o with slots:=sl }
 free:∀ b o,h.get? b=some o->H b=none->b ∉ ex->H' b=none
 there:∀ b o,h.get? b=some o->b ∉ ex->∃ o',h'.get? b=some o'
 tups:∀ b xs,H b=some (.tup xs)->H' b=some (.tup xs)
 frzs:∀ b o u,H b=some (.frz o u)->H' b=some (.frz o u)
 tbls:∀ b ps,H b=some (.tbl ps)->∃ more,H' b=some (.tbl (ps++more))
section
variable {fs fs' ex ex':List Addr} {H H1 H2:Hp} {h h1 h2 h':Heap} {a x e:Addr} {o:HO}
theorem Un.any (u:Un fs ex H H1 h h1) {b:Addr} {ob:Obj} (q:h.get? b=some ob) (n:H b=none) (hx:b ∉ ex):∃ sl,h1.get? b=some { ob with slots:=sl }:=by
 by_cases hb:b∈fs
 ·exact u.slot b ob q n hb hx
 ·exact ⟨ob.slots,u.keep b ob q n hb hx⟩
theorem Un.kept (k:∀ b u,h.get? b=some u->h'.get? b=some u):Un fs ex H H h h' :=
 ⟨λ b ob q _ _ _=>k b ob q,λ b ob q _ _ _=>⟨ob.slots,k b ob q⟩,λ _ _ _ n _=>n,λ b ob q _=>⟨ob,k b ob q⟩,λ _ _ q=>q,λ _ _ _ q=>q,λ _ ps q=>⟨#[],by rw [q]; simp⟩⟩
theorem Un.refl:Un fs ex H H h h:=Un.kept λ _ _ q=>q
theorem Un.laid (k:∀ b u,h.get? b=some u->h'.get? b=some u) (hp:h.objs.size<=a) (hn:H a=none):Un fs ex H (upd H a o) h h' where
 keep:=λ b u q _ _ _=>k b u q
 slot:=λ b u q _ _ _=>⟨u.slots,k b u q⟩
 free:=λ b u q n _=>by rw [i3 (bI (bA (Heap.lt_size q) hp))]; exact n
 there:=λ b u q _=>⟨u,k b u q⟩
 tups:=λ b xs q=>by rw [i3 (i4 q hn)]; exact q
 frzs:=λ b u xs q=>by rw [i3 (i4 q hn)]; exact q
 tbls:=λ b ps q=>⟨#[],by rw [i3 (i4 q hn),q]; simp⟩
theorem Un.write (mu:Mut (H x)) (he:e=x\/H e=some (.own x)) (k:∀ b u,b≠e->h.get? b=some u->h'.get? b=some u) (heo:∃ u,h'.get? e=some u):Un fs ex H (upd H x o) h h':=by
 have hx:∀ b,H b=none->b≠x:=λ b n z=>by subst z; rw [n] at mu; exact mu
 have hb:∀ b,H b=none->b≠e:=λ b n z=>by
  subst z;rcases he with r | r
  ·exact hx b n r
  ·rw [n] at r; cases r
 have hm:∀ b u,H b=some u->¬ Mut (some u)->b≠x:=λ b u q nm z=>by subst z; rw [q] at mu; exact nm mu
 refine ⟨λ b u q n _ _=>k b u (hb b n) q,λ b u q n _ _=>⟨u.slots,k b u (hb b n) q⟩,λ b u q n _=>by rw [i3 (hx b n)]; exact n,λ b u q _=>?_,
  λ b xs q=>by rw [i3 (hm b _ q λ z=>z)]; exact q,λ b u xs q=>by rw [i3 (hm b _ q λ z=>z)]; exact q,λ b ps q=>⟨#[],by rw [i3 (hm b _ q λ z=>z),q]; simp⟩⟩
 by_cases hbe:b=e
 ·subst hbe; exact heo
 ·exact ⟨u,k b u hbe q⟩
end
def trk (h:Heap) (H:Hp):List Addr:=(aD h.objs.size).filter λ a=>(H a).isSome
def a3I (h:Heap) (H:Hp):Heap:=W.hideAll h (trk h H)
theorem a8H (h:Heap) (H:Hp):(a3I h H).objs.size=h.objs.size:=W.hideAll_size _ _
theorem b0v {h:Heap} {H:Hp} {b:Addr} {o:Obj} (e:h.get? b=some o) (n:H b=none):(a3I h H).get? b=some o :=
 W.hideAll_get _ e λ hm=>by
  have q:(H b).isSome=true:=(dL.mp hm).2;rw [n] at q; simp at q
theorem b1w {h:Heap} {H:Hp} {b:Addr} {o:Obj} (e:(a3I h H).get? b=some o):h.get? b=some o/\H b=none:=by
 have e':h.get? b=some o:=W.of_hideAll (trk h H) e;refine ⟨e',?_⟩
 cases q:H b with
 | none=>rfl
 | some x =>
  have hm:b∈trk h H:=dL.mpr ⟨List.mem_range.mpr (Heap.lt_size e'),by simp [q]⟩;have z:(a3I h H).get? b=none:=W.hideAll_none (trk h H) hm;rw [z] at e; cases e
def b1r (g h:Heap) (L:Addr):List (Addr×Obj):=(aD h.objs.size).filterMap λ a=>if a=L\/(g.get? a).isSome=true then none else (h.get? a).map λ o=>(a,o)
def rest (g h:Heap) (L d:Addr):List (Addr×Obj):=(b1r g h L).filter λ p=>decide (p.1≠d)
structure Mod (K:W.Frag) (mg:Str->Option Value) (base:Heap):Prop where
 kin:K.In base
 glob:base.Ns mainGlobals mg
 blt:∃ mb,base.Ns builtinsNs mb/\∀ x:Str,x≠"__name__"->mb x=bootBuiltins x
 nolimit:base.NoLimit
structure Cx where
 prog:Program
 w:World
 K:W.Frag
 mg:Str->Option Value
 base:Heap
 A:Around
 N:List Str
 s₀:Shared
 H₀:Hp
 env:Env
 outer:List Env
 stack:List Env
 ex:List Addr
 fn:Str->Bool
 calm:Bool
 pn:List (Addr×Obj)
 xe:Value->Shared->Prop
def frs (l:List Env):List Addr:=l.filterMap (·.frame)
abbrev Cx.fs (X:Cx):List Addr:=frs X.outer
def Vis (sc:Scope) (x:Str):Prop:=sc.names.lookup x=some .local\/sc.names.lookup x=some .cell\/sc.names.lookup x=some .free
def Loc (sc:Scope) (x:Str):Prop:=sc.names.lookup x=some .local\/sc.names.lookup x=some .cell
def b6f (env:Env) (h:Heap) (m:Str->Option Value) (x:Str) (u:Value):Prop :=
 (env.kindOf x=some .local/\m x=some u)\/((env.kindOf x=some .cell\/env.kindOf x=some .free)/\∃ c,env.cells.lookup x=some c/\h.IsCell c (some u))
structure Cx.Ok (X:Cx):Prop where
 mod:Mod X.K X.mg X.base
 kind:X.env.scope.kind=.function
 glob:X.env.globals=mainGlobals
 blt:X.env.builtins=builtinsNs
 above:X.s₀.heap.objs.size<=X.env.locals
 inj:∀ x y c,X.env.cells.lookup x=some c->X.env.cells.lookup y=some c->x=y
 has:∀ x,(X.env.kindOf x=some .cell\/X.env.kindOf x=some .free)->∃ c,X.env.cells.lookup x=some c
 cab:∀ x c,X.fn x=true->X.env.cells.lookup x=some c->X.s₀.heap.objs.size<=c
 hd:X.calm=true->X.A.handled=none
 frames:X.A.frames=some X.stack
 stk:X.stack=X.outer\/(X.stack=X.env::X.outer/\X.env.frame=some X.env.locals)
 exf:∀ b∈X.ex,b≠X.env.locals/\∀ x c,X.env.cells.lookup x=some c->c≠b
 bs:∀ b o,X.base.get? b=some o->X.s₀.heap.get? b=some o/\X.H₀ b=none
 bsz:X.base.objs.size<=X.s₀.heap.objs.size
 noex:∀ b o,X.base.get? b=some o->b ∉ X.ex
 exfs:∀ b∈X.ex,b ∉ X.fs
 funs:X.s₀.heap.FunFrames X.base X.outer
 frf:∀ b∈X.fs,X.H₀ b=none
structure Inv (X:Cx) (pins:List (Addr×Obj)) (σ:List (Option V)) (H:Hp) (s:Shared):Prop where
 ok:X.Ok
 os:s.os=X.s₀.os
 bare:AllBare s.gens
 base:Un X.fs X.ex X.H₀ H X.s₀.heap s.heap
 loc:∃ m,s.heap.Ns X.env.locals m/\∀ (i:Nat) (x:Str) (v:V),X.N[i]?=some x->σ[i]?=some (some v)->Vis X.env.scope x->∃ u,RelV v u/\b6f X.env s.heap m x u
 cell:∀ x c,X.env.cells.lookup x=some c->∃ v,s.heap.IsCell c v
 free:H X.env.locals=none
 freeC:∀ x c,X.env.cells.lookup x=some c->H c=none
 pin:∀ p∈X.pn++pins,s.heap.get? p.1=some p.2/\H p.1=none/\p.1≠X.env.locals/\p.1 ∉ X.fs/\∀ v,p.2.data≠.cell v
 hok:HOk X.prog X.w H s.heap
 len:σ.length=X.N.length
section
variable {X:Cx} {pins:List (Addr×Obj)} {σ:List (Option V)} {H H':Hp} {s:Shared} {h':Heap}
theorem Cx.Ok.nofr (ok:X.Ok) {b:Addr} {o:Obj} (e:X.base.get? b=some o):b ∉ X.fs:=λ hb=>by
 have:=(ok.funs.mem hb).1;rw [e] at this; cases this
theorem Inv.bs (I:Inv X pins σ H s):∀ b o,X.base.get? b=some o->s.heap.get? b=some o/\H b=none:=λ b o e =>
 ⟨I.base.keep b o (I.ok.bs b o e).1 (I.ok.bs b o e).2 (I.ok.nofr e) (I.ok.noex b o e),I.base.free b o (I.ok.bs b o e).1 (I.ok.bs b o e).2 (I.ok.noex b o e)⟩
theorem Inv.bk (I:Inv X pins σ H s):∀ b o,X.base.get? b=some o->s.heap.get? b=some o:=λ b o e=>(I.bs b o e).1
theorem Inv.mod (I:Inv X pins σ H s):Mod X.K X.mg X.base:=I.ok.mod
theorem Inv.kIn (I:Inv X pins σ H s):X.K.In s.heap:=I.ok.mod.kin.keeps I.bk
theorem Inv.nolimit (I:Inv X pins σ H s):s.heap.NoLimit:=I.ok.mod.nolimit.keeps I.bk
theorem Inv.fr (I:Inv X pins σ H s):∃ m,Fr X.base X.env.locals s.heap m :=
 let ⟨m,hn,_⟩:=I.loc
 ⟨m,hn,I.bk,aZ I.ok.bsz I.ok.above⟩
theorem Inv.lt (I:Inv X pins σ H s):X.env.locals<s.heap.objs.size:=let ⟨_,hn,_⟩:=I.loc; hn.lt
theorem Inv.sz (I:Inv X pins σ H s):X.s₀.heap.objs.size<=s.heap.objs.size:=aZ I.ok.above (dX I.lt)
theorem Inv.nofs (I:Inv X pins σ H s) {a:Addr} (h:s.heap.objs.size<=a):a ∉ X.fs:=λ hb=>by
 obtain ⟨_,o,ho,_⟩:=I.ok.funs.mem hb;exact absurd (bA (Heap.lt_size ho) (aZ I.sz h)) (cA _)
theorem Inv.cne (I:Inv X pins σ H s):∀ x c,X.env.cells.lookup x=some c->c≠X.env.locals:=λ x c e z=>by
 obtain ⟨v,o,ho,hd⟩:=I.cell x c e;obtain ⟨m,⟨o',es,ep,ho',hd',_⟩,_⟩:=I.loc;rw [z,ho'] at ho; cases ho; rw [hd'] at hd; cases hd
theorem Inv.funs (I:Inv X pins σ H s):s.heap.FunFrames X.base X.outer:=by
 have all:∀ (l:List Env),(∀ b∈frs l,b∈X.fs)->X.s₀.heap.FunFrames X.base l->s.heap.FunFrames X.base l:=by
  intro l
  induction l with
  | nil=>intro _ _; trivial
  | cons env r ih =>
   intro hs hl;obtain ⟨hk,⟨L,o,hf,hn,ho,hd⟩,hr⟩:=hl;have hL:L∈X.fs:=hs L (by unfold frs; rw [eV,hf]; exact cE);obtain ⟨sl,e⟩:=I.base.slot L o ho (I.ok.frf L hL) hL λ z=>I.ok.exfs L z hL;exact ⟨hk,⟨L,_,hf,hn,e,hd⟩,ih (λ b hb=>hs b (by unfold frs; rw [eV,hf]; exact bS _ hb)) hr⟩
 exact all X.outer (λ _ hb=>hb) I.ok.funs
theorem Inv.stack (I:Inv X pins σ H s):s.heap.FunFrames X.base X.stack:=by
 rcases I.ok.stk with e | ⟨e,hf⟩
 ·rw [e]; exact I.funs
 ·rw [e]
  obtain ⟨m,hn,_⟩:=I.loc;refine .cons (by rw [I.ok.kind]; decide) hf hn ?_ I.funs;exact Heap.get?_none_of_le (aZ I.ok.bsz I.ok.above)
theorem Inv.stkSub (I:Inv X pins σ H s):∀ b∈frs X.stack,b∈X.env.locals::X.fs:=λ b hb=>by
 rcases I.ok.stk with e | ⟨e,hf⟩
 ·rw [e] at hb; exact bS _ hb
 ·rw [e] at hb
  unfold frs at hb;rw [eV,hf] at hb;exact hb
theorem Inv.stkFree (I:Inv X pins σ H s):∀ b∈frs X.stack,H b=none:=λ b hb=>by
 rcases aR.mp (I.stkSub b hb) with e | hb
 ·rw [e]; exact I.free
 ·obtain ⟨_,o,ho,_⟩:=I.ok.funs.mem hb
  exact I.base.free b o ho (I.ok.frf b hb) λ z=>I.ok.exfs b z hb
theorem Inv.step {g':Array GenState} {t':Nat} {d':Drawn} {ch:List Addr} (I:Inv X pins σ H s)
  (hch:∀ b∈ch,(b∈X.ex\/X.s₀.heap.objs.size<=b)/\b≠X.env.locals/\(∀ x c,X.env.cells.lookup x=some c->c≠b)/\∀ p∈X.pn++pins,p.1≠b)
  (keep:∀ b o,b≠X.env.locals->b ∉ X.fs->b ∉ ch->s.heap.get? b=some o->H b=none->h'.get? b=some o)
  (slot:∀ b o,b≠X.env.locals->b∈X.fs->b ∉ ch->s.heap.get? b=some o->H b=none->∃ sl,h'.get? b=some { o with slots:=sl }) (free:∀ b o,b ∉ ch->s.heap.get? b=some o->H b=none->H' b=none)
  (there:∀ b o,b ∉ ch->s.heap.get? b=some o->∃ o',h'.get? b=some o')
  (tups:∀ b xs,H b=some (.tup xs)->H' b=some (.tup xs)) (frzs:∀ b o u,H b=some (.frz o u)->H' b=some (.frz o u)) (tbls:∀ b ps,H b=some (.tbl ps)->∃ more,H' b=some (.tbl (ps++more)))
  (ns:∀ m,s.heap.Ns X.env.locals m->h'.Ns X.env.locals m) (hok:HOk X.prog X.w H' h') (hg:AllBare g') :
  Inv X pins σ H' { s with heap:=h',gens:=g',drawn:=d',toks:=t' }:=by
 have neL:∀ b o,X.s₀.heap.get? b=some o->b≠X.env.locals:=λ b o e=>bI (bA (Heap.lt_size e) I.ok.above);have neC:∀ b o,X.s₀.heap.get? b=some o->b ∉ X.ex->b ∉ ch:=λ b o e hx hb=>by
  rcases (hch b hb).1 with z | z
  ·exact hx z
  ·exact absurd (bA (Heap.lt_size e) z) (cA _)
 have cellK:∀ x c,X.env.cells.lookup x=some c->∀ v,s.heap.IsCell c v->h'.IsCell c v:=λ x c e v ⟨o,ho,hd⟩=>by
  have nch:c ∉ ch:=λ z=>(hch c z).2.2.1 x c e rfl
  by_cases hc:c∈X.fs
  ·obtain ⟨sl,q⟩:=slot c o (I.cne x c e) hc nch ho (I.freeC x c e)
   exact ⟨_,q,hd⟩
  ·exact ⟨o,keep c o (I.cne x c e) hc nch ho (I.freeC x c e),hd⟩
 refine ⟨I.ok,I.os,hg,⟨λ b o e n hb hx=>?_,λ b o e n hb hx=>?_,λ b o e n hx=>?_,λ b o e hx=>?_,λ b xs e=>tups b xs (I.base.tups b xs e),λ b o xs e=>frzs b o xs (I.base.frzs b o xs e),λ b ps e=>?_⟩,?_,λ x c e=>?_,?_,λ x c e=>?_,λ p hp=>?_,hok,I.len⟩
 ·exact keep b o (neL b o e) hb (neC b o e hx) (I.base.keep b o e n hb hx) (I.base.free b o e n hx)
 ·obtain ⟨sl,e1⟩:=I.base.slot b o e n hb hx
  obtain ⟨sl',e2⟩:=slot b _ (neL b o e) hb (neC b o e hx) e1 (I.base.free b o e n hx);exact ⟨sl',e2⟩
 ·obtain ⟨o',e1⟩:=I.base.there b o e hx
  exact free b o' (neC b o e hx) e1 (I.base.free b o e n hx)
 ·obtain ⟨o',e1⟩:=I.base.there b o e hx
  exact there b o' (neC b o e hx) e1
 ·obtain ⟨m1,e1⟩:=I.base.tbls b ps e
  obtain ⟨m2,e2⟩:=tbls b _ e1;exact ⟨m1++m2,by rw [e2,Array.append_assoc]⟩
 ·obtain ⟨m,hn,hl⟩:=I.loc
  refine ⟨m,ns m hn,λ i x v e1 e2 e3=>?_⟩;obtain ⟨u,r,l⟩:=hl i x v e1 e2 e3;refine ⟨u,r,?_⟩;rcases l with l | ⟨k,c,e,z⟩
  ·exact .inl l
  ·exact .inr ⟨k,c,e,cellK x c e _ z⟩
 ·obtain ⟨v,z⟩:=I.cell x c e
  exact ⟨v,cellK x c e v z⟩
 ·obtain ⟨m,⟨o,_,_,ho,_⟩,_⟩:=I.loc
  exact free _ o (λ z=>(hch _ z).2.1 rfl) ho I.free
 ·obtain ⟨v,o,ho,hd⟩:=I.cell x c e
  exact free c o (λ z=>(hch c z).2.2.1 x c e rfl) ho (I.freeC x c e)
 ·obtain ⟨e,n,ne,nf,d⟩:=I.pin p hp
  have nch:p.1 ∉ ch:=λ z=>(hch p.1 z).2.2.2 p hp rfl;exact ⟨keep p.1 p.2 ne nf nch e n,free p.1 p.2 nch e n,ne,nf,d⟩
theorem Inv.un {t':Nat} (I:Inv X pins σ H s) (u:Un X.fs [] H H' s.heap h') (hok:HOk X.prog X.w H' h'):Inv X pins σ H' { s with heap:=h',toks:=t' }:=by
 obtain ⟨m,⟨o,es,ep,ho,r⟩,_⟩:=id I.loc;obtain ⟨sl,hL⟩:=u.any ho I.free (by simp);exact I.step (g':=s.gens) (d':=s.drawn) (ch:=[]) (λ _ z=>nomatch z) (λ b o _ hb _ e n=>u.keep b o e n hb (by simp)) (λ b o _ hb _ e n=>u.slot b o e n hb (by simp)) (λ b o _ e n=>u.free b o e n (by simp)) (λ b o _ e=>u.there b o e (by simp)) u.tups u.frzs u.tbls (λ m' hm=>by
  obtain ⟨o',es',ep',ho',r'⟩:=hm;rw [ho] at ho'; cases ho';exact ⟨_,es',ep',hL,r'⟩) hok I.bare
theorem Inv.call {g':Array GenState} {t':Nat} {d':Drawn} {ch:List Addr} (I:Inv X pins σ H s) (u:Un (frs X.stack) ch H H' s.heap h') (hok:HOk X.prog X.w H' h') (hg:AllBare g')
  (hch:∀ b∈ch,(b∈X.ex\/X.s₀.heap.objs.size<=b)/\b≠X.env.locals/\(∀ x c,X.env.cells.lookup x=some c->c≠b)/\∀ p∈X.pn++pins,p.1≠b) :
  Inv X pins σ H' { s with heap:=h',gens:=g',drawn:=d',toks:=t' }:=by
 obtain ⟨m,⟨o,es,ep,ho,r⟩,_⟩:=id I.loc;obtain ⟨sl,hL⟩:=u.any ho I.free λ z=>(hch _ z).2.1 rfl;exact I.step (ch:=ch) hch (λ b o hL hb hc e n=>u.keep b o e n (λ z=>(aR.mp (I.stkSub b z)).elim hL hb) hc) (λ b o _ _ hc e n=>u.any e n hc) (λ b o hc e n=>u.free b o e n hc) (λ b o hc e=>u.there b o e hc) u.tups u.frzs u.tbls (λ m' hm=>by
  obtain ⟨o',es',ep',ho',r'⟩:=hm;rw [ho] at ho'; cases ho';exact ⟨_,es',ep',hL,r'⟩) hok hg
theorem Inv.turned {t':Nat} {it:Addr} (I:Inv X pins σ H s) (k:∀ b o,b≠it->s.heap.get? b=some o->h'.get? b=some o) (hn:H it=none) (hL:it≠X.env.locals)
  (h1:it∈X.ex\/X.s₀.heap.objs.size<=it) (h2:∀ x c,X.env.cells.lookup x=some c->c≠it) (h3:∀ p∈X.pn++pins,p.1≠it):Inv X pins σ H { s with heap:=h',toks:=t' }:=by
 have nit:∀ b u,H b=some u->b≠it:=λ b u e z=>by rw [z,hn] at e; cases e
 refine I.step (g':=s.gens) (d':=s.drawn) (ch:=[it]) (λ b hb=>?_) (λ b o _ _ hc e _=>k b o (λ z=>hc (by simp [z])) e) (λ b o _ _ hc e _=>⟨o.slots,k b o (λ z=>hc (by simp [z])) e⟩) (λ _ _ _ _ n=>n)
  (λ b o hc e=>⟨o,k b o (λ z=>hc (by simp [z])) e⟩) (λ _ _ e=>e) (λ _ _ _ e=>e) (λ b ps e=>⟨#[],by rw [e]; simp⟩) (λ m hm=>?_) (λ b u e=>?_) I.bare
 ·have e:b=it:=by simpa using hb
  subst e;exact ⟨h1,hL,h2,h3⟩
 ·obtain ⟨o,es,ep,ho,r⟩:=hm
  exact ⟨o,es,ep,k _ o (aY hL) ho,r⟩
 ·refine (I.hok b u e).stay (λ c v hc q=>k c v ?_ q) (λ _ q=>q) λ _ _ q=>q
  rcases hc with z | z
  ·rw [z]; exact nit b u e
  ·exact nit c _ z
theorem Inv.tok (I:Inv X pins σ H s) (t:Nat):Inv X pins σ H { s with toks:=t }:=I.un (h':=s.heap) (t':=t) Un.refl I.hok
theorem Inv.kept {t':Nat} (I:Inv X pins σ H s) (k:∀ b u,s.heap.get? b=some u->h'.get? b=some u):Inv X pins σ H { s with heap:=h',toks:=t' }:=I.un (Un.kept k) (I.hok.kept k)
theorem Inv.laid {a:Addr} {o:HO} {t':Nat} (I:Inv X pins σ H s) (k:∀ b u,s.heap.get? b=some u->h'.get? b=some u) (hp:s.heap.objs.size<=a) (new:ObjOk X.prog X.w (upd H a o) h' a o) :
  Inv X pins σ (upd H a o) { s with heap:=h',toks:=t' }:=I.un (Un.laid k hp (I.hok.fresh hp)) (I.hok.laid k hp new)
theorem Inv.write {x e:Addr} {o:HO} {t':Nat} (I:Inv X pins σ H s) (mu:Mut (H x)) (he:e=x\/H e=some (.own x)) (k:∀ b u,b≠e->s.heap.get? b=some u->h'.get? b=some u) (heo:∃ u,h'.get? e=some u)
  (new:ObjOk X.prog X.w (upd H x o) h' x o):Inv X pins σ (upd H x o) { s with heap:=h',toks:=t' }:=I.un (Un.write mu he k heo) (I.hok.write mu he k heo new)
theorem Inv.weak {σ':List (Option V)} (I:Inv X pins σ H s) (hl:σ'.length=σ.length) (w:∀ (i:Nat) v,σ'[i]?=some (some v)->σ[i]?=some (some v)):Inv X pins σ' H s :=
 ⟨I.ok,I.os,I.bare,I.base,let ⟨m,hn,hl'⟩:=I.loc; ⟨m,hn,λ i x v e1 e2 e3=>hl' i x v e1 (w i v e2) e3⟩,I.cell,I.free,I.freeC,I.pin,I.hok,hl.trans I.len⟩
theorem Inv.pins_of {pins':List (Addr×Obj)} (I:Inv X pins σ H s) (h:∀ p∈pins',s.heap.get? p.1=some p.2/\H p.1=none/\p.1≠X.env.locals/\p.1 ∉ X.fs/\∀ v,p.2.data≠.cell v):Inv X pins' σ H s :=
 ⟨I.ok,I.os,I.bare,I.base,I.loc,I.cell,I.free,I.freeC,λ p hp=>(aQ.mp hp).elim (λ z=>I.pin p (dC _ z)) (h p),I.hok,I.len⟩
theorem a5D {N:List Str} (hN:N.Nodup) {i j:Nat} {x:Str} (a:N[i]?=some x) (b:N[j]?=some x):i=j:=by
 obtain ⟨h1,e1⟩:=aU.mp a;obtain ⟨h2,e2⟩:=aU.mp b;exact (List.getElem_inj hN).mp (e1.trans e2.symm)
theorem a1J {M:Model} {A:Around} {E:Value->Shared->Prop} {i:Nat} {x:Str} {v:V} {u:Value} {Q:Unit->Shared->Prop} (I:Inv X pins σ H s) (hN:X.N.Nodup) (hi:X.N[i]?=some x) (hx:Loc X.env.scope x) (r:RelV v u)
  (h:∀ s',Inv X pins (σ.set i (some v)) H s'->(∃ a,Heap.SameBut a s.heap s'.heap/\(a=X.env.locals\/X.env.cells.lookup x=some a))->Q () s') (hf:X.fn x=true\/X.env.scope.names.lookup x=some .local:=by first | exact .inl rfl | exact .inr rfl | assumption):wpAny M A (storeName X.env x u) Q E s:=by
 obtain ⟨m,hn,hl⟩:=id I.loc;have hcls:(X.env.scope.kind==.class || (X.env.scope.kind==.module&&X.env.locals != X.env.globals))=false:=by rw [I.ok.kind]; rfl
 have hiσ:i<σ.length:=by rw [I.len]; exact (aU.mp hi).1
 have cne:=I.cne;have tracked:∀ {a:Addr} {h':Heap},(∃ o,s.heap.get? a=some o/\H a=none)->Heap.SameBut a s.heap h'->HOk X.prog X.w H h':=λ {a h'} ha hs b ob e=>by
  obtain ⟨_,_,hfree⟩:=ha;refine (I.hok b ob e).stay (λ c w' hc q=>(hs.2 c ?_).trans q) (λ _ q=>q) λ _ _ q=>q;rintro rfl;rcases hc with rfl | hc
  ·rw [hfree] at e; cases e
  ·rw [hfree] at hc; cases hc
 rcases hx with hk | hk
 ·refine wpAny_storeName_local hk hn (λ h' hn' hs=>?_) hcls
  obtain ⟨oL,_,_,hoL,_⟩:=id hn;refine h _ ⟨I.ok,I.os,I.bare,⟨λ b o e n hb hx=>?_,λ b o e n hb hx=>?_,I.base.free,λ b o e hx=>?_,I.base.tups,I.base.frzs,I.base.tbls⟩,⟨_,hn',λ j y v' e1 e2 e3=>?_⟩,λ y c e=>?_,I.free,I.freeC,λ p hp=>?_,tracked ⟨oL,hoL,I.free⟩ hs,by simpa using I.len⟩ ⟨_,hs,.inl rfl⟩
  ·exact (hs.2 b (bI (bA (Heap.lt_size e) I.ok.above))).trans (I.base.keep b o e n hb hx)
  ·obtain ⟨sl,e1⟩:=I.base.slot b o e n hb hx
   exact ⟨sl,(hs.2 b (bI (bA (Heap.lt_size e) I.ok.above))).trans e1⟩
  ·obtain ⟨o',e1⟩:=I.base.there b o e hx
   exact ⟨o',(hs.2 b (bI (bA (Heap.lt_size e) I.ok.above))).trans e1⟩
  ·by_cases hj:j=i
   ·subst hj
    rw [hi] at e1; cases e1;rw [cM hiσ] at e2
    cases e2;exact ⟨u,r,.inl ⟨hk,by simp⟩⟩
   ·rw [bV (aY hj)] at e2
    obtain ⟨u',r',q⟩:=hl j y v' e1 e2 e3;refine ⟨u',r',?_⟩;rcases q with ⟨k,e⟩ | ⟨k,c,e,z⟩
    ·refine .inl ⟨k,?_⟩
     have:y≠x:=λ e=>hj (a5D hN e1 (e ▸ hi));simp [this,e]
    ·exact .inr ⟨k,c,e,z.sameBut hs (cne y c e)⟩
  ·obtain ⟨w',z⟩:=I.cell y c e
   exact ⟨w',z.sameBut hs (cne y c e)⟩
  ·obtain ⟨e,n,ne,nf,d⟩:=I.pin p hp
   exact ⟨(hs.2 p.1 ne).trans e,n,ne,nf,d⟩
 ·have hfn:X.fn x=true:=by
   rcases hf with z | z
   ·exact z
   ·rw [z] at hk; cases hk
  obtain ⟨c,hc⟩:=I.ok.has x (.inl hk);obtain ⟨w',z⟩:=I.cell x c hc;refine wpAny_storeName_cell I.ok.kind hk hc z (λ h' hc' hs=>?_);obtain ⟨oc,hoc,hocd⟩:=id z;refine h { s with heap:=h' } ⟨I.ok,I.os,I.bare,⟨λ b o e n hb hx=>?_,λ b o e n hb hx=>?_,I.base.free,λ b o e hx=>?_,I.base.tups,I.base.frzs,I.base.tbls⟩,⟨m,hn.sameBut hs (aY (cne x c hc)),λ j y v' e1 e2 e3=>?_⟩,λ y c' e=>?_,I.free,I.freeC,λ p hp=>?_,tracked ⟨oc,hoc,I.freeC x c hc⟩ hs,by simpa using I.len⟩ ⟨c,hs,.inr hc⟩
  ·exact (hs.2 b (bI (bA (Heap.lt_size e) (I.ok.cab x c hfn hc)))).trans (I.base.keep b o e n hb hx)
  ·obtain ⟨sl,e1⟩:=I.base.slot b o e n hb hx
   exact ⟨sl,(hs.2 b (bI (bA (Heap.lt_size e) (I.ok.cab x c hfn hc)))).trans e1⟩
  ·obtain ⟨o',e1⟩:=I.base.there b o e hx
   exact ⟨o',(hs.2 b (bI (bA (Heap.lt_size e) (I.ok.cab x c hfn hc)))).trans e1⟩
  ·by_cases hj:j=i
   ·subst hj
    rw [hi] at e1; cases e1;rw [cM hiσ] at e2
    cases e2;exact ⟨u,r,.inr ⟨.inl hk,c,hc,hc'⟩⟩
   ·rw [bV (aY hj)] at e2
    obtain ⟨u',r',q⟩:=hl j y v' e1 e2 e3;refine ⟨u',r',?_⟩;rcases q with q | ⟨k,c',e,z'⟩
    ·exact .inl q
    ·refine .inr ⟨k,c',e,z'.sameBut hs ?_⟩
     rintro rfl;exact hj (a5D hN e1 (I.ok.inj _ _ _ e hc ▸ hi))
  ·by_cases hcc:c'=c
   ·subst hcc; exact ⟨_,hc'⟩
   ·obtain ⟨w2,z2⟩:=I.cell y c' e
    exact ⟨w2,z2.sameBut hs hcc⟩
  ·obtain ⟨e,n,ne,nf,d⟩:=I.pin p hp
   refine ⟨(hs.2 p.1 ?_).trans e,n,ne,nf,d⟩;intro q;rw [q,hoc] at e;have q':oc=p.2:=aS e;exact d w' (by rw [<- q']; exact hocd)
theorem a1r {M:Model} {A:Around} {E:Value->Shared->Prop} {i:Nat} {x:Str} {v:V} {u:Value} {Q:Unit->Shared->Prop} (I:Inv X pins σ H s) (hN:X.N.Nodup) (hi:X.N[i]?=some x) (hx:Loc X.env.scope x) (r:RelV v u)
  (h:∀ s',Inv X pins (σ.set i (some v)) H s'->Q () s') (hf:X.fn x=true\/X.env.scope.names.lookup x=some .local:=by first | exact .inl rfl | exact .inr rfl | assumption):wpAny M A (storeName X.env x u) Q E s :=
 a1J I hN hi hx r (λ s' I' _=>h s' I') hf
theorem Inv.call' {s':Shared} {ch:List Addr} (I:Inv X pins σ H s) (ho:s'.os=s.os) (u:Un (frs X.stack) ch H H' s.heap s'.heap) (hok:HOk X.prog X.w H' s'.heap) (hg:AllBare s'.gens)
  (hch:∀ b∈ch,(b∈X.ex\/X.s₀.heap.objs.size<=b)/\b≠X.env.locals/\(∀ x c,X.env.cells.lookup x=some c->c≠b)/\∀ p∈X.pn++pins,p.1≠b):Inv X pins σ H' s':=by
 obtain ⟨h',g',d',t',o'⟩:=s';have e:o'=s.os:=ho;subst e;exact I.call (g':=g') (t':=t') (d':=d') u hok hg hch
end
abbrev XK:=Value->Option Addr->Hp->Prop
abbrev St:=List (Option V)
abbrev VK:=V->Hp->Prop
abbrev TE:=St->Hp->VK->Prop
abbrev TT:=St->Hp->(Bool->Hp->Prop)->Prop
abbrev TA:=St->Hp->(List V->Hp->Prop)->Prop
structure Ends where
 nx:St->Hp->Prop
 rt:VK
 bk:St->Hp->Prop:=λ _ _=>False
 ct:St->Hp->Prop:=λ _ _=>False
abbrev TS:=Ends->St->Hp->Prop
def EP (X:Cx) (pins:List (Addr×Obj)) (σ:St) (Q:VK) (u:Value) (s':Shared):Prop:=∃ v H',Inv X pins σ H' s'/\RelV v u/\Q v H'
def TP (X:Cx) (pins:List (Addr×Obj)) (σ:St) (Q:Bool->Hp->Prop) (b:Bool) (s':Shared):Prop:=∃ H',Inv X pins σ H' s'/\Q b H'
def AP (X:Cx) (pins:List (Addr×Obj)) (σ:St) (Q:List V->Hp->Prop) (us:List Value) (s':Shared):Prop:=∃ vs H',Inv X pins σ H' s'/\Vals vs us/\Q vs H'
def SP (X:Cx) (pins:List (Addr×Obj)) (D:Ends) (f:Flow) (s':Shared):Prop :=
 match f with
 | .next=>∃ σ' H',Inv X pins σ' H' s'/\D.nx σ' H'
 | .brk=>∃ σ' H',Inv X pins σ' H' s'/\D.bk σ' H'
 | .cont=>∃ σ' H',Inv X pins σ' H' s'/\D.ct σ' H'
 | .ret u=>∃ v σ' H',Inv X pins σ' H' s'/\RelV v u/\D.rt v H'
def PE (X:Cx) (e:Expr) (t:TE):Prop :=
 ∀ (pins:List (Addr×Obj)) (s:Shared) (σ:St) (H:Hp) (Q:VK),Inv X pins σ H s->t σ H Q->wpAny (model X.prog X.w) X.A (eval e X.env) (EP X pins σ Q) X.xe s
def PT (X:Cx) (e:Expr) (t:TT):Prop :=
 ∀ (pins:List (Addr×Obj)) (s:Shared) (σ:St) (H:Hp) (Q:Bool->Hp->Prop),Inv X pins σ H s->t σ H Q->wpAny (model X.prog X.w) X.A (isTrue e X.env (eval e X.env)) (TP X pins σ Q) X.xe s
def PW (X:Cx) (e:Expr) (t:TT):Prop :=
 ∀ (whole:Sem Value) (pins:List (Addr×Obj)) (s:Shared) (σ:St) (H:Hp) (Q:Bool->Hp->Prop),Inv X pins σ H s->t σ H Q->wpAny (model X.prog X.w) X.A (isTrue e X.env whole) (TP X pins σ Q) X.xe s
theorem PW.pt {X:Cx} {e:Expr} {t:TT} (h:PW X e t):PT X e t:=h _
def PA (X:Cx) (es:List Expr) (t:TA):Prop :=
 ∀ (pos:Pos) (pins:List (Addr×Obj)) (s:Shared) (σ:St) (H:Hp) (Q:List V->Hp->Prop),Inv X pins σ H s->t σ H Q->wpAny (model X.prog X.w) X.A (spliced (backTo pos (starEach es X.env))) (AP X pins σ Q) X.xe s
def PS (X:Cx) (st:Stmt) (t:TS):Prop :=
 ∀ (pins:List (Addr×Obj)) (s:Shared) (σ:St) (H:Hp) (D:Ends),Inv X pins σ H s->t D σ H->wpAny (model X.prog X.w) X.A (exec st X.env) (SP X pins D) X.xe s
def PSs (X:Cx) (st:List Stmt) (t:TS):Prop :=
 ∀ (pins:List (Addr×Obj)) (s:Shared) (σ:St) (H:Hp) (D:Ends),Inv X pins σ H s->t D σ H->wpAny (model X.prog X.w) X.A (execs st X.env) (SP X pins D) X.xe s
theorem C6 {α:Type} {t:Sem α} {Q Q':α->Shared->Prop} {M:Model} {A:Around} {E:Value->Shared->Prop} {s:Shared} (h:wpAny M A t Q E s) (hQ:∀ a s,Q a s->Q' a s):wpAny M A t Q' E s:=wpAny_mono h hQ λ _ _ x=>x
section
variable {X:Cx}
theorem bin {a b:Expr} {ta tb:TE} (ha:PE X a ta) (hb:PE X b tb) {pins:List (Addr×Obj)} {s:Shared} {σ:St} {H:Hp} {R:V->V->Hp->Prop} (I:Inv X pins σ H s) (h:ta σ H λ x H1=>tb σ H1 λ y H2=>R x y H2)
  {α:Type} {Q:α->Shared->Prop} {f:Value->Value->Sem α}
  (hf:∀ v u s2 x y H2,Inv X pins σ H2 s2->RelV x v->RelV y u->R x y H2->wpAny (model X.prog X.w) X.A (f v u) Q X.xe s2) :
  wpAny (model X.prog X.w) X.A (eval a X.env) (λ v s₁=>wpAny (model X.prog X.w) X.A (eval b X.env) (λ u s₂=>wpAny (model X.prog X.w) X.A (f v u) Q X.xe s₂) X.xe s₁) X.xe s:=by
 refine C6 (ha pins s σ H _ I h) λ v s1 ⟨x,H1,I1,r1,q1⟩=>?_;refine C6 (hb pins s1 σ H1 _ I1 q1) λ u s2 ⟨y,H2,I2,r2,q2⟩=>?_;exact hf v u s2 x y H2 I2 r1 r2 q2
def a8j (i:Nat):TE:=λ σ H Q=>∃ v,σ[i]?=some (some v)/\Q v H
def tC (v:V):TE:=λ _ H Q=>Q v H
theorem b3H {i:Nat} {x:Str} {pos:Pos} (hN:X.N[i]?=some x) (hv:Vis X.env.scope x) (hd:(x==("__debug__":Str))=false:=by decide) (hcd:(x==("__classdict__":Str))=false:=by decide):PE X (.Name x pos) (a8j i):=by
 intro pins s σ H Q I h;obtain ⟨v,e,h⟩:=h;obtain ⟨m,hn,hl⟩:=I.loc;obtain ⟨u,r,l⟩:=hl i x v hN e hv;have fin:EP X pins σ Q u s:=⟨v,H,I,r,h⟩;rcases l with ⟨hk,hm⟩ | ⟨hk,c,hc,hcell⟩
 ·exact wpAny_Name (wpAny_loadName_local I.ok.kind hk hn hm fin) hd
 ·rcases hk with hk | hk
  ·exact wpAny_Name (wpAny_loadName_cell I.ok.kind hk hc hcell fin) hd
  ·exact wpAny_Name (wpAny_loadName_free I.ok.kind hk hc hcell fin hcd) hd
theorem d0 {i j pos}:PE X (.Constant (.int i) j pos) (tC (.int i)):=λ _ _ _ H _ I h=>wpAny_Constant_int ⟨.int i,H,I.tok _,⟨_,rfl⟩,h⟩
theorem J3 {j pos}:PE X (.Constant .none j pos) (tC .non):=λ _ _ _ H _ I h=>Constant_none ⟨.non,H,I,rfl,h⟩
theorem J1 {x j pos}:PE X (.Constant (.str x) j pos) (tC (.str x)):=λ _ _ _ H _ I h=>Calls.Constant_str ⟨.str x,H,I.tok _,⟨_,rfl⟩,h⟩
def Gl (X:Cx) (x:Str):Prop:=X.env.kindOf x=some .globalImplicit
theorem a2r {E:Value->Shared->Prop} {pins:List (Addr×Obj)} {s:Shared} {σ:St} {H:Hp} {x:Str} {u:Value} {pos:Pos} {Q:Value->Shared->Prop} (I:Inv X pins σ H s) (hg:Gl X x) (hm:X.mg x=some u) (h:Q u s)
  (hd:(x==("__debug__":Str))=false:=by decide):wpAny (model X.prog X.w) X.A (eval (.Name x pos) X.env) Q E s :=
 Calls.Name_function_global I.ok.kind hg (Calls.loadGlobal_global (by rw [I.ok.glob]; exact I.mod.glob.keeps I.bk) hm h) hd
theorem a0C {E:Value->Shared->Prop} {pins:List (Addr×Obj)} {s:Shared} {σ:St} {H:Hp} {x:Str} {u:Value} {pos:Pos} {Q:Value->Shared->Prop} (I:Inv X pins σ H s) (hg:Gl X x) (hm:X.mg x=none) (hv:bootBuiltins x=some u) (h:Q u s)
  (hn:x≠"__name__":=by decide) (hd:(x==("__debug__":Str))=false:=by decide):wpAny (model X.prog X.w) X.A (eval (.Name x pos) X.env) Q E s:=by
 obtain ⟨mb,h1,h2⟩:=I.mod.blt;exact Calls.Name_function_global I.ok.kind hg (Calls.loadGlobal_builtin (by rw [I.ok.glob]; exact I.mod.glob.keeps I.bk) hm (by rw [I.ok.blt]; exact h1.keeps I.bk) ((h2 x hn).trans hv) h) hd
theorem a2p {x:Str} {v:V} {u:Value} {pos:Pos} (hg:Gl X x) (hm:X.mg x=some u) (r:RelV v u) (hd:(x==("__debug__":Str))=false:=by decide):PE X (.Name x pos) (tC v) :=
 λ _ _ _ H _ I h=>a2r I hg hm ⟨v,H,I,r,h⟩ hd
variable {a b:Expr} {ta tb:TE} {pos:Pos}
def tB (t:TE):TT:=λ σ H Q=>t σ H λ x H1=>∃ c,x=.bl c/\Q c H1
theorem a4z {e:Expr} {t:TE} (h:PE X e t) (he:∀ whole,isTrue e X.env whole=(do let v <- whole; standAt e.pos; holding [v] (truthy v)):=by intro _; rfl):PT X e (tB t):=by
 intro pins s σ H Q I hw;refine isTrue_plain (C6 (h pins s σ H _ I hw) λ v s1 ⟨x,H1,I1,r1,q1⟩=>?_) (he _);obtain ⟨d,rfl,q⟩:=q1
 cases r1;exact wpAny_truthy_bool ⟨H1,I1,q⟩
variable {tA tB':TT} {rest:List Expr}
def b5Y (t u:TT):TT:=λ σ H Q=>t σ H λ c H1=>if c=true then u σ H1 Q else Q false H1
def tOr (t u:TT):TT:=λ σ H Q=>t σ H λ c H1=>if c=true then Q true H1 else u σ H1 Q
def b5T (t:TT):TT:=λ σ H Q=>t σ H λ c H1=>Q (!c) H1
theorem a1p (ha:PT X a tA):PW X (.BoolOp .And [a] pos) tA:=by
 intro wh pins s σ H Q I h;refine isTrue_and (C6 (ha pins s σ H Q I h) λ c s1 e=>?_)
 cases c with
 | true=>exact isTrue_and_nil e
 | false=>exact e
theorem a4y (ha:PT X a tA):PW X (.BoolOp .Or [a] pos) tA:=by
 intro wh pins s σ H Q I h;refine isTrue_or (C6 (ha pins s σ H Q I h) λ c s1 e=>?_)
 cases c with
 | false=>exact isTrue_or_nil e
 | true=>exact e
theorem a3h (ha:PT X a tA) (hb:PW X (.BoolOp .And (b::rest) pos) tB'):PW X (.BoolOp .And (a::b::rest) pos) (b5Y tA tB'):=by
 intro wh pins s σ H Q I h;refine isTrue_and (C6 (ha pins s σ H _ I h) λ c s1 ⟨H1,I1,q1⟩=>?_)
 cases c with
 | true=>exact hb wh pins s1 σ H1 Q I1 q1
 | false=>exact ⟨H1,I1,q1⟩
theorem a7b (ha:PT X a tA) (hb:PW X (.BoolOp .Or (b::rest) pos) tB'):PW X (.BoolOp .Or (a::b::rest) pos) (tOr tA tB'):=by
 intro wh pins s σ H Q I h;refine isTrue_or (C6 (ha pins s σ H _ I h) λ c s1 ⟨H1,I1,q1⟩=>?_)
 cases c with
 | true=>exact ⟨H1,I1,q1⟩
 | false=>exact hb wh pins s1 σ H1 Q I1 q1
theorem a6P (ha:PT X a tA):PT X (.UnaryOp .Not a pos) (b5T tA):=by
 intro pins s σ H Q I h;exact isTrue_not (ha pins s σ H (λ c H1=>Q (!c) H1) I h)
def b4P (ta tb:TE):TE:=λ σ H Q=>ta σ H λ x H1=>∃ c,x=.bl c/\if c=true then tb σ H1 Q else Q (.bl false) H1
theorem b3P {op} {t:TE} (h:PE X a t):PE X (.BoolOp op [a] pos) t:=λ pins s σ H Q I hw=>BoolOp_one (h pins s σ H Q I hw)
theorem b3e (ha:PE X a ta) (hb:PE X (.BoolOp .And (b::rest) pos) tb):PE X (.BoolOp .And (a::b::rest) pos) (b4P ta tb):=by
 intro pins s σ H Q I h;refine BoolOp_and (C6 (ha pins s σ H _ I h) λ v s1 ⟨x,H1,I1,r1,q1⟩=>?_);obtain ⟨c,rfl,q1⟩:=q1
 cases r1;refine wpAny_truthy_bool ?_
 cases c with
 | true=>exact hb pins s1 σ H1 Q I1 q1
 | false=>exact ⟨.bl false,H1,I1,rfl,q1⟩
def tIf (t:TT) (ta tb:TE):TE:=λ σ H Q=>t σ H λ c H1=>if c=true then ta σ H1 Q else tb σ H1 Q
theorem a9p {c:Expr} (hc:PT X c tA) (ha:PE X a ta) (hb:PE X b tb):PE X (.IfExp c a b pos) (tIf tA ta tb):=by
 intro pins s σ H Q I h;refine wpAny_IfExp (C6 (hc pins s σ H _ I h) λ d s1 ⟨H1,I1,q1⟩=>?_)
 cases d with
 | true=>exact ha pins s1 σ H1 Q I1 q1
 | false=>exact hb pins s1 σ H1 Q I1 q1
end
def SqL (K:W.Frag) (H:Hp) (a:Addr) (xs:List V):Prop :=
 Rd H a (.lst xs) ∨
  ∃ (o:Obj) (its:Array Value) (n:Nat),K.lookup a=some o/\o.cls=.type "list"/\o.dict=none/\o.data=.seq its n/\its.size<=sizeLine/\Vals xs its.toList
def SqT (K:W.Frag) (H:Hp) (a:Addr) (xs:List V):Prop :=
 Rd H a (.tup xs) ∨
  ∃ (o:Obj) (its:Array Value) (n:Nat),K.lookup a=some o/\o.cls=.type "tuple"/\o.data=.seq its n/\its.size<=sizeLine/\Vals xs its.toList
def b6V:Value->Option V
 | .none=>some .non
 | .bool b=>some (.bl b)
 | .int i _=>some (.int i)
 | .str x _=>some (.str x)
 | .bytes b _=>some (.byt b)
 | .float b _=>some (.flt b)
 | .ref a=>some (.ref a)
 | .type n=>some (.ty n)
 | _=>none
theorem RelV.abs {x:V} {u:Value} (r:RelV x u):b6V u=some x:=by
 cases x with
 | non=>cases r; rfl
 | bl _=>cases r; rfl
 | int _=>obtain ⟨t,rfl⟩:=r; rfl
 | str _=>obtain ⟨t,rfl⟩:=r; rfl
 | byt _=>obtain ⟨t,rfl⟩:=r; rfl
 | flt _=>obtain ⟨t,rfl⟩:=r; rfl
 | ref _=>cases r; rfl
 | ty _=>cases r; rfl
theorem RelV.inj {x y:V} {u:Value} (r:RelV x u) (q:RelV y u):x=y:=aS (r.abs.symm.trans q.abs)
theorem Vals.inj:∀ {xs ys:List V} {us:List Value},Vals xs us->Vals ys us->xs=ys
 | _,_,_,.nil,.nil=>rfl
 | _,_,_,.cons r t,.cons r' t'=>by rw [r.inj r',Vals.inj t t']
section
variable {X:Cx} {pins:List (Addr×Obj)} {σ:St} {H:Hp} {s:Shared} {a:Addr} {xs ys:List V}
theorem SqL.of {K:W.Frag} (h:H a=some (.lst xs)):SqL K H a xs:=.inl (.inl h)
theorem SqT.of {K:W.Frag} (h:H a=some (.tup xs)):SqT K H a xs:=.inl (.inl h)
theorem Inv.list (I:Inv X pins σ H s) (h:SqL X.K H a xs):∃ its:List Value,Vals xs its/\PlainL s.heap a its.toArray/\xs.length<=sizeLine:=by
 rcases h with h | ⟨o,its,n,hk,hc,hd,hs,hz,r⟩
 ·obtain ⟨z,its,n,r,e⟩:=h.ok I.hok
  exact ⟨its,r,⟨_,n,e,rfl,rfl,rfl⟩,z⟩
 ·refine ⟨its.toList,r,⟨o,n,I.kIn a o hk,hc,hd,by simpa using hs⟩,?_⟩
  have e:=r.length;simp only [jM] at e;omega
theorem Inv.tuple (I:Inv X pins σ H s) (h:SqT X.K H a xs):∃ its:List Value,Vals xs its/\IsTup s.heap a its.toArray/\xs.length<=sizeLine:=by
 rcases h with h | ⟨o,its,n,hk,hc,hs,hz,r⟩
 ·obtain ⟨z,its,r,p⟩:=h.ok I.hok
  exact ⟨its,r,p,z⟩
 ·refine ⟨its.toList,r,⟨o,I.kIn a o hk,hc,n,by simpa using hs⟩,?_⟩
  have e:=r.length;simp only [jM] at e;omega
theorem Inv.list_inj (I:Inv X pins σ H s) (h:SqL X.K H a xs) (h':SqL X.K H a ys):xs=ys:=by
 obtain ⟨its,r,⟨o,n,e,_,_,d⟩,_⟩:=I.list h;obtain ⟨its',r',⟨o',n',e',_,_,d'⟩,_⟩:=I.list h';rw [e] at e'; cases e';rw [d] at d';injection d' with d1 _
 have:its=its':=by simpa using congrArg jN d1
 subst this;exact r.inj r'
theorem Inv.tuple_inj (I:Inv X pins σ H s) (h:SqT X.K H a xs) (h':SqT X.K H a ys):xs=ys:=by
 obtain ⟨its,r,⟨o,e,_,n,d⟩,_⟩:=I.tuple h;obtain ⟨its',r',⟨o',e',_,n',d'⟩,_⟩:=I.tuple h';rw [e] at e'; cases e';rw [d] at d';injection d' with d1 _
 have:its=its':=by simpa using congrArg jN d1
 subst this;exact r.inj r'
end
abbrev Cx.wish (X:Cx) (E:Value->Shared->Prop):Cx:={ X with xe:=E }
abbrev Cx.nox (X:Cx):Cx:=X.wish λ _ _=>False
theorem Cx.Ok.wish {X:Cx} (ok:X.Ok) (E:Value->Shared->Prop):(X.wish E).Ok :=
 ⟨ok.mod,ok.kind,ok.glob,ok.blt,ok.above,ok.inj,ok.has,ok.cab,ok.hd,ok.frames,ok.stk,ok.exf,ok.bs,ok.bsz,ok.noex,ok.exfs,ok.funs,ok.frf⟩
theorem Cx.Ok.unwish {X:Cx} {E:Value->Shared->Prop} (ok:(X.wish E).Ok):X.Ok :=
 ⟨ok.mod,ok.kind,ok.glob,ok.blt,ok.above,ok.inj,ok.has,ok.cab,ok.hd,ok.frames,ok.stk,ok.exf,ok.bs,ok.bsz,ok.noex,ok.exfs,ok.funs,ok.frf⟩
section
variable {X:Cx} {pins:List (Addr×Obj)} {σ:St} {H:Hp} {s:Shared} {E:Value->Shared->Prop}
theorem Inv.wish (I:Inv X pins σ H s) (E:Value->Shared->Prop):Inv (X.wish E) pins σ H s:=⟨I.ok.wish E,I.os,I.bare,I.base,I.loc,I.cell,I.free,I.freeC,I.pin,I.hok,I.len⟩
theorem Inv.unwish (I:Inv (X.wish E) pins σ H s):Inv X pins σ H s:=⟨I.ok.unwish,I.os,I.bare,I.base,I.loc,I.cell,I.free,I.freeC,I.pin,I.hok,I.len⟩
theorem SP.unwish {D:Ends} {f:Flow} {s':Shared} (h:SP (X.wish E) pins D f s'):SP X pins D f s':=by
 cases f with
 | next=>obtain ⟨σ',H',I,q⟩:=h; exact ⟨σ',H',I.unwish,q⟩
 | brk=>obtain ⟨σ',H',I,q⟩:=h; exact ⟨σ',H',I.unwish,q⟩
 | cont=>obtain ⟨σ',H',I,q⟩:=h; exact ⟨σ',H',I.unwish,q⟩
 | ret u=>obtain ⟨v,σ',H',I,r,q⟩:=h; exact ⟨v,σ',H',I.unwish,r,q⟩
theorem PSs.nox {st:List Stmt} {t:TS} (h:PSs X.nox st t):PSs X st t:=λ pins s σ H D I hw =>
 wpAny_mono (h pins s σ H D (I.wish _) hw) (λ _ _ q=>q.unwish) λ _ _ z=>cZ z
end
section
variable {X:Cx} {st:Stmt} {rest:List Stmt} {t u:TS} {e:Expr} {te:TE} {pos:Pos}
def b4W:TS:=λ D σ H=>D.nx σ H
def b5P (t u:TS):TS:=λ D σ H=>t { D with nx:=u D } σ H
theorem t7:PSs X [] b4W:=λ _ _ σ H _ I h=>wpAny_execs_nil ⟨σ,H,I,h⟩
theorem i6 (h1:PS X st t) (h2:PSs X rest u):PSs X (st::rest) (b5P t u):=by
 intro pins s σ H D I h;refine wpAny_execs_cons (C6 (h1 pins s σ H { D with nx:=u D } I h) λ f s1 q=>?_)
 cases f with
 | next =>
  obtain ⟨σ',H',I',q⟩:=q;exact h2 pins s1 σ' H' D I' q
 | ret v=>exact q
 | brk=>exact q
 | cont=>exact q
theorem i8 (h1:PS X st t):PSs X [st] t:=by
 intro pins s σ H D I h;refine wpAny_execs_cons (C6 (h1 pins s σ H D I h) λ f s1 q=>?_)
 cases f with
 | next=>exact wpAny_execs_nil q
 | ret v=>exact q
 | brk=>exact q
 | cont=>exact q
theorem Inv.quiet {pins:List (Addr×Obj)} {σ:St} {H:Hp} {s:Shared} (I:Inv X pins σ H s):interactive X.env=false:=by simp [interactive,I.ok.kind]
def b4B (te:TE):TS:=λ D σ H=>te σ H λ _ H1=>D.nx σ H1
theorem U3 (he:PE X e te) (hs:swapsWith e none pos.line X.env=pure false:=by rfl):PS X (.Expr e pos) (b4B te):=by
 intro pins s σ H D I h;exact wpAny_Expr_any (C6 (he pins s σ H _ I h) λ v s1 ⟨x,H1,I1,r1,q1⟩=>⟨σ,H1,I1,q1⟩) I.quiet hs
def b6F (te:TE):TS:=λ D σ H=>te σ H D.rt
theorem r6 (he:PE X e te):PS X (.Return (some e) pos) (b6F te):=by
 intro pins s σ H D I h;exact wpAny_Return_some (C6 (he pins s σ H _ I h) λ v s1 ⟨x,H1,I1,r1,q1⟩=>⟨x,σ,H1,I1,r1,q1⟩)
def b5Q (c:TT) (t u:TS):TS:=λ D σ H=>c σ H λ b H1=>if b=true then t D σ H1 else u D σ H1
theorem A7 {c:Expr} {a b:List Stmt} {tc:TT} (hc:PT X c tc) (ha:PSs X a t) (hb:PSs X b u):PS X (.If c a b pos) (b5Q tc t u):=by
 intro pins s σ H D I h;refine wpAny_If (C6 (hc pins s σ H _ I h) λ d s1 ⟨H1,I1,q1⟩=>?_)
 cases d with
 | true=>exact ha pins s1 σ H1 D I1 q1
 | false=>exact hb pins s1 σ H1 D I1 q1
def b3y:TS:=λ _ _ _=>False
theorem a3Q {sts:List Stmt}:PSs X sts b3y:=λ _ _ _ _ _ _ h=>h.elim
end
abbrev TG:=V->St->Hp->(St->Hp->Prop)->Prop
abbrev TGs:=List V->St->Hp->(St->Hp->Prop)->Prop
def PG (X:Cx) (target:Expr) (t:TG):Prop :=
 ∀ (pins:List (Addr×Obj)) (s:Shared) (σ:St) (H:Hp) (v:V) (u:Value) (Q:St->Hp->Prop),Inv X pins σ H s->RelV v u->t v σ H Q →
  wpAny (model X.prog X.w) X.A (assign target X.env u) (λ _ s'=>∃ σ' H',Inv X pins σ' H' s'/\Q σ' H') X.xe s
def PGs (X:Cx) (ts:List Expr) (t:TGs):Prop :=
 ∀ (pins:List (Addr×Obj)) (s:Shared) (σ:St) (H:Hp) (vs:List V) (us:List Value) (Q:St->Hp->Prop),Inv X pins σ H s->Vals vs us->t vs σ H Q →
  wpAny (model X.prog X.w) X.A (assignInOrder ((assignEach ts X.env).map (·.2)) us) (λ _ s'=>∃ σ' H',Inv X pins σ' H' s'/\Q σ' H') X.xe s
abbrev b3X:=V->V->V->Hp->(Hp->Prop)->Prop
def b4J (X:Cx) (t:b3X):Prop :=
 ∀ (pins:List (Addr×Obj)) (s:Shared) (σ:St) (H:Hp) (o i v:V) (ov iv u:Value) (Q:Hp->Prop),Inv X pins σ H s->RelV o ov->RelV i iv->RelV v u->t o i v H Q →
  wpAny (model X.prog X.w) X.A (setItem ov iv u) (λ _ s'=>∃ H',Inv X pins σ H' s'/\Q H') X.xe s
section
variable {X:Cx} {pos:Pos}
def O6 (i:Nat):TG:=λ v σ H Q=>Q (σ.set i (some v)) H
theorem i7 {i:Nat} {x:Str} (hN:X.N.Nodup) (hi:X.N[i]?=some x) (hx:Loc X.env.scope x) (hf:X.fn x=true\/X.env.scope.names.lookup x=some .local:=by first | exact .inl rfl | exact .inr rfl | assumption):PG X (.Name x pos) (O6 i):=by
 intro pins s σ H v u Q I r h;exact wpAny_assign_Name (a1r I hN hi hx r (λ s' I'=>⟨_,H,I',h⟩) hf)
def a6l:TGs:=λ vs σ H Q=>vs=[]/\Q σ H
def V5 (t:TG) (u:TGs):TGs:=λ vs σ H Q=>∃ v r,vs=v::r/\t v σ H λ σ' H'=>u r σ' H' Q
theorem v7:PGs X [] a6l:=by
 intro pins s σ H vs us Q I r h;obtain ⟨e,h⟩:=h;subst e
 cases r;exact assignInOrder_nil ⟨σ,H,I,h⟩
theorem j3 {e:Expr} {es:List Expr} {t:TG} {u:TGs} (h1:PG X e t) (h2:PGs X es u)
  (hs:(assignEach (e::es) X.env).map (·.2)=assign e X.env::(assignEach es X.env).map (·.2):=by rfl):PGs X (e::es) (V5 t u):=by
 intro pins s σ H vs us Q I r h;obtain ⟨v,vr,e1,h⟩:=h;subst e1
 cases r with
 | cons r rr =>
  rw [hs];refine assignInOrder_cons (C6 (h1 pins s σ H _ _ _ I r h) λ _ s1 ⟨σ1,H1,I1,q1⟩=>?_);exact h2 pins s1 σ1 H1 _ _ Q I1 rr q1
def a5m (K:W.Frag) (n:Nat) (t:TGs):TG:=λ v σ H Q=>∃ a xs,v=.ref a/\SqT K H a xs/\xs.length=n/\t xs σ H Q
theorem S5 {es:List Expr} {k:Nat} {t:TGs} {n:Nat} (hc:X.calm=true) (h:PGs X es t)
  (hn:(assignEach es X.env).length=n:=by rfl) (hst:(assignEach es X.env).findIdx? (·.1)=none:=by rfl):PG X (.Tuple es k pos) (a5m X.K n t):=by
 intro pins s σ H v u Q I r hw;obtain ⟨a,xs,e1,hq,hl,hw⟩:=hw;subst e1
 cases r;obtain ⟨its,rv,ht,hz⟩:=I.tuple hq;refine assign_Tuple_tuple (I.ok.hd hc) ht (by simp [hn,<- hl,rv.length]) hst λ h' hx=>?_;have I1:Inv X pins σ H { s with heap:=h' }:=I.kept (t':=s.toks) λ b o e=>hx b o (bI (Heap.lt_size e)) e;exact h pins _ σ H xs _ Q I1 (by simpa using rv) hw
def b6G (to ti:TE) (t:b3X):TG:=λ v σ H Q=>to σ H λ o H1=>ti σ H1 λ i H2=>t o i v H2 λ H3=>Q σ H3
theorem W6 {o i:Expr} {to ti:TE} {t:b3X} (ho:PE X o to) (hi:PE X i ti) (hs:b4J X t)
  (ha:∀ v,assign (.Subscript o i pos) X.env v=(do
   let ov <- holding [v] (eval o X.env)
   let iv <- holding [v,ov] (eval i X.env)
   standAt pos
   holding [v,ov,iv] (setItem ov iv v)
   release [v,ov,iv] []):=by intro _; rfl):PG X (.Subscript o i pos) (b6G to ti t):=by
 intro pins s σ H v u Q I r h;rw [ha];refine wpAny_bind (wpAny_holding (C6 (ho pins s σ H _ I h) λ ov s1 ⟨x,H1,I1,r1,q1⟩=>?_));refine wpAny_bind (wpAny_holding (C6 (hi pins s1 σ H1 _ I1 q1) λ iv s2 ⟨y,H2,I2,r2,q2⟩=>?_));refine wpAny_bind (wpAny_standAt (wpAny_bind (wpAny_holding (C6 (hs pins s2 σ H2 x y v ov iv u _ I2 r1 r2 r q2) λ _ s3 ⟨H3,I3,q3⟩=>?_))));exact wpAny_release ⟨σ,H3,I3,q3⟩
def a8M (te:TE) (g:TG):TS:=λ D σ H=>te σ H λ x H1=>g x σ H1 D.nx
theorem K4 {tg e:Expr} {te:TE} {g:TG} (he:PE X e te) (hg:PG X tg g) (hs:swapsWithSole [tg] e pos.line X.env=pure false:=by rfl) (hw:swappedStores [tg] e X.env=pure none:=by rfl)
  (h1:(assignEach [tg] X.env).map (·.2)=[assign tg X.env]:=by rfl):PS X (.Assign [tg] e pos) (a8M te g):=by
 intro pins s σ H D I h;refine wpAny_Assign_stores (C6 (he pins s σ H _ I h) λ v s1 ⟨x,H1,I1,r1,q1⟩=>?_) hs hw;rw [h1];exact C6 (hg pins s1 σ H1 x v _ I1 r1 q1) λ _ s2 q=>q
theorem j4 {i:Nat} {x:Str} {e:Expr} {te:TE} {pos':Pos} (hN:X.N.Nodup) (hi:X.N[i]?=some x) (hx:Loc X.env.scope x) (he:PE X e te) (hs:swapsWith e (some (.Name x pos')) pos.line X.env=pure false:=by rfl) (hf:X.fn x=true\/X.env.scope.names.lookup x=some .local:=by first | exact .inl rfl | exact .inr rfl | assumption) :
  PS X (.Assign [.Name x pos'] e pos) (a8M te (O6 i)):=by
 intro pins s σ H D I h;refine wpAny_Assign_Name (C6 (he pins s σ H _ I h) λ v s1 ⟨y,H1,I1,r1,q1⟩=>?_) hs;exact a1r I1 hN hi hx r1 (λ s2 I2=>⟨_,H1,I2,q1⟩) hf
def b6Q (i j:Nat) (ta:TA):TS:=λ D σ H=>ta σ H λ vs H1=>∃ v w,vs=[v,w]/\D.nx ((σ.set i (some v)).set j (some w)) H1
theorem b3A {i j:Nat} {x y:Str} {a b:Expr} {ta:TA} {px py pt:Pos} {kt k2 pt2} (hc:X.calm=true) (hN:X.N.Nodup) (hi:X.N[i]?=some x) (hj:X.N[j]?=some y) (hij:i≠j)
  (hx:X.env.scope.names.lookup x=some .local) (hy:X.env.scope.names.lookup y=some .local) (ha:PA X [a,b] ta)
  (hw:swappedStores [.Tuple [.Name x px,.Name y py] kt pt] (.Tuple [a,b] k2 pt2) X.env=pure (some [x,y]))
  (hs:swapsWithSole [.Tuple [.Name x px,.Name y py] kt pt] (.Tuple [a,b] k2 pt2) pos.line X.env=pure false:=by rfl) :
  PS X (.Assign [.Tuple [.Name x px,.Name y py] kt pt] (.Tuple [a,b] k2 pt2) pos) (b6Q i j ta):=by
 intro pins s σ H D I h;rw [exec_Assign_arm];refine wpAny_bind (wpAny_standAt ?_);rw [hs];refine wpAny_bind (wpAny_pure ?_);rw [if_neg (by decide)];refine wpAny_bind (Tuple_ (C6 (ha _ pins s σ H _ I h) λ us s1 ⟨vs,H1,I1,r1,q1⟩=>?_));obtain ⟨v,w,e1,q1⟩:=q1;subst e1;obtain ⟨u1,u2,rfl,rv,rw'⟩:∃ u1 u2,us=[u1,u2]/\RelV v u1/\RelV w u2:=by
  cases r1 with
  | cons p q =>
   cases q with
   | cons p' q' =>
    cases q';exact ⟨_,_,rfl,p,p'⟩
 refine wpAny_newObj_type ?_ (by show 2<=sizeLine; decide);have I2:Inv X pins σ H1 { s1 with heap:=s1.heap.push { cls:=.type "tuple",data:=.seq [u1,u2].toArray } }:=I1.kept (t':=s1.toks) λ b o e=>Heap.get?_push_of_some _ e;rw [hw];refine wpAny_bind (wpAny_pure ?_)
 show wpAny (model X.prog X.w) X.A (do rule "assign.swapped-stores"; let items <- unpackItems (.ref s1.heap.objs.size) 2 none; assignInOrder [λ v=>bindName X.env y v,λ v=>bindName X.env x v] items.reverse; pure Flow.next) _ _ _
 refine wpAny_bind (wpAny_rule (wpAny_bind (unpackItems_tuple (items:=#[u1,u2]) (I.ok.hd hc) (IsTup.new s1.heap _) λ h' hx'=>?_)));have I3:=I2.kept (h':=h') (t':=s1.toks) λ b o e=>hx' b o (bI (Heap.lt_size e)) e
 show wpAny _ _ (assignInOrder [λ v=>bindName X.env y v,λ v=>bindName X.env x v] [u2,u1] >>= λ _=>pure Flow.next) _ _ _
 refine wpAny_bind (assignInOrder_cons (wpAny_bindName (a1r I3 hN hj (.inl hy) rw' (λ s2 I4=>?_) (.inr hy))));refine assignInOrder_cons (wpAny_bindName (a1r I4 hN hi (.inl hx) rv (λ s3 I5=>assignInOrder_nil (wpAny_pure ?_)) (.inr hx)));rw [fH _ _ (aY hij)] at I5;exact ⟨_,H1,I5,q1⟩
end
section
variable {X:Cx} {pos:Pos}
def a9s (c:TT) (tb:TS):TS:=λ D σ H=>∃ W:Nat->St->Hp->Prop,(∃ m,W m σ H)/\∀ m σ H,W m σ H →
 c σ H λ b H1=>if b=true then ∃ N:St->Hp->Prop,(∀ σ' H',N σ' H'->∃ m',m'<m/\W m' σ' H')/\tb { D with nx:=N,ct:=N,bk:=D.nx } σ H1 else D.nx σ H1
theorem a3w {c:Expr} {body:List Stmt} {tc:TT} {tb:TS} (hp:PassesOwn (model X.prog X.w) X.A X.env X.xe) (hc:PT X c tc) (hb:PSs X body tb):PS X (.While c body [] pos) (a9s tc tb):=by
 intro pins s σ H D I h;obtain ⟨W,⟨m0,w0⟩,turn⟩:=h;refine wpAny_While (codeAny_whileLoop (λ n s'=>∃ σ' H',Inv X pins σ' H' s'/\W n σ' H') ?_ m0 ⟨σ,H,I,w0⟩);rintro n s1 ⟨σ1,H1,I1,w1⟩;refine wpAny_passesOwn hp (C6 (hc pins s1 σ1 H1 _ I1 (turn n σ1 H1 w1)) λ b s2 ⟨H2,I2,q2⟩=>?_)
 cases b with
 | true =>
  obtain ⟨N,hN,q2⟩:=q2;rw [if_pos rfl];refine wpAny_passesOwn hp (C6 (hb pins s2 σ1 H2 _ I2 q2) λ f s3 q3=>?_)
  cases f with
  | next =>
   obtain ⟨σ3,H3,I3,n3⟩:=q3;obtain ⟨m',hm,w3⟩:=hN σ3 H3 n3;exact ⟨m',hm,σ3,H3,I3,w3⟩
  | cont =>
   obtain ⟨σ3,H3,I3,n3⟩:=q3;obtain ⟨m',hm,w3⟩:=hN σ3 H3 n3;exact ⟨m',hm,σ3,H3,I3,w3⟩
  | brk=>exact q3
  | ret v=>exact q3
 | false =>
  rw [if_neg bX];exact wpAny_execs_nil ⟨σ1,H2,I2,q2⟩
end
structure It where
 go:Nat->Hp->Prop
 yld:Nat->Hp->V->Hp->Prop
 stop:Nat->Hp->Prop
def Y3 (X:Cx) (pins:List (Addr×Obj)) (H:Hp) (b:Addr):Prop :=
 H b=none/\b≠X.env.locals/\b ∉ X.fs/\(b∈X.ex\/X.s₀.heap.objs.size<=b)/\(∀ x c,X.env.cells.lookup x=some c->c≠b)/\∀ p∈X.pn++pins,p.1≠b
theorem Inv.fpOk {X:Cx} {pins:List (Addr×Obj)} {σ:St} {H H':Hp} {s:Shared} {b:Addr} (I:Inv X pins σ H s) (hb:s.heap.objs.size<=b) (hn:H' b=none):Y3 X pins H' b:=by
 refine ⟨hn,dY (bA I.lt hb),I.nofs hb,.inr (aZ I.sz hb),λ x c e z=>?_,λ p hp z=>?_⟩
 ·obtain ⟨v,q⟩:=I.cell x c e
  exact absurd (bA q.lt (by rw [z]; exact hb)) (cA _)
 ·exact absurd (bA (Heap.lt_size (I.pin p hp).1) (by rw [z]; exact hb)) (cA _)
structure a6K (P:Program) (w:World) (K:W.Frag) (tg:Expr) (J:It) (fp:List Addr) (it:Addr) (tn:Nat->Heap->Prop):Prop where
 mem:it∈fp
 obj:∀ i h,tn i h->∀ b∈fp,∃ o,h.get? b=some o/\∀ v,o.data≠.cell v
 keep:∀ i h h',tn i h->(∀ b∈fp,∀ o,h.get? b=some o->h'.get? b=some o)->tn i h'
 item:∀ (X:Cx),X.prog=P->X.w=w->X.K=K->X.calm=true->∀ (i:Nat) (pins:List (Addr×Obj)) (s:Shared) (σ:St) (H:Hp) (E:Value->Shared->Prop),Inv X pins σ H s->(∀ b∈fp,Y3 X pins H b)->tn i s.heap->J.go i H →
  wpAny (model P w) X.A (pyNext (.ref it)) (λ r s1=>∃ u,r=some u ∧
   wpAny (model P w) X.A (letOwnedTupleGo tg (.ref it) u) (λ _ s2=>∃ x H',Inv X pins σ H' s2/\RelV x u/\J.yld i H x H'/\tn (i+1) s2.heap/\∀ b∈fp,H' b=none) E s1) E s
 done:∀ (X:Cx),X.prog=P->X.w=w->X.K=K->X.calm=true->∀ (i:Nat) (pins:List (Addr×Obj)) (s:Shared) (σ:St) (H:Hp) (E:Value->Shared->Prop),Inv X pins σ H s->(∀ b∈fp,Y3 X pins H b)->tn i s.heap->J.stop i H →
  wpAny (model P w) X.A (pyNext (.ref it)) (λ r s1=>r=none/\Inv X pins σ H s1) E s
 self:∀ (A:Around) (i:Nat) (s:Shared) (Q:Value->Shared->Prop) (E:Value->Shared->Prop),tn i s.heap->Q (.ref it) s->wpAny (model P w) A (pyIter (.ref it)) Q E s
abbrev TI:=St->Hp->(It->Hp->Prop)->Prop
def PIE (X:Cx) (pins:List (Addr×Obj)) (σ:St) (tg:Expr) (R:It->Hp->Prop) (itv:Value) (s2:Shared):Prop :=
 ∃ (it:Addr) (fp:List Addr) (tn:Nat->Heap->Prop) (J:It) (H':Hp),itv=.ref it/\Inv X pins σ H' s2/\a6K X.prog X.w X.K tg J fp it tn/\tn 0 s2.heap/\(∀ b∈fp,Y3 X pins H' b)/\R J H'
def PI (X:Cx) (tg iter:Expr) (wi:TI):Prop :=
 ∀ (pins:List (Addr×Obj)) (s:Shared) (σ:St) (H:Hp) (R:It->Hp->Prop),Inv X pins σ H s->wi σ H R →
  wpAny (model X.prog X.w) X.A (eval iter X.env) (λ v s1=>wpAny (model X.prog X.w) X.A (pyIter v) (PIE X pins σ tg R) X.xe s1) X.xe s
theorem b0V {M:Model} {A:Around} {E:Value->Shared->Prop} {s:Shared} {tg:Expr} {it:Addr} {u:Value} {o:Obj} {n:String} {vs:Array Value} {Q:Unit->Shared->Prop} (ho:s.heap.get? it=some o) (hc:o.cls=.type n) (hd:o.data=.fields vs)
    (hn:["enumerate","zip","dict_itemiterator","dict_reverseitemiterator","odict_iterator","itertools.zip_longest","itertools.pairwise"].contains n=false) (hQ:Q () s):wpAny M A (letOwnedTupleGo tg (.ref it) u) Q E s:=by
  unfold letOwnedTupleGo
  cases tg <;> first
    | exact wpAny_pure hQ
    | (cases u <;> first
        | exact wpAny_pure hQ
        | (refine wpAny_bind (wpAny_load ho ?_)
           rw [hc,hd]
           show wpAny M A (if (["enumerate","zip","dict_itemiterator","dict_reverseitemiterator","odict_iterator","itertools.zip_longest","itertools.pairwise"].contains n&&vs[0]?==some (rawInt _))=true then _ else _) Q E s
           rw [if_neg (by intro h; rw [hn,Bool.false_and] at h; cases h)];exact wpAny_pure hQ))
def Itl (K:W.Frag) (a:Addr):It :=
 ⟨λ i H=>∃ xs x,SqL K H a xs/\xs[i]?=some x,λ i H x H'=>H'=H/\∀ xs,SqL K H a xs->xs[i]?=some x,λ i H=>∃ xs,SqL K H a xs/\xs.length<=i⟩
def Itt (K:W.Frag) (a:Addr):It :=
 ⟨λ i H=>∃ xs x,SqT K H a xs/\xs[i]?=some x,λ i H x H'=>H'=H/\∀ xs,SqT K H a xs->xs[i]?=some x,λ i H=>∃ xs,SqT K H a xs/\xs.length<=i⟩
def Itr (lo:Int) (n:Nat):It:=⟨λ i _=>i<n,λ i H x H'=>H'=H/\x=.int (lo+i),λ i _=>n<=i⟩
theorem a8W {P:Program} {w:World} {K:W.Frag} {tg:Expr} (a it:Addr):a6K P w K tg (Itl K a) [it] it (λ i h=>h.IsListIter it a i) where
 mem:=by simp
 obj:=λ i h st b hb=>by
  have e:b=it:=by simpa using hb
  subst e;obtain ⟨o,e,c,d⟩:=st;exact ⟨o,e,λ v z=>by rw [d] at z; cases z⟩
 keep:=λ i h h' st k=>st.at λ o e=>k it (by simp) o e
 item:=by
  intro X hP hw hK hc i pins s σ H E I hf st hg;subst hP hw hK;obtain ⟨xs,x,hq,hx⟩:=hg;obtain ⟨its,rv,p,hz⟩:=I.list hq;obtain ⟨u,hu,ru⟩:=rv.get hx;obtain ⟨f0,f1,f2,f3,f4,f5⟩:=hf it (by simp);refine wpAny_pyNext_list_item st p.isList (x:=u) (by simpa using hu) λ h' st' sb=>?_;have I1:Inv X pins σ H { s with heap:=h' }:=I.turned (t':=s.toks) (λ b o hb e=>(sb.2 b hb).trans e) f0 f1 f3 f4 f5;obtain ⟨o,e,c,d⟩:=id st';exact ⟨u,rfl,b0V (s:={ s with heap:=h' }) e c d (by decide) ⟨x,H,I1,ru,⟨rfl,λ ys hy=>by rw [I.list_inj hy hq]; exact hx⟩,st',λ b hb=>(hf b hb).1⟩⟩
 done:=by
  intro X hP hw hK hc i pins s σ H E I hf st hg;subst hP hw hK;obtain ⟨xs,hq,hx⟩:=hg;obtain ⟨its,rv,p,hz⟩:=I.list hq;obtain ⟨f0,f1,f2,f3,f4,f5⟩:=hf it (by simp);have hl:=rv.length;exact wpAny_pyNext_list_end (I.ok.hd hc) st p.isList (by simp; omega) λ h' eb=>⟨rfl,I.turned (t':=s.toks) (λ b o hb e=>eb b o hb e) f0 f1 f3 f4 f5⟩
 self:=λ _ _ _ _ _ st h=>wpAny_pyIter_listiter st h
theorem a6p {P:Program} {w:World} {K:W.Frag} {tg:Expr} (a it:Addr):a6K P w K tg (Itt K a) [it] it (λ i h=>h.IsTupleIter it a i) where
 mem:=by simp
 obj:=λ i h st b hb=>by
  have e:b=it:=by simpa using hb
  subst e;obtain ⟨o,e,c,d⟩:=st;exact ⟨o,e,λ v z=>by rw [d] at z; cases z⟩
 keep:=λ i h h' st k=>st.at λ o e=>k it (by simp) o e
 item:=by
  intro X hP hw hK hc i pins s σ H E I hf st hg;subst hP hw hK;obtain ⟨xs,x,hq,hx⟩:=hg;obtain ⟨its,rv,p,hz⟩:=I.tuple hq;obtain ⟨u,hu,ru⟩:=rv.get hx;obtain ⟨f0,f1,f2,f3,f4,f5⟩:=hf it (by simp);refine wpAny_pyNext_tuple_item st (show s.heap.IsTuple a its.toArray from p) (x:=u) (by simpa using hu) λ h' st' sb=>?_;have I1:Inv X pins σ H { s with heap:=h' }:=I.turned (t':=s.toks) (λ b o hb e=>(sb.2 b hb).trans e) f0 f1 f3 f4 f5;obtain ⟨o,e,c,d⟩:=id st';exact ⟨u,rfl,b0V (s:={ s with heap:=h' }) e c d (by decide) ⟨x,H,I1,ru,⟨rfl,λ ys hy=>by rw [I.tuple_inj hy hq]; exact hx⟩,st',λ b hb=>(hf b hb).1⟩⟩
 done:=by
  intro X hP hw hK hc i pins s σ H E I hf st hg;subst hP hw hK;obtain ⟨xs,hq,hx⟩:=hg;obtain ⟨its,rv,p,hz⟩:=I.tuple hq;obtain ⟨f0,f1,f2,f3,f4,f5⟩:=hf it (by simp);have hl:=rv.length;exact wpAny_pyNext_tuple_end (I.ok.hd hc) st (show s.heap.IsTuple a its.toArray from p) (by simp; omega) λ h' eb=>⟨rfl,I.turned (t':=s.toks) (λ b o hb e=>eb b o hb e) f0 f1 f3 f4 f5⟩
 self:=λ _ _ _ _ _ st h=>wpAny_pyIter_tupleiter st h
theorem a6B {P:Program} {w:World} {K:W.Frag} {tg:Expr} (it:Addr) (lo:Int) (n:Nat):a6K P w K tg (Itr lo n) [it] it (λ i h=>IsRangeIter h it (lo+(i:Nat)*1) ((n:Int) - (i:Nat)) 1) where
 mem:=by simp
 obj:=λ i h st b hb=>by
  have e:b=it:=by simpa using hb
  subst e;exact ⟨_,st,λ v z=>by
   have z':Data.fields _=Data.cell v:=z
   cases z'⟩
 keep:=λ i h h' st k=>k it (by simp) _ st
 item:=by
  intro X hP hw hK hc i pins s σ H E I hf st hg;subst hP hw hK;obtain ⟨f0,f1,f2,f3,f4,f5⟩:=hf it (by simp);have W:=Walks.range (prog:=X.prog) (w:=X.w) (I.ok.hd hc) it lo 1 n;refine W.item i s _ _ hg st λ v h' tk hv st' kk=>?_;obtain ⟨t,rfl⟩:=hv;have I1:Inv X pins σ H { s with heap:=h',toks:=tk }:=I.turned (λ b o hb e=>kk b o (by simpa using hb) e) f0 f1 f3 f4 f5;refine ⟨_,rfl,b0V (s:={ s with heap:=h',toks:=tk }) (n:="range_iterator") st' rfl rfl (by decide) ⟨.int (lo+i),H,I1,⟨t,?_⟩,⟨rfl,rfl⟩,st',λ b hb=>(hf b hb).1⟩⟩;rw [dZ]
 done:=by
  intro X hP hw hK hc i pins s σ H E I hf st hg;subst hP hw hK;obtain ⟨f0,f1,f2,f3,f4,f5⟩:=hf it (by simp);exact wpAny_pyNext_range_end (I.ok.hd hc) st (by have:n<=i:=hg; omega) λ h' eb=>⟨rfl,I.turned (t':=s.toks) (λ b o hb e=>eb b o hb e) f0 f1 f3 f4 f5⟩
 self:=λ _ _ _ _ _ st h=>wpAny_pyIter_rangeiter st h
section
variable {X:Cx} {tg:Expr}
def b4F (K:W.Frag) (tl:TE):TI:=λ σ H R=>tl σ H λ x H1=>∃ a,x=.ref a/\(∃ xs,SqL K H1 a xs)/\R (Itl K a) H1
def b5q (K:W.Frag) (tl:TE):TI:=λ σ H R=>tl σ H λ x H1=>∃ a,x=.ref a/\(∃ xs,SqT K H1 a xs)/\R (Itt K a) H1
theorem w4 {l:Expr} {tl:TE} (hl:PE X l tl):PI X tg l (b4F X.K tl):=by
 intro pins s σ H R I h;refine C6 (hl pins s σ H _ I h) λ v s1 ⟨x,H1,I1,r1,q1⟩=>?_;obtain ⟨a,e,⟨xs,hq⟩,q⟩:=q1;subst e
 cases r1;obtain ⟨its,rv,p,hz⟩:=I1.list hq;refine wpAny_pyIter_list p.isList ?_;refine ⟨s1.heap.objs.size,[s1.heap.objs.size],_,_,H1,rfl,I1.kept (t':=s1.toks) λ b o e=>Heap.get?_push_of_some _ e,a8W a _,⟨_,Heap.get?_push_size _ rfl,rfl,rfl⟩,λ b hb=>?_,q⟩;have e:b=s1.heap.objs.size:=by simpa using hb
 subst e;exact I1.fpOk (aH _) (I1.hok.fresh (aH _))
theorem a6s {l:Expr} {tl:TE} (hl:PE X l tl):PI X tg l (b5q X.K tl):=by
 intro pins s σ H R I h;refine C6 (hl pins s σ H _ I h) λ v s1 ⟨x,H1,I1,r1,q1⟩=>?_;obtain ⟨a,e,⟨xs,hq⟩,q⟩:=q1;subst e
 cases r1;obtain ⟨its,rv,p,hz⟩:=I1.tuple hq;refine wpAny_pyIter_tuple (show s1.heap.IsTuple a its.toArray from p) ?_;refine ⟨s1.heap.objs.size,[s1.heap.objs.size],_,_,H1,rfl,I1.kept (t':=s1.toks) λ b o e=>Heap.get?_push_of_some _ e,a6p a _,⟨_,Heap.get?_push_size _ rfl,rfl,rfl⟩,λ b hb=>?_,q⟩;have e:b=s1.heap.objs.size:=by simpa using hb
 subst e;exact I1.fpOk (aH _) (I1.hok.fresh (aH _))
theorem a9Q {pins:List (Addr×Obj)} {σ:St} {H:Hp} {s:Shared} {R:It->Hp->Prop} {E:Value->Shared->Prop} {lo hi:Int} {t u v:Tok} {tk:Nat} (I:Inv X pins σ H s) (h1:-(2 ^ 62)<=lo) (h2:lo<2 ^ 62) (h3:-(2 ^ 62)<=hi) (h4:hi<2 ^ 62)
  (q:R (Itr lo (hi - lo).toNat) H):wpAny (model X.prog X.w) X.A (pyIter (.ref s.heap.objs.size)) (PIE X pins σ tg R) E { s with heap:=s.heap.push { cls:=.type "range",data:=.fields #[.int lo t,.int hi u,.int 1 v] },toks:=tk }:=by
 refine wpAny_pyIter_range (IsRange.new ..) (small_one h1 h2 h3 h4) ?_;have I1:Inv X pins σ H { s with heap:=s.heap.push { cls:=.type "range",data:=.fields #[.int lo t,.int hi u,.int 1 v] },toks:=tk }:=I.kept λ b o e=>Heap.get?_push_of_some _ e;refine ⟨(s.heap.push { cls:=.type "range",data:=.fields #[.int lo t,.int hi u,.int 1 v] }).objs.size,[(s.heap.push { cls:=.type "range",data:=.fields #[.int lo t,.int hi u,.int 1 v] }).objs.size],_,_,H,rfl,
  I1.kept (t':=tk) λ b o e=>Heap.get?_push_of_some _ e,a6B _ lo (hi - lo).toNat,?_,λ b hb=>?_,q⟩
 ·have e1:lo+((0:Nat):Int)*1=lo:=by simp
  have e2:(((hi - lo).toNat:Nat):Int) - ((0:Nat):Int)=Builtin.Range.rangeSize lo hi 1:=by rw [rangeSize_one]; split <;> omega
  show IsRangeIter _ _ (lo+((0:Nat):Int)*1) ((((hi - lo).toNat:Nat):Int) - ((0:Nat):Int)) 1
  rw [e1,e2];exact Heap.get?_push_size _ rfl
 ·have e:b=(s.heap.push { cls:=.type "range",data:=.fields #[.int lo t,.int hi u,.int 1 v] }).objs.size:=by simpa using hb
  subst e;exact I1.fpOk (aH _) (I1.hok.fresh (aH _))
def b4H (ta:TA):TI:=λ σ H R=>ta σ H λ vs H1=>∃ j:Int,vs=[.int j]/\-(2 ^ 62)<=j/\j<2 ^ 62/\R (Itr 0 j.toNat) H1
theorem V2 {a:Expr} {ta:TA} {p pos:Pos} (hg:Gl X "range") (hm:X.mg "range"=none) (ha:PA X [a] ta) (hs:starEach [a] X.env=[(false,eval a X.env)]:=by rfl):PI X tg (.Call (.Name "range" p) [a] [] pos) (b4H ta):=by
 intro pins s σ H R I h;refine Call_ (a0C I hg hm boot_range (gD (C6 (ha pos pins s σ H _ I h) λ us s1 ⟨vs,H1,I1,r1,q1⟩=>?_) hs rfl));obtain ⟨j,e,q1,q2,q⟩:=q1;subst e
 cases r1 with
 | cons r rr =>
  cases rr;obtain ⟨t,rfl⟩:=r;exact call_range_1 (a9Q I1 (by omega) (by omega) q1 q2 (by simpa using q))
def b6T (wi:TI) (g:TG) (tb:TS):TS:=λ D σ H=>wi σ H λ J H1=>∃ W:Nat->Nat->St->Hp->Prop,(∃ m,W 0 m σ H1)/\∀ i m σ H,W i m σ H →
 (J.stop i H/\D.nx σ H)\/(J.go i H/\∃ N:St->Hp->Prop,(∀ σ' H',N σ' H'->∃ m',m'<m/\W (i+1) m' σ' H')/\∀ x H',J.yld i H x H'->g x σ H' λ σ2 H2=>tb { D with nx:=N,ct:=N,bk:=D.nx } σ2 H2)
def a2F (fp:List Addr) (h:Heap):List (Addr×Obj):=fp.filterMap λ b=>(h.get? b).map λ o=>(b,o)
theorem W7 {fp:List Addr} {h:Heap} {b:Addr} {o:Obj} (hb:b∈fp) (e:h.get? b=some o):(b,o)∈a2F fp h:=iF.mpr ⟨b,hb,by rw [e]; rfl⟩
theorem a8A {fp:List Addr} {h:Heap} {p:Addr×Obj} (hp:p∈a2F fp h):p.1∈fp/\h.get? p.1=some p.2:=by
 obtain ⟨b,hb,e⟩:=iF.mp hp
 cases q:h.get? b with
 | none=>rw [q] at e; cases e
 | some o =>
  rw [q] at e;have e':(b,o)=p:=aS e;subst e';exact ⟨hb,q⟩
theorem Inv.pinned {pins:List (Addr×Obj)} {σ:St} {H:Hp} {s:Shared} {fp:List Addr} (I:Inv X pins σ H s) (hf:∀ b∈fp,Y3 X pins H b) (ho:∀ b∈fp,∃ o,s.heap.get? b=some o/\∀ v,o.data≠.cell v):Inv X (pins++a2F fp s.heap) σ H s :=
 I.pins_of λ p hp=>(aQ.mp hp).elim (λ z=>I.pin p (cN _ z)) λ z=>by
  obtain ⟨hb,e⟩:=a8A z;obtain ⟨f0,f1,f2,_⟩:=hf p.1 hb;obtain ⟨o,e',d⟩:=ho p.1 hb;rw [e] at e'; cases e';exact ⟨e,f0,f1,f2,d⟩
theorem Inv.unpinned {pins pl:List (Addr×Obj)} {σ:St} {H:Hp} {s:Shared} (I:Inv X (pins++pl) σ H s):Inv X pins σ H s:=I.pins_of λ p hp=>I.pin p (cN _ (dC _ hp))
theorem P3 {iter:Expr} {body:List Stmt} {wi:TI} {g:TG} {tb:TS} {pos:Pos} (hp:PassesOwn (model X.prog X.w) X.A X.env X.xe) (hc:X.calm=true) (hi:PI X tg iter wi) (hg:PG X tg g) (hb:PSs X body tb)
  (hs:∀ x,foldedSetIterable iter X.env x=pure x:=by intro _; rfl):PS X (.For tg iter body [] pos) (b6T wi g tb):=by
 intro pins s σ H D I h;refine wpAny_For (C6 (hi pins s σ H _ I h) λ v s1 h1=>C6 h1 λ itv s2 h2=>?_) hs;obtain ⟨it,fp,tn,J,H2,e,I2,T,st2,f2,W,⟨m0,w0⟩,turn⟩:=h2;subst e;have stat:∀ {H':Hp},(∀ b∈fp,H' b=none)->∀ b∈fp,Y3 X pins H' b:=λ hn b hb=>⟨hn b hb,(f2 b hb).2⟩;refine codeAny_forLoop_any (λ n s'=>∃ i σ' H',Inv X pins σ' H' s'/\tn i s'.heap/\(∀ b∈fp,H' b=none)/\W i n σ' H') ?_ m0 ⟨0,σ,H2,I2,st2,λ b hb=>(f2 b hb).1,w0⟩;rintro n s3 ⟨i,σ3,H3,I3,st3,fr3,w3⟩;rcases turn i n σ3 H3 w3 with ⟨stop,qn⟩ | ⟨go,N,hN,step⟩
 ·refine wpAny_passesOwn hp (C6 (T.done X rfl rfl rfl hc i pins s3 σ3 H3 X.xe I3 (stat fr3) st3 stop) λ r s4 ⟨hr,I4⟩=>?_)
  subst hr;exact wpAny_execs_nil ⟨σ3,H3,I4,qn⟩
 ·refine wpAny_passesOwn hp (C6 (T.item X rfl rfl rfl hc i pins s3 σ3 H3 X.xe I3 (stat fr3) st3 go) λ r s4 ⟨u,hr,h4⟩=>?_)
  subst hr;refine wpAny_passesOwn hp (C6 h4 λ _ s5 ⟨x,H5,I5,r5,y5,st5,fr5⟩=>?_);have I5':=I5.pinned (stat fr5) (T.obj _ _ st5);refine wpAny_passesOwn hp (C6 (hg _ s5 σ3 H5 x u _ I5' r5 (step x H5 y5)) λ _ s6 ⟨σ6,H6,I6,q6⟩=>?_);refine wpAny_passesOwn hp (C6 (hb _ s6 σ6 H6 _ I6 q6) λ f s7 q7=>?_);have again:∀ {σ7:St} {H7:Hp},Inv X (pins++a2F fp s5.heap) σ7 H7 s7->N σ7 H7->∃ m,m<n/\∃ i σ' H',Inv X pins σ' H' s7/\tn i s7.heap/\(∀ b∈fp,H' b=none)/\W i m σ' H':=λ {σ7 H7} I7 n7=>by
   obtain ⟨m',hm,w7⟩:=hN σ7 H7 n7;refine ⟨m',hm,i+1,σ7,H7,I7.unpinned,T.keep _ _ _ st5 λ b hb o e=>(I7.pin (b,o) (cN _ (cN _ (W7 hb e)))).1,λ b hb=>?_,w7⟩;obtain ⟨o,e,d⟩:=T.obj _ _ st5 b hb;exact (I7.pin (b,o) (cN _ (cN _ (W7 hb e)))).2.1
  cases f with
  | next=>obtain ⟨σ7,H7,I7,n7⟩:=q7; exact again I7 n7
  | cont=>obtain ⟨σ7,H7,I7,n7⟩:=q7; exact again I7 n7
  | brk=>obtain ⟨σ7,H7,I7,q7⟩:=q7; exact ⟨σ7,H7,I7.unpinned,q7⟩
  | ret v=>obtain ⟨x7,σ7,H7,I7,r7,q7⟩:=q7; exact ⟨x7,σ7,H7,I7.unpinned,r7,q7⟩
end
theorem Z4 {K:W.Frag} {a:Addr} {xs:List V} {g:TG} {tb:TS} {D:Ends} {σ:St} {H:Hp} (Pv:Nat->St->Hp->Prop) (h0:Pv 0 σ H) (hl:∀ i σ H,i<=xs.length->Pv i σ H->SqL K H a xs)
  (hs:∀ i x σ H,xs[i]?=some x->Pv i σ H->g x σ H λ σ2 H2=>tb { D with nx:=Pv (i+1),ct:=Pv (i+1),bk:=D.nx } σ2 H2) (hd:∀ σ H,Pv xs.length σ H->D.nx σ H) :
  ∃ W:Nat->Nat->St->Hp->Prop,(∃ m,W 0 m σ H)/\∀ i m σ H,W i m σ H →
   ((Itl K a).stop i H/\D.nx σ H)\/((Itl K a).go i H/\∃ N:St->Hp->Prop,(∀ σ' H',N σ' H'->∃ m',m'<m/\W (i+1) m' σ' H')/\∀ x H',(Itl K a).yld i H x H'->g x σ H' λ σ2 H2=>tb { D with nx:=N,ct:=N,bk:=D.nx } σ2 H2):=by
 refine ⟨λ i m σ H=>m=xs.length - i/\i<=xs.length/\Pv i σ H,⟨xs.length,by simp,cB _,h0⟩,?_⟩;rintro i m σ H ⟨rfl,hi,p⟩;have q:=hl i σ H hi p
 by_cases hlt:i<xs.length
 ·refine .inr ⟨⟨xs,xs[i],q,by simp [hlt]⟩,Pv (i+1),λ σ' H' p'=>⟨xs.length - (i+1),by omega,rfl,hlt,p'⟩,λ x H' y=>?_⟩
  obtain ⟨e,y⟩:=y;subst e;exact hs i x σ _ (y xs q) p
 ·have e:i=xs.length:=by omega
  subst e;exact .inl ⟨⟨xs,q,aH _⟩,hd σ H p⟩
theorem a1M {lo:Int} {n:Nat} {g:TG} {tb:TS} {D:Ends} {σ:St} {H:Hp} (Pv:Nat->St->Hp->Prop) (h0:Pv 0 σ H)
  (hs:∀ i σ H,i<n->Pv i σ H->g (.int (lo+i)) σ H λ σ2 H2=>tb { D with nx:=Pv (i+1),ct:=Pv (i+1),bk:=D.nx } σ2 H2) (hd:∀ σ H,Pv n σ H->D.nx σ H) :
  ∃ W:Nat->Nat->St->Hp->Prop,(∃ m,W 0 m σ H)/\∀ i m σ H,W i m σ H →
   ((Itr lo n).stop i H/\D.nx σ H)\/((Itr lo n).go i H/\∃ N:St->Hp->Prop,(∀ σ' H',N σ' H'->∃ m',m'<m/\W (i+1) m' σ' H')/\∀ x H',(Itr lo n).yld i H x H'->g x σ H' λ σ2 H2=>tb { D with nx:=N,ct:=N,bk:=D.nx } σ2 H2):=by
 refine ⟨λ i m σ H=>m=n - i/\i<=n/\Pv i σ H,⟨n,by simp,cB _,h0⟩,?_⟩;rintro i m σ H ⟨rfl,hi,p⟩
 by_cases hlt:i<n
 ·refine .inr ⟨hlt,Pv (i+1),λ σ' H' p'=>⟨n - (i+1),by omega,rfl,hlt,p'⟩,λ x H' y=>?_⟩
  obtain ⟨e,y⟩:=y;subst e y;exact hs i σ _ hlt p
 ·have e:i=n:=by omega
  subst e;exact .inl ⟨Nat.le_refl _,hd σ H p⟩
theorem a5z {c:TT} {tb:TS} {D:Ends} {σ:St} {H:Hp} (Pv:St->Hp->Prop) (μ:St->Hp->Nat) (h0:Pv σ H)
  (hs:∀ σ H,Pv σ H->c σ H λ b H1=>if b=true then tb { D with nx:=λ σ' H'=>Pv σ' H'/\μ σ' H'<μ σ H,ct:=λ σ' H'=>Pv σ' H'/\μ σ' H'<μ σ H,bk:=D.nx } σ H1 else D.nx σ H1)
  (mono:∀ σ H Q Q',(∀ b H1,Q b H1->Q' b H1)->c σ H Q->c σ H Q'):a9s c tb D σ H:=by
 refine ⟨λ m σ H=>m=μ σ H/\Pv σ H,⟨_,rfl,h0⟩,?_⟩;rintro m σ H ⟨rfl,p⟩;refine mono σ H _ _ (λ b H1 q=>?_) (hs σ H p)
 cases b with
 | true=>exact ⟨_,λ σ' H' ⟨p',l⟩=>⟨_,l,rfl,p'⟩,q⟩
 | false=>exact q
abbrev R2:=V->V->Hp->VK->Prop
def OpR (X:Cx) (f:Value->Value->Sem Value) (r:R2):Prop :=
 ∀ (pins:List (Addr×Obj)) (s:Shared) (σ:St) (H:Hp) (x y:V) (v u:Value) (Q:VK),Inv X pins σ H s->RelV x v->RelV y u->r x y H Q →
  wpAny (model X.prog X.w) X.A (f v u) (EP X pins σ Q) X.xe s
def UnR (X:Cx) (f:Value->Sem Value) (r:V->Hp->VK->Prop):Prop :=
 ∀ (pins:List (Addr×Obj)) (s:Shared) (σ:St) (H:Hp) (x:V) (v:Value) (Q:VK),Inv X pins σ H s->RelV x v->r x H Q →
  wpAny (model X.prog X.w) X.A (f v) (EP X pins σ Q) X.xe s
def O8 (X:Cx) (f:Value) (r:List V->Hp->VK->Prop):Prop :=
 ∀ (pins:List (Addr×Obj)) (s:Shared) (σ:St) (H:Hp) (xs:List V) (us:List Value) (Q:VK),Inv X pins σ H s->Vals xs us->r xs H Q →
  wpAny (model X.prog X.w) X.A (call f us) (EP X pins σ Q) X.xe s
def b6A (X:Cx) (r:V->Hp->(Bool->Hp->Prop)->Prop):Prop :=
 ∀ (pins:List (Addr×Obj)) (s:Shared) (σ:St) (H:Hp) (x:V) (v:Value) (Q:Bool->Hp->Prop),Inv X pins σ H s->RelV x v->r x H Q →
  wpAny (model X.prog X.w) X.A (truthy v) (TP X pins σ Q) X.xe s
def tOp (r:R2) (ta tb:TE):TE:=λ σ H Q=>ta σ H λ x H1=>tb σ H1 λ y H2=>r x y H2 Q
def tUn (r:V->Hp->VK->Prop) (ta:TE):TE:=λ σ H Q=>ta σ H λ x H1=>r x H1 Q
def rI (C:Int->Int->Prop) (g:Int->Int->V):R2:=λ x y H Q=>∃ i j,x=.int i/\y=.int j/\C i j/\Q (g i j) H
def rI0 (g:Int->Int->V):R2:=λ x y H Q=>∃ i j,x=.int i/\y=.int j/\Q (g i j) H
def rU (g:Int->V):V->Hp->VK->Prop:=λ x H Q=>∃ i,x=.int i/\Q (g i) H
section
variable {X:Cx} {a b c:Expr} {ta tb tc:TE} {pos:Pos}
theorem b3Y (ha:PE X a ta) (hb:PE X b tb) {pins:List (Addr×Obj)} {s:Shared} {σ:St} {H:Hp} {R:V->V->Hp->Prop} (I:Inv X pins σ H s)
  (h:ta σ H λ x H1=>tb σ H1 λ y H2=>R x y H2) {Q:Value->Shared->Prop} {f:Value->Value->Sem Value}
  (hf:∀ v u s2 x y H2,Inv X pins σ H2 s2->RelV x v->RelV y u->R x y H2->wpAny (model X.prog X.w) X.A (f v u) Q X.xe s2) :
  wpAny (model X.prog X.w) X.A (eval a X.env) (λ v s₁=>wpAny (model X.prog X.w) X.A (eval b X.env) (λ u s₂=>wpAny (model X.prog X.w) X.A (f v u) Q X.xe s₂) X.xe s₁) X.xe s:=by
 refine C6 (ha pins s σ H _ I h) λ v s1 ⟨x,H1,I1,r1,q1⟩=>?_;refine C6 (hb pins s1 σ H1 _ I1 q1) λ u s2 ⟨y,H2,I2,r2,q2⟩=>?_;exact hf v u s2 x y H2 I2 r1 r2 q2
theorem j0 {op:Operator} {r:R2} (ho:OpR X (binaryOp op) r) (ha:PE X a ta) (hb:PE X b tb):PE X (.BinOp a op b pos) (tOp r ta tb):=by
 intro pins s σ H Q I h;exact wpAny_BinOp (b3Y ha hb I h λ v u s2 x y H2 I2 rx ry q=>ho pins s2 σ H2 x y v u Q I2 rx ry q)
theorem R1 {op:UnaryOp} {r:V->Hp->VK->Prop} (ho:UnR X (unaryOp op) r) (ha:PE X a ta):PE X (.UnaryOp op a pos) (tUn r ta):=by
 intro pins s σ H Q I h;exact UnaryOp_ (C6 (ha pins s σ H _ I h) λ v s1 ⟨x,H1,I1,r1,q1⟩=>ho pins s1 σ H1 x v Q I1 r1 q1)
theorem opI {f:Value->Value->Sem Value} {C:Int->Int->Prop} {g:Int->Int->Int}
  (rule:∀ (i j:Int) (t u:Tok) (s:Shared) (Q:Value->Shared->Prop) (E:Value->Shared->Prop),C i j->Q (.int (g i j) s.toks) { s with toks:=s.toks+1 }->wpAny (model X.prog X.w) X.A (f (.int i t) (.int j u)) Q E s) :
  OpR X f (rI C λ i j=>.int (g i j)):=by
 intro pins s σ H x y v u Q I rx ry h;obtain ⟨i,j,rfl,rfl,hc,q⟩:=h;obtain ⟨t,rfl⟩:=rx;obtain ⟨t',rfl⟩:=ry;exact rule i j t t' s _ _ hc ⟨.int (g i j),H,I.tok _,⟨_,rfl⟩,q⟩
theorem b5h {f:Value->Value->Sem Value} {g:Int->Int->Int}
  (rule:∀ (i j:Int) (t u:Tok) (s:Shared) (Q:Value->Shared->Prop) (E:Value->Shared->Prop),Q (.int (g i j) s.toks) { s with toks:=s.toks+1 }->wpAny (model X.prog X.w) X.A (f (.int i t) (.int j u)) Q E s) :
  OpR X f (rI0 λ i j=>.int (g i j)):=by
 intro pins s σ H x y v u Q I rx ry h;obtain ⟨i,j,rfl,rfl,q⟩:=h;obtain ⟨t,rfl⟩:=rx;obtain ⟨t',rfl⟩:=ry;exact rule i j t t' s _ _ ⟨.int (g i j),H,I.tok _,⟨_,rfl⟩,q⟩
theorem b1z {f:Value->Value->Sem Value} {g:Int->Int->Bool}
  (rule:∀ (i j:Int) (t u:Tok) (s:Shared) (Q:Value->Shared->Prop) (E:Value->Shared->Prop),Q (.bool (g i j)) s->wpAny (model X.prog X.w) X.A (f (.int i t) (.int j u)) Q E s) :
  OpR X f (rI0 λ i j=>.bl (g i j)):=by
 intro pins s σ H x y v u Q I rx ry h;obtain ⟨i,j,rfl,rfl,q⟩:=h;obtain ⟨t,rfl⟩:=rx;obtain ⟨t',rfl⟩:=ry;exact rule i j t t' s _ _ ⟨.bl (g i j),H,I,rfl,q⟩
def b6I (i j:Int):Prop:=0<j/\j<1073741824
def b6H (i j:Int):Prop:=0<=j/\j<=1000000/\i.natAbs<2 ^ 64
def CMul (i j:Int):Prop:=(-(2 ^ 64)<i/\i<2 ^ 64)\/(-(2 ^ 64)<j/\j<2 ^ 64)
theorem CMul.ok {i j:Int} (h:CMul i j):IntMulOk i j:=by
 rcases h with ⟨h1,h2⟩ | ⟨h1,h2⟩
 ·exact .of_left (intBits_le_64 h1 h2)
 ·exact .of_right (intBits_le_64 h1 h2)
theorem C2:OpR X (binaryOp .Add) (rI0 λ i j=>.int (i+j)):=b5h λ _ _ _ _ _ _ _ q=>add_int q
theorem a2U:OpR X (binaryOp .Sub) (rI0 λ i j=>.int (i - j)):=b5h λ _ _ _ _ _ _ _ q=>sub_int q
theorem Y4:OpR X (binaryOp .Mult) (rI CMul λ i j=>.int (i*j)):=opI λ _ _ _ _ _ _ _ hc q=>mul_int q hc.ok
theorem a0b:OpR X (binaryOp .FloorDiv) (rI b6I λ i j=>.int (i / j)):=opI λ i j _ _ _ _ _ hc q=>by
 have h1:(0:Int)<j:=hc.1;have h2:j<1073741824:=hc.2;exact floordiv_int (by omega) (by rw [jO i (by omega)]; exact q) (.inl (PyProof.noPylong_small (by omega)))
theorem A4:OpR X (binaryOp .Mod) (rI (λ _ j=>0<j) λ i j=>.int (i % j)):=opI λ i j _ _ _ _ _ hc q=>by
 have h1:(0:Int)<j:=hc;exact mod_int' (by omega) (by rw [Int.fmod_eq_emod_of_nonneg i (by omega)]; exact q)
theorem a4B:OpR X (binaryOp .Pow) (rI b6H λ i j=>.int (i ^ j.toNat)):=opI λ _ _ _ _ _ _ _ hc q=>pow_int_small hc.1 hc.2.1 hc.2.2 q
theorem unI {f:Value->Sem Value} {g:Int->Int}
  (rule:∀ (i:Int) (t:Tok) (s:Shared) (Q:Value->Shared->Prop) (E:Value->Shared->Prop),Q (.int (g i) s.toks) { s with toks:=s.toks+1 }->wpAny (model X.prog X.w) X.A (f (.int i t)) Q E s) :
  UnR X f (rU λ i=>.int (g i)):=by
 intro pins s σ H x v Q I rx h;obtain ⟨i,rfl,q⟩:=h;obtain ⟨t,rfl⟩:=rx;exact rule i t s _ _ ⟨.int (g i),H,I.tok _,⟨_,rfl⟩,q⟩
theorem K5:UnR X (unaryOp .USub) (rU λ i=>.int (-i)):=unI λ _ _ _ _ _ q=>neg_int q
end
def b4V:V->V->Bool
 | .non,.non=>true | .non,.int _=>true | .int _,.non=>true | .non,.bl _=>true | .bl _,.non=>true | .non,.str _=>true | .str _,.non=>true
 | .int _,.int _=>true | .bl _,.bl _=>true | .str _,.str _=>true | .byt _,.byt _=>true
 | .int _,.str _=>true | .str _,.int _=>true | .bl _,.str _=>true | .str _,.bl _=>true
 | _,_=>false
def rEq:R2:=λ x y H Q=>b4V x y=true/\Q (.bl (decide (x=y))) H
def rNe:R2:=λ x y H Q=>b4V x y=true/\Q (.bl (!decide (x=y))) H
theorem a7o {i j:Int}:decide (V.int i=V.int j)=(i==j):=by
 rw [fJ];simp
theorem a9a {i j:Bool}:decide (V.bl i=V.bl j)=(i==j):=by
 rw [fJ];simp
theorem a7q {i j:Str}:decide (V.str i=V.str j)=(i==j):=by
 rw [fJ];simp
theorem a7X {i j:Array UInt8}:decide (V.byt i=V.byt j)=(i.toList==j.toList):=by
 rw [fJ]
 cases i
 cases j;simp
section
variable {X:Cx} {a b c:Expr} {ta tb tc:TE} {pos:Pos}
theorem x8 {pins:List (Addr×Obj)} {σ:St} {H:Hp} {s:Shared} {Q:VK} {k k':Bool} (I:Inv X pins σ H s) (q:Q (.bl k) H) (e:k=k'):EP X pins σ Q (.bool k') s:=by
 subst e;exact ⟨.bl k,H,I,rfl,q⟩
theorem a1e:OpR X (compareOp .Eq) rEq:=by
 intro pins s σ H x y v u Q I rx ry h;obtain ⟨hs,q⟩:=h
 cases x with
 | non =>
  cases rx
  cases y with
  | non=>cases ry; exact lT (x8 I q (by simp))
  | bl j=>cases ry; exact lU (x8 I q (by simp))
  | int j=>obtain ⟨t',rfl⟩:=ry; exact lV (x8 I q (by simp))
  | str j=>obtain ⟨t',rfl⟩:=ry; exact lW (x8 I q (by simp))
  | _=>exact absurd (show false=true from hs) bX
 | bl i =>
  cases rx
  cases y with
  | non=>cases ry; exact lX (x8 I q (by simp))
  | bl j=>cases ry; exact eq_bool (x8 I q a9a)
  | str j=>obtain ⟨t',rfl⟩:=ry; exact lY (x8 I q (by simp))
  | _=>exact absurd (show false=true from hs) bX
 | int i =>
  obtain ⟨t,rfl⟩:=rx
  cases y with
  | non=>cases ry; exact lZ (x8 I q (by simp))
  | int j=>obtain ⟨t',rfl⟩:=ry; exact eq_int (x8 I q a7o)
  | str j=>obtain ⟨t',rfl⟩:=ry; exact mB (x8 I q (by simp))
  | _=>exact absurd (show false=true from hs) bX
 | str i =>
  obtain ⟨t,rfl⟩:=rx
  cases y with
  | non=>cases ry; exact mD (x8 I q (by simp))
  | bl j=>cases ry; exact mG (x8 I q (by simp))
  | int j=>obtain ⟨t',rfl⟩:=ry; exact mH (x8 I q (by simp))
  | str j=>obtain ⟨t',rfl⟩:=ry; exact eq_str (x8 I q a7q)
  | _=>exact absurd (show false=true from hs) bX
 | byt i =>
  obtain ⟨t,rfl⟩:=rx
  cases y with
  | byt j=>obtain ⟨t',rfl⟩:=ry; exact W.eq_bytes (x8 I q a7X)
  | _=>exact absurd (show false=true from hs) bX
 | _=>cases y <;> exact absurd (show false=true from hs) bX
theorem b2D:OpR X (compareOp .NotEq) rNe:=by
 intro pins s σ H x y v u Q I rx ry h;obtain ⟨hs,q⟩:=h
 cases x with
 | non =>
  cases rx
  cases y with
  | non=>cases ry; exact mI (x8 I q (by simp))
  | bl j=>cases ry; exact mJ (x8 I q (by simp))
  | int j=>obtain ⟨t',rfl⟩:=ry; exact mK (x8 I q (by simp))
  | str j=>obtain ⟨t',rfl⟩:=ry; exact mL (x8 I q (by simp))
  | _=>exact absurd (show false=true from hs) bX
 | bl i =>
  cases rx
  cases y with
  | non=>cases ry; exact mM (x8 I q (by simp))
  | bl j=>cases ry; exact ne_bool (x8 I q (congrArg not a9a))
  | str j=>obtain ⟨t',rfl⟩:=ry; exact mO (x8 I q (by simp))
  | _=>exact absurd (show false=true from hs) bX
 | int i =>
  obtain ⟨t,rfl⟩:=rx
  cases y with
  | non=>cases ry; exact mP (x8 I q (by simp))
  | int j=>obtain ⟨t',rfl⟩:=ry; exact ne_int (x8 I q (congrArg not a7o))
  | str j=>obtain ⟨t',rfl⟩:=ry; exact mQ (x8 I q (by simp))
  | _=>exact absurd (show false=true from hs) bX
 | str i =>
  obtain ⟨t,rfl⟩:=rx
  cases y with
  | non=>cases ry; exact mR (x8 I q (by simp))
  | bl j=>cases ry; exact mS (x8 I q (by simp))
  | int j=>obtain ⟨t',rfl⟩:=ry; exact mT (x8 I q (by simp))
  | str j=>obtain ⟨t',rfl⟩:=ry; exact ne_str (x8 I q (congrArg not a7q))
  | _=>exact absurd (show false=true from hs) bX
 | byt i =>
  obtain ⟨t,rfl⟩:=rx
  cases y with
  | byt j=>obtain ⟨t',rfl⟩:=ry; exact W.ne_bytes (x8 I q (congrArg not a7X))
  | _=>exact absurd (show false=true from hs) bX
 | _=>cases y <;> exact absurd (show false=true from hs) bX
theorem a1q:OpR X (compareOp .Lt) (rI0 λ i j=>.bl (decide (i<j))):=b1z λ _ _ _ _ _ _ _ q=>lt_int q
theorem b4M:OpR X (compareOp .LtE) (rI0 λ i j=>.bl (decide (i<=j))):=b1z λ _ _ _ _ _ _ _ q=>le_int q
theorem a0u:OpR X (compareOp .Gt) (rI0 λ i j=>.bl (decide (j<i))):=b1z λ _ _ _ _ _ _ _ q=>gt_int q
theorem a9T:OpR X (compareOp .GtE) (rI0 λ i j=>.bl (decide (j<=i))):=b1z λ _ _ _ _ _ _ _ q=>ge_int q
theorem a0J:OpR X (compareOp .Is) (λ x y H Q=>y=.non/\Q (.bl (decide (x=.non))) H):=by
 intro pins s σ H x y v u Q I rx ry h;obtain ⟨rfl,q⟩:=h
 cases ry;refine is_none_gen (x8 I q ?_)
 cases x <;> first
  | (cases rx; rfl)
  | (obtain ⟨t,rfl⟩:=rx; rfl)
theorem a4F:OpR X (compareOp .IsNot) (λ x y H Q=>y=.non/\Q (.bl (!decide (x=.non))) H):=by
 intro pins s σ H x y v u Q I rx ry h;obtain ⟨rfl,q⟩:=h
 cases ry;refine isnot_none_gen (x8 I q ?_)
 cases x <;> first
  | (cases rx; rfl)
  | (obtain ⟨t,rfl⟩:=rx; rfl)
theorem p7 (b:Expr) {op:CmpOp} (h:op≠.In:=by decide) (h2:op≠.NotIn:=by decide):behindInMarks op b=false:=by
 have e1:(op==CmpOp.In)=false:=by cases op <;> first | rfl | exact absurd rfl h
 have e2:(op==CmpOp.NotIn)=false:=by cases op <;> first | rfl | exact absurd rfl h2
 cases b <;> simp [behindInMarks,e1,e2]
theorem R5 {op:CmpOp} {r:R2} (ho:OpR X (compareOp op) r) (ha:PE X a ta) (hb:PE X b tb) (hm:behindInMarks op b=false):PE X (.Compare a [op] [b] pos) (tOp r ta tb):=by
 intro pins s σ H Q I h;exact wpAny_Compare1 (b3Y ha hb I h λ v u s2 x y H2 I2 rx ry q=>ho pins s2 σ H2 x y v u Q I2 rx ry q) hm
def b2x (t:TE):TT:=λ σ H Q=>t σ H λ x H'=>∃ k,x=.bl k/\Q k H'
theorem m9 {op:CmpOp} {r:R2} (ho:OpR X (compareOp op) r) (ha:PE X a ta) (hb:PE X b tb) (hm:behindInMarks op b=false):PT X (.Compare a [op] [b] pos) (b2x (tOp r ta tb)):=by
 intro pins s σ H Q I h;refine wpAny_isTrue_Compare1 (C6 (ha pins s σ H _ I h) λ v s1 ⟨x,H1,I1,r1,q1⟩=>C6 (hb pins s1 σ H1 _ I1 q1) λ u s2 ⟨y,H2,I2,r2,q2⟩ =>
  C6 (ho pins s2 σ H2 x y v u _ I2 r1 r2 q2) λ c s3 ⟨z,H3,I3,r3,k,e,q3⟩=>?_) hm
 subst e
 cases r3;exact wpAny_truthy_bool ⟨H3,I3,q3⟩
def b3c (r r':R2) (ta tb tc:TE):TE:=λ σ H Q=>ta σ H λ x H1=>tb σ H1 λ y H2=>r x y H2 λ z H3=>∃ k,z=.bl k ∧
 (if k=true then tc σ H3 λ w' H4=>r' y w' H4 Q else Q (.bl false) H3)
theorem b0d {op op':CmpOp} {r r':R2} (ho:OpR X (compareOp op) r) (ho':OpR X (compareOp op') r') (ha:PE X a ta) (hb:PE X b tb) (hc:PE X c tc)
  (hm:lastMarks [op,op'] [b,c]=false:=by with_unfolding_all rfl):PT X (.Compare a [op,op'] [b,c] pos) (b2x (b3c r r' ta tb tc)):=by
 intro pins s σ H Q I h;refine isTrue_chain (C6 (ha pins s σ H _ I h) λ v s1 ⟨x,H1,I1,r1,q1⟩=>test_link (C6 (hb pins s1 σ H1 _ I1 q1) λ u s2 ⟨y,H2,I2,r2,q2⟩ =>
  C6 (ho pins s2 σ H2 x y v u _ I2 r1 r2 q2) λ d s3 ⟨z,H3,I3,r3,k,e,q3⟩=>?_)) hm
 subst e
 cases r3;refine wpAny_truthy_bool ?_
 cases k with
 | false =>
  obtain ⟨k',e',q'⟩:=q3
  cases e';exact ite_ff ⟨H3,I3,q'⟩
 | true =>
  refine ite_tt (test_last (C6 (hc pins s3 σ H3 _ I3 q3) λ w' s4 ⟨z',H4,I4,r4,q4⟩=>C6 (ho' pins s4 σ H4 y z' u w' _ I4 r2 r4 q4) λ d' s5 ⟨z2,H5,I5,r5,k2,e2,q5⟩=>?_));subst e2
  cases r5;exact wpAny_truthy_bool ⟨H5,I5,q5⟩
def b4Y (K:W.Frag) (x:V) (H:Hp) (k:Bool):Prop :=
 match x with
 | .non=>k=false
 | .bl b=>k=b
 | .int i=>k=(i != 0)
 | .str y=>y.length<=sizeLine/\k=((y.length:Int) != 0)
 | .byt y=>y.size<=sizeLine/\k=((y.size:Int) != 0)
 | .ref p=>(∃ xs,SqL K H p xs/\k=!xs.isEmpty)\/(∃ xs,SqT K H p xs/\k=!xs.isEmpty)\/∃ kvs,H p=some (.dK kvs)/\k=!kvs.isEmpty
 | _=>False
theorem a6r {κ:Type} {kvs:List (κ×V)} {vs:List (κ×Value)} (r:KV kvs vs):(!vs.isEmpty)=!kvs.isEmpty:=by
 cases r <;> rfl
theorem a2S {xs:List V} {its:List Value} (r:Vals xs its):(!its.toArray.isEmpty)=!xs.isEmpty:=by
 cases r <;> simp
theorem a3d:(sizeLine:Nat)<2 ^ 63:=by rw [sizeLine_eq]; decide
theorem b3S:b6A X (λ x H Q=>∃ k,b4Y X.K x H k/\Q k H):=by
 intro pins s σ H x v Q I rx h;obtain ⟨k,e,q⟩:=h;have hl:=a3d;have hs:sizeLine=16777216:=sizeLine_eq
 cases x with
 | non =>
  cases rx;have e':k=false:=e;subst e';exact truthy_none ⟨H,I,q⟩
 | bl b =>
  cases rx;have e':k=b:=e;subst e';exact wpAny_truthy_bool ⟨H,I,q⟩
 | int i =>
  obtain ⟨t,rfl⟩:=rx;have e':k=(i != 0):=e;subst e';exact PySem.P.truthy_int ⟨H,I,q⟩
 | str y =>
  obtain ⟨t,rfl⟩:=rx;obtain ⟨hy,e'⟩:y.length<=sizeLine/\k=((y.length:Int) != 0):=e;subst e';exact PySem.P.truthy_str (by omega) ⟨H,I.tok _,q⟩
 | byt y =>
  obtain ⟨t,rfl⟩:=rx;obtain ⟨hy,e'⟩:y.size<=sizeLine/\k=((y.size:Int) != 0):=e;subst e';exact W.truthy_bytes (by omega) ⟨H,I.tok _,q⟩
 | ref p =>
  cases rx;have e':(∃ xs,SqL X.K H p xs/\k=!xs.isEmpty)\/(∃ xs,SqT X.K H p xs/\k=!xs.isEmpty)\/∃ kvs,H p=some (.dK kvs)/\k=!kvs.isEmpty:=e;rcases e' with ⟨xs,hx,e'⟩ | ⟨xs,hx,e'⟩ | ⟨kvs,hx,e'⟩
  ·subst e'
   obtain ⟨its,r,pl,hz⟩:=I.list hx;have hlen:=r.length;exact wpAny_truthy_list pl.isList (by simp only [bD]; omega) ⟨H,I.tok _,by rw [a2S r]; exact q⟩
  ·subst e'
   obtain ⟨its,r,pl,hz⟩:=I.tuple hx;have hlen:=r.length;exact truthy_tuple pl (by simp only [bD]; omega) ⟨H,I.tok _,by rw [a2S r]; exact q⟩
  ·subst e'
   obtain ⟨hz,hS,vs,r,m⟩:kvs.length<=sizeLine/\(p==sysModules)=false/\∃ vs,KV kvs vs/\s.heap.DictOf (a4r X.prog X.w) p vs:=I.hok p _ hx;have hlen:kvs.length=vs.length:=Paired.length r;exact wpAny_truthy_dict hS m (by omega) ⟨H,I.tok _,by rw [a6r r]; exact q⟩
 | _=>exact (show False from e).elim
theorem b0O (ha:PE X a ta) (he:∀ whole,isTrue a X.env whole=(do let v <- whole; standAt a.pos; holding [v] (truthy v))) :
  PT X a (λ σ H Q=>ta σ H λ x H'=>∃ k,b4Y X.K x H' k/\Q k H'):=by
 intro pins s σ H Q I h;exact isTrue_plain (C6 (ha pins s σ H _ I h) λ v s1 ⟨x,H1,I1,r1,q1⟩=>b3S pins s1 σ H1 x v Q I1 r1 q1) (he _)
theorem R9 {x:V} {us:List Value} (r:Vals [x] us):∃ u,us=[u]/\RelV x u:=by
 cases r with
 | cons r1 r2=>cases r2; exact ⟨_,rfl,r1⟩
theorem a8Z {x y:V} {us:List Value} (r:Vals [x,y] us):∃ u w',us=[u,w']/\RelV x u/\RelV y w':=by
 cases r with
 | cons r1 r2 =>
  cases r2 with
  | cons r3 r4=>cases r4; exact ⟨_,_,rfl,r1,r3⟩
theorem a9U:O8 X (.builtin "abs") (λ xs H Q=>∃ i,xs=[.int i]/\Q (.int (if i<0 then -i else i)) H):=by
 intro pins s σ H xs us Q I r h;obtain ⟨i,rfl,q⟩:=h;obtain ⟨u,rfl,t,rfl⟩:=R9 r;exact call_abs_int λ u tk=>⟨.int (if i<0 then -i else i),H,I.tok _,⟨_,rfl⟩,q⟩
theorem a0l (hc:X.calm=true):O8 X (.builtin "min") (λ xs H Q=>∃ i j,xs=[.int i,.int j]/\Q (.int (if j<i then j else i)) H):=by
 intro pins s σ H xs us Q I r h;obtain ⟨i,j,rfl,q⟩:=h;obtain ⟨u,w',rfl,⟨t,rfl⟩,⟨t',rfl⟩⟩:=a8Z r;refine min_two_ints (I.ok.hd hc) λ h' tk k=>⟨_,H,I.kept k,?_,q⟩
 by_cases hj:j<i
 ·rw [if_pos hj,if_pos hj]; exact ⟨_,rfl⟩
 ·rw [if_neg hj,if_neg hj]; exact ⟨_,rfl⟩
theorem a3V:O8 X (.type "int") (λ xs H Q=>(∃ i,xs=[.int i]/\Q (.int i) H)\/∃ k,xs=[.bl k]/\Q (.int (if k then 1 else 0)) H):=by
 intro pins s σ H xs us Q I r h;rcases h with ⟨i,rfl,q⟩ | ⟨k,rfl,q⟩
 ·obtain ⟨u,rfl,t,rfl⟩:=R9 r
  exact call_int_int ⟨.int i,H,I,⟨_,rfl⟩,q⟩
 ·obtain ⟨u,rfl,r1⟩:=R9 r
  cases r1;exact call_int_bool ⟨.int (if k then 1 else 0),H,I.tok _,⟨_,rfl⟩,q⟩
end
structure ObjM (h:Heap) (x dx C:Addr) (mA:Str->Option Value):Prop where
 obj:h.get? x=some (W.instObj C dx)
 ns:h.Ns1 dx mA
 ne:dx≠x
theorem a8I {h:Heap} {dx:Addr} {mA:Str->Option Value} (n:h.Ns1 dx mA):∃ od,h.get? dx=some od/\∀ name,W.lookIn name od=some (mA name):=by
 obtain ⟨o,es,ep,ho,hd,hk,_,hm⟩:=n;refine ⟨o,ho,λ name=>?_⟩;have e:=hm name;unfold nsFind findBy at e;rw [<- Array.find?_toList] at e;unfold W.lookIn;rw [hd];dsimp only
 split
 ·rename_i y q
  rw [q] at e;exact congrArg some e
 ·rename_i q
  rw [q] at e;have a:es.toList.any (·.refKey)=false:=by
   rw [List.any_eq_false];intro y hy;obtain ⟨z,t,hkey⟩:=hk y (Array.mem_toList_iff.mp hy);simp [DictEntry.refKey,hkey]
  have a':¬ es.toList.any (·.refKey)=true:=by rw [a]; exact bX
  rw [if_neg a'];exact congrArg some e
theorem ObjM.look {h:Heap} {x dx C:Addr} {mA:Str->Option Value} (I:ObjM h x dx C mA):∃ od,W.InstAt h x (W.instObj C dx) C (some od)/\∀ name,W.lookIn name od=some (mA name) :=
 let ⟨od,ho,hl⟩:=a8I I.ns
 ⟨od,⟨I.obj,rfl,rfl,ho⟩,hl⟩
section
variable {prog:Program} {w:World} {A:Around} {E:Value->Shared->Prop} {s:Shared} {K:W.Frag} {x dx C f:Addr} {mA:Str->Option Value} {name:Str} {v:Value}
theorem b1Y {expr:Bool} {Q:Value->Shared->Prop} (X:K.In s.heap) (I:ObjM s.heap x dx C mA) (hg:W.plainGet K C name=true) (hh:W.hasDictIn K C=true)
  (ha:W.findIn K (.ref C) name=some none) (hv:mA name=some v) (hv':W.handedIn v=true) (h:Q v { s with toks:=s.toks+1 }) :
  wpAny (model prog w) A (getAttr (.ref x) name expr) Q E s:=by
 obtain ⟨od,J,hl⟩:=I.look;exact W.get_value X J (W.plainGet_of hg).1 (W.findObj_own hh ha rfl (by rw [hl,hv])) hv' h
theorem a9K {pl:Sem Bool} {Q:Value×List Value->Shared->Prop} (X:K.In s.heap) (I:ObjM s.heap x dx C mA) (hg:W.plainGet K C name=true)
  (hf:W.findIn K (.ref C) name=some (some (.ref f))) (ht:W.isFn K (.ref f)=true) (hv:mA name=none) (h:Q (.ref f,[.ref x]) s) :
  wpAny (model prog w) A (getMethod (.ref x) name pl) Q E s:=by
 obtain ⟨od,J,hl⟩:=I.look;exact W.method_fn X J (W.plainGet_of hg).1 (W.plainGet_of hg).2 hf (beq_iff_eq.mp ht) (by show (W.lookIn name od).map (·.isSome)=some false; rw [hl,hv]; rfl) h
theorem b2b {ns:List Str} {Q:Unit->Shared->Prop} (X:K.In s.heap) (I:ObjM s.heap x dx C mA)
  (hs:W.findIn K (.ref C) "__setattr__"=some (some (.builtin "object.__setattr__"))) (hp:W.plainOver K C=true) (ht:W.takerIn K C name=some none) (hh:W.hasDictIn K C=true)
  (hw:iE mA ns) (hsz:ns.length<=sizeLine)
  (h:∀ h',ObjM h' x dx C (λ y=>if y=name then some v else mA y)->Heap.SameBut dx s.heap h'->Q () { s with heap:=h',toks:=s.toks+2 }) :
  wpAny (model prog w) A (setAttr (.ref x) name v) Q E s:=by
 obtain ⟨od,J,hl⟩:=I.look;refine W.set_plain X J hs (W.osa_open (s:={ s with toks:=s.toks+1 }) (r:=none) X J hp ht λ b=>?_);obtain ⟨cd,hc,hd'⟩:=W.any_some hh;have hx:s.heap.get? x=some ⟨.ref C,some dx,.plain,#[]⟩:=I.obj;refine wpAny_bind (wpAny_pure (wpAny_bind (wpAny_bind (wpAny_loadPart hx (wpAny_bind (W.Looks.here (s:={ s with toks:=s.toks+1 }) (W.looks_clsIn X hc) ?_))))));rw [hd'];refine wpAny_pure (a:=some dx) (wpAny_bind (wpAny_pure (wpAny_bind ?_)));refine wpAny_nsSet1 (s:={ s with toks:=s.toks+1 }) I.ns λ h' hn2 hs2=>?_;obtain ⟨oD,esD,epD,hoD,hdD,hcD⟩:=hn2.count (mU name v hw);refine wpAny_bind (wpAny_lookBehind hoD (by rw [hdD]; exact pastItsLine_dict (aZ hcD (by rw [dM]; omega))) ?_);exact wpAny_pure (h _ ⟨(hs2.2 _ (aY I.ne)).trans I.obj,hn2,I.ne⟩ hs2)
theorem a9L {R:Result->Shared->Prop} {vs:List Value} {kw:List (Str×Value)} (X:K.In s.heap) (hm:W.makesIn K C=true)
  (hi:W.findIn K (.ref C) "__init__"=some (some (.ref f))) (hf:W.typeIn K (.ref f)=some (.type "function"))
  (h:codeAny (model prog w) (A.under (.builtin "type.__call__" ⟨.ref C::vs,kw⟩)) (.call (.ref f) ⟨.ref (s.heap.objs.size+1)::vs,kw⟩) (W.InitBack (s.heap.objs.size+1) R)
   { s with heap:=(s.heap.push W.emptyDict).push (W.instObj C s.heap.objs.size) }) :
  codeAny (model prog w) A (.call (.ref C) ⟨vs,kw⟩) R s:=by
 obtain ⟨hh,g,d,t,os⟩:=s;exact W.make_core (W.makes_of X hm) (W.looks_findIn X hi) (λ self=>W.bind_fn X self hf) (.inl rfl) h
end
def a0q (f:Str) (v:V):List (Str×V)->List (Str×V)
 | []=>[(f,v)]
 | (g,x)::r=>if g=f then (g,v)::r else (g,x)::a0q f v r
theorem a2b (f g:Str) (v:V):∀ fs:List (Str×V),(a0q f v fs).lookup g=if g=f then some v else fs.lookup g
 | []=>by
  show eN g [(f,v)]=_
  by_cases h:g=f
  ·have hb:(g==f)=true:=beq_iff_eq.mpr h
   simp only [eN,hb,if_pos h]
  ·have hb:(g==f)=false:=beq_eq_false_iff_ne.mpr h
   simp only [eN,hb,if_neg h]
 | (k,x)::r=>by
  have ih:=a2b f g v r;rw [show a0q f v ((k,x)::r)=(if k=f then (k,v)::r else (k,x)::a0q f v r) from rfl]
  by_cases hk:k=f
  ·rw [if_pos hk]
   by_cases h:g=k
   ·have hb:(g==k)=true:=beq_iff_eq.mpr h
    simp only [eN,hb,if_pos (h.trans hk)]
   ·have hb:(g==k)=false:=beq_eq_false_iff_ne.mpr h
    simp only [eN,hb,if_neg (λ e:g=f=>h (e.trans hk.symm))]
  ·rw [if_neg hk]
   by_cases h:g=k
   ·have hb:(g==k)=true:=beq_iff_eq.mpr h
    simp only [eN,hb,if_neg (λ e:g=f=>hk (h.symm.trans e))]
   ·have hb:(g==k)=false:=beq_eq_false_iff_ne.mpr h
    simp only [eN,hb];exact ih
theorem a1C (f:Str) (v:V):∀ fs:List (Str×V),f∈(a0q f v fs).map (·.1)/\∀ g,g∈fs.map (·.1)->g∈(a0q f v fs).map (·.1)
 | []=>⟨by simp [a0q],λ g h=>by simp at h⟩
 | (k,x)::r=>by
  obtain ⟨i1,i2⟩:=a1C f v r;rw [show a0q f v ((k,x)::r)=(if k=f then (k,v)::r else (k,x)::a0q f v r) from rfl]
  by_cases hk:k=f
  ·rw [if_pos hk]
   subst hk;exact ⟨by simp,λ g h=>by simpa using h⟩
  ·rw [if_neg hk]
   refine ⟨?_,λ g h=>?_⟩
   ·rw [bJ]
    exact bS _ i1
   ·rw [bJ] at h ⊢
    rcases aR.mp h with e | e
    ·exact aR.mpr (.inl e)
    ·exact bS _ (i2 g e)
theorem a2a (f:Str) (v:V):∀ fs:List (Str×V),(a0q f v fs).length<=fs.length+1
 | []=>by simp [a0q]
 | (k,x)::r=>by
  have ih:=a2a f v r;rw [show a0q f v ((k,x)::r)=(if k=f then (k,v)::r else (k,x)::a0q f v r) from rfl]
  by_cases hk:k=f
  ·rw [if_pos hk,dM,dM]; omega
  ·rw [if_neg hk,dM,dM]; omega
theorem RelO.some_of {v:V} {o:Option Value} (r:RelO (some v) o):∃ u,o=some u/\RelV v u:=by
 cases o with
 | none=>exact (show False from r).elim
 | some u=>exact ⟨u,rfl,r⟩
theorem RelO.none_of {o:Option Value} (r:RelO none o):o=none:=by
 cases o with
 | none=>rfl
 | some u=>exact (show False from r).elim
theorem a8o {v:V} {u:Value} (r:RelV v u):W.handedIn u=true:=by
 cases v with
 | non=>cases (show u=Value.none from r); rfl
 | bl b=>cases (show u=Value.bool b from r); rfl
 | int i=>obtain ⟨t,e⟩:=(show ∃ t,u=Value.int i t from r); cases e; rfl
 | str x=>obtain ⟨t,e⟩:=(show ∃ t,u=Value.str x t from r); cases e; rfl
 | byt b=>obtain ⟨t,e⟩:=(show ∃ t,u=Value.bytes b t from r); cases e; rfl
 | flt b=>obtain ⟨t,e⟩:=(show ∃ t,u=Value.float b t from r); cases e; rfl
 | ref a=>cases (show u=Value.ref a from r); rfl
 | ty n=>cases (show u=Value.type n from r); rfl
section
variable {P:Program} {w:World} {H H':Hp} {h h':Heap} {a C dx:Addr} {fs fs':List (Str×V)}
theorem a4W (hok:HOk P w H h) (e:H a=some (.ins C dx fs)):∃ mA,ObjM h a dx C mA/\(∀ f,RelO (fs.lookup f) (mA f))/\iE mA (fs.map (·.1))/\fs.length<=1000/\H dx=some (.own a):=by
 obtain ⟨d,z,ne,ob,mA,n,r,q⟩:=(show ObjOk P w H h a (.ins C dx fs) from hok a _ e);exact ⟨mA,⟨ob,n,ne⟩,r,q,z,d⟩
end
structure Cls (K:W.Frag) (C:Addr):Prop where
 pg:W.plainGet K C Str.empty=true
 hd:W.hasDictIn K C=true
 po:W.plainOver K C=true
 sa:W.findIn K (.ref C) "__setattr__"=some (some (.builtin "object.__setattr__"))
theorem Cls.get {K:W.Frag} {C:Addr} (c:Cls K C) (f:Str):W.plainGet K C f=true:=c.pg
def NoAttr (K:W.Frag) (C:Addr) (f:Str):Prop:=W.findIn K (.ref C) f=some none
theorem NoAttr.taker {K:W.Frag} {C:Addr} {f:Str} (n:NoAttr K C f):W.takerIn K C f=some none:=by
 unfold W.takerIn;rw [show W.findIn K (.ref C) f=some none from n];rfl
structure Con (K:W.Frag) (C:Addr) (f:Str) (v:V) (u:Value):Prop where
 at_:W.findIn K (.ref C) f=some (some u)
 rel:RelV v u
 get:W.specialIn K u "__get__"=some none
 cp:W.copiedNames.contains f=false
structure b1O (K:W.Frag) (C:Addr) (m:Str) (f:Addr):Prop where
 at_:W.findIn K (.ref C) m=some (some (.ref f))
 fn:W.isFn K (.ref f)=true
 kp:W.keepIn K (.ref f)=true
section
variable {X:Cx} {pins:List (Addr×Obj)} {σ:St} {H:Hp} {s:Shared} {a C dx:Addr} {fs:List (Str×V)} {f:Str} {v:V} {A:Around} {E:Value->Shared->Prop}
theorem a6v {b:Bool} {Q:Value->Shared->Prop} (I:Inv X pins σ H s) (e:H a=some (.ins C dx fs)) (c:Cls X.K C) (n:NoAttr X.K C f) (l:fs.lookup f=some v)
  (h:∀ u s',Inv X pins σ H s'->RelV v u->Q u s'):wpAny (model X.prog X.w) A (getAttr (.ref a) f b) Q E s:=by
 obtain ⟨mA,O,r,_,_,_⟩:=a4W I.hok e;obtain ⟨u,hu,ru⟩:=RelO.some_of (v:=v) (o:=mA f) (by rw [<- l]; exact r f);exact b1Y I.kIn O (c.get f) c.hd n hu (a8o ru) (h u _ (I.tok _) ru)
theorem a2M {m:Str} {g:Addr} {pl:Sem Bool} {Q:Value×List Value->Shared->Prop} (I:Inv X pins σ H s) (e:H a=some (.ins C dx fs)) (c:Cls X.K C) (k:b1O X.K C m g) (l:fs.lookup m=none)
  (h:Q (.ref g,[.ref a]) s):wpAny (model X.prog X.w) A (getMethod (.ref a) m pl) Q E s:=by
 obtain ⟨mA,O,r,_,_,_⟩:=a4W I.hok e;have hn:mA m=none:=RelO.none_of (by rw [<- l]; exact r m);exact a9K I.kIn O (c.get m) k.at_ k.fn hn h
theorem a6J {y:V} {u:Value} {Q:Unit->Shared->Prop} (I:Inv X pins σ H s) (e:H a=some (.ins C dx fs)) (c:Cls X.K C) (n:NoAttr X.K C f) (hl:fs.length<1000) (ry:RelV y u)
  (h:∀ s',Inv X pins σ (upd H a (.ins C dx (a0q f y fs))) s'->Q () s'):wpAny (model X.prog X.w) A (setAttr (.ref a) f u) Q E s:=by
 obtain ⟨mA,O,r,wi,_,ho⟩:=a4W I.hok e;have hz:(fs.map (·.1)).length<=sizeLine:=by rw [aA,sizeLine_eq]; omega
 refine b2b I.kIn O c.sa c.po n.taker c.hd wi hz λ h' O' sb=>h _ ?_;have hd:∃ o,h'.get? dx=some o:=let ⟨o,_,_,e',_⟩:=O'.ns; ⟨o,e'⟩
 refine I.write (x:=a) (e:=dx) (by rw [e]; exact jP) (.inr ho) (λ b q hb z=>(sb.2 b hb).trans z) hd ?_;refine ⟨by rw [i3 O.ne]; exact ho,?_,O.ne,O'.obj,_,O'.ns,λ g=>?_,λ g hg=>?_⟩
 ·have:=a2a f y fs; omega
 ·show RelO ((a0q f y fs).lookup g) (if g=f then some u else mA g)
  rw [a2b]
  by_cases q:g=f
  ·rw [if_pos q,if_pos q]; exact ry
  ·rw [if_neg q,if_neg q]; exact r g
 ·by_cases q:g=f
  ·rw [q]; exact (a1C f y fs).1
  ·refine (a1C f y fs).2 g (wi g λ z=>hg ?_)
   show (if g=f then some u else mA g)=none
   rw [if_neg q]; exact z
theorem Inv.made (I:Inv X pins σ H s):Inv X pins σ (upd (upd H s.heap.objs.size (.own (s.heap.objs.size+1))) (s.heap.objs.size+1) (.ins C s.heap.objs.size []))
  { s with heap:=(s.heap.push W.emptyDict).push (W.instObj C s.heap.objs.size) }:=by
 have e1:(s.heap.push W.emptyDict).get? s.heap.objs.size=some W.emptyDict:=Heap.get?_push_size s.heap rfl;have e2:((s.heap.push W.emptyDict).push (W.instObj C s.heap.objs.size)).get? (s.heap.objs.size+1)=some (W.instObj C s.heap.objs.size):=by
  have:=Heap.get?_push_size (s.heap.push W.emptyDict) (o:=W.instObj C s.heap.objs.size) rfl
  rwa [Heap.size_push] at this
 have e3:(s.heap.push W.emptyDict).Ns s.heap.objs.size (λ _=>none):=⟨W.emptyDict,#[],_,e1,rfl,(λ e he=>absurd he (by simp)),λ _=>rfl⟩;have I1:=I.laid (a:=s.heap.objs.size) (o:=.own (s.heap.objs.size+1)) (h':=s.heap.push W.emptyDict) (t':=s.toks) (λ b u q=>Heap.get?_push_of_some _ q) (aH _) ⟨_,e1⟩;refine I1.laid (a:=s.heap.objs.size+1) (o:=.ins C s.heap.objs.size []) (t':=s.toks) (λ b u q=>Heap.get?_push_of_some _ q) (jQ (Heap.size_push _ _)) ?_;have ne:s.heap.objs.size≠s.heap.objs.size+1:=bI (eW _);refine ⟨by rw [i3 ne,upd_same],cB _,ne,e2,λ _=>none,(Heap.Ns1.of_empty e3).at λ o q=>Heap.get?_push_of_some _ q,λ _=>jP,λ y hy=>absurd rfl hy⟩
theorem b1M {prog:Program} {w:World} {env:Env} {e:Expr} {f:Str} {pos:Pos} {s:Shared} {Q:Value->Shared->Prop} (hb:attributeBase e f env (eval e env)=eval e env)
  (h:wpAny (model prog w) A (eval e env) (λ o s₁=>wpAny (model prog w) A (getAttr o f true) Q E s₁) E s):wpAny (model prog w) A (eval (.Attribute e f pos) env) Q E s :=
 Attribute_any_ h (by rw [arm_eval_Attribute,hb])
end
def b5e (K:W.Frag) (ta:TE) (f:Str):TE:=λ σ H Q=>ta σ H λ x H1=>∃ a C dx fs v,x=.ref a/\H1 a=some (.ins C dx fs)/\Cls K C/\NoAttr K C f/\fs.lookup f=some v/\Q v H1
def b6m (K:W.Frag) (ta tv:TE) (f:Str):TS:=λ D σ H=>tv σ H λ y H1=>ta σ H1 λ x H2=>∃ a C dx fs,x=.ref a/\H2 a=some (.ins C dx fs)/\Cls K C/\NoAttr K C f/\fs.length<1000 ∧
 D.nx σ (upd H2 a (.ins C dx (a0q f y fs)))
section
variable {X:Cx} {o e value:Expr} {f:Str} {pos pos' tpos:Pos} {ta tv:TE}
theorem x6 (he:PE X e ta) (hb:attributeBase e f X.env (eval e X.env)=eval e X.env):PE X (.Attribute e f pos) (b5e X.K ta f):=by
 intro pins s σ H Q I h;refine b1M hb (C6 (he pins s σ H _ I h) λ u s1 ⟨x,H1,I1,rx,a,C,dx,fs,v,ex,ea,c,n,l,q⟩=>?_);subst ex;obtain rfl:u=Value.ref a:=rx;exact a6v I1 ea c n l λ u' s2 I2 ru=>⟨v,H1,I2,ru,q⟩
theorem a0N (ha:PE X o ta) (hv:PE X value tv) (hs:swapsWith value (some (.Attribute o f pos')) pos.line X.env=pure false):PS X (.Assign [.Attribute o f pos'] value pos) (b6m X.K ta tv f):=by
 intro pins s σ H D I h;refine plainObj_wpAny_Assign_Attribute (C6 (hv pins s σ H _ I h) λ u s1 ⟨y,H1,I1,ry,q⟩=>C6 (ha pins s1 σ H1 _ I1 q) λ ov s2 ⟨x,H2,I2,rx,a,C,dx,fs,ex,ea,c,n,l,q2⟩=>?_) hs;subst ex;obtain rfl:ov=Value.ref a:=rx;exact a6J I2 ea c n l ry λ s3 I3=>⟨σ,_,I3,q2⟩
end
section
variable {X:Cx} {pins:List (Addr×Obj)} {σ:St} {H:Hp} {s:Shared} {A:Around} {E:Value->Shared->Prop} {Q:Value->Shared->Prop} {c:Value} {b:Bool}
inductive a3z (K:W.Frag) (H:Hp):V->Value->Prop where
 | non:a3z K H .non (.type "NoneType")
 | bl (x:Bool):a3z K H (.bl x) (.type "bool")
 | int (i:Int):a3z K H (.int i) (.type "int")
 | str (x:Str):a3z K H (.str x) (.type "str")
 | flt (x:UInt64):a3z K H (.flt x) (.type "float")
 | lst {a:Addr} {xs:List V} (e:H a=some (.lst xs)):a3z K H (.ref a) (.type "list")
 | frz {a:Addr} {o:Obj} {xs:List V} (e:H a=some (.frz o (.lst xs))):a3z K H (.ref a) (.type "list")
 | tup {a:Addr} {xs:List V} (e:H a=some (.tup xs)):a3z K H (.ref a) (.type "tuple")
 | dK {a:Addr} {kvs:List (Key×V)} (e:H a=some (.dK kvs)):a3z K H (.ref a) (.type "dict")
 | dT {a:Addr} {kvs:List (List Key×V)} (e:H a=some (.dT kvs)):a3z K H (.ref a) (.type "dict")
 | ins {a C dx:Addr} {fs:List (Str×V)} (e:H a=some (.ins C dx fs)) (cl:Cls K C) (ha:W.findIn K (.ref C) "__class__"=some (some (.builtin "object.__class__")))
   (hn:W.specialIn K (.builtin "object.__class__") "__get__"=some (some (.builtin "getset_descriptor.__get__"))) (htk:W.takesIn K (.builtin "object.__class__")=some true)
   (hm:W.mroIn K C (.type "object")=some true):a3z K H (.ref a) (.ref C)
end
structure Room (k:Nat) (A:Around):Prop where
 hd:A.handled=none
 dp:A.depth+3*k+5<recursionLimit
 un:A.units+16*k+200<cLine
theorem Room.mono {j k:Nat} {A:Around} (r:Room k A) (h:j<=k):Room j A:=⟨r.hd,by have:=r.dp; omega,by have:=r.un; omega⟩
theorem Room.deeper {k:Nat} {A:Around} (r:Room (k+1) A) (env:Env):Room k (A.deeper env) :=
 ⟨r.hd,by have:=r.dp; show A.depth+1+3*k+5<_; omega,by have:=r.un; show A.units+3+16*k+200<_; omega⟩
theorem Room.in1 {k:Nat} {A:Around} (r:Room (k+1) A):Room k A.in1 :=
 ⟨r.hd,by have:=r.dp; show A.depth+3*k+5<_; omega,by have:=r.un; show A.units+1+16*k+200<_; omega⟩
theorem a6n {A:Around} {C:Addr} {us:List Value} {kw:List (Str×Value)}:(A.under (.builtin "type.__call__" ⟨.ref C::us,kw⟩)).depth=A.depth+1:=by
 first | rfl | simp [Around.under,Code.weight,Code.isCreation,Code.isGuard,Code.isCaller,Code.frames,Code.isFrame,guardIds]
theorem a6L {A:Around} {C:Addr} {us:List Value} {kw:List (Str×Value)}:(A.under (.builtin "type.__call__" ⟨.ref C::us,kw⟩)).units=A.units+1:=by
 first | rfl | simp [Around.under,Code.cUnits,Code.frames,Code.isFrame]
theorem Room.make {k:Nat} {A:Around} (r:Room (k+1) A) (C:Addr) (us:List Value) (kw:List (Str×Value)):Room k (A.under (.builtin "type.__call__" ⟨.ref C::us,kw⟩)) :=
 ⟨r.hd,by have:=r.dp; rw [a6n]; omega,by have:=r.un; rw [a6L]; omega⟩
theorem Room.depth {k:Nat} {A:Around} (r:Room k A):A.depth<recursionLimit:=by have:=r.dp; omega
theorem Room.units {k:Nat} {A:Around} (r:Room k A):A.units+64<cLine:=by have:=r.un; omega
def b1f:TA:=λ _ H Q=>Q [] H
def b2K (ta:TE) (tr:TA):TA:=λ σ H Q=>ta σ H λ x H1=>tr σ H1 λ xs H2=>Q (x::xs) H2
section
variable {X:Cx} {e:Expr} {es:List Expr} {te:TE} {t:TA} {pos:Pos}
theorem c6:PA X [] b1f:=λ _ _ _ _ H Q I h=>Calls.spliced_nil ⟨[],H,I,.nil,h⟩
theorem c5 (ha:PE X e te) (hr:PA X es t) (hs:starEach (e::es) X.env=(false,eval e X.env)::starEach es X.env:=by rfl):PA X (e::es) (b2K te t):=by
 intro pos pins s σ H Q I h;rw [hs]
 show wpAny _ _ (spliced ((false,eval e X.env)::backTo pos (starEach es X.env))) _ _ s
 refine Calls.spliced_cons (C6 (ha pins s σ H _ I h) λ u s1 ⟨x,H1,I1,r1,q1⟩=>?_);exact C6 (hr pos pins s1 σ H1 _ I1 q1) λ us s2 ⟨xs,H2,I2,r2,q2⟩=>⟨x::xs,H2,I2,.cons r1 r2,q2⟩
def b6a (t:TA):TE:=λ σ H Q=>t σ H λ xs H1=>xs.length<=sizeLine/\∀ p,H1 p=none->Q (.ref p) (upd H1 p (.tup xs))
def b6r (t:TA):TE:=λ σ H Q=>t σ H λ xs H1=>xs.length<=sizeLine/\∀ p,H1 p=none->Q (.ref p) (upd H1 p (.lst xs))
theorem L9 {x1} (h:PA X es t):PE X (.Tuple es x1 pos) (b6a t):=by
 intro pins s σ H Q I hq;refine wpAny_Tuple_spliced (C6 (h pos pins s σ H _ I hq) λ us s1 ⟨xs,H1,I1,r,z,q⟩=>⟨by rw [<- r.length]; exact z,?_⟩);have hf:H1 s1.heap.objs.size=none:=I1.hok.fresh (aH _);refine ⟨.ref s1.heap.objs.size,upd H1 s1.heap.objs.size (.tup xs),I1.laid (t':=s1.toks) (λ b u e=>Heap.get?_push_of_some _ e) (aH _) ?_,rfl,q _ hf⟩;exact ⟨z,us,r,⟨_,Heap.get?_push_size _ rfl,rfl,_,rfl⟩⟩
theorem v6 (h:PA X es t):PE X (.List es pos) (b6r t):=by
 intro pins s σ H Q I hq;refine wpAny_List_spliced (C6 (h pos pins s σ H _ I hq) λ us s1 ⟨xs,H1,I1,r,z,q⟩=>⟨by rw [<- r.length]; exact z,?_⟩);have hf:H1 s1.heap.objs.size=none:=I1.hok.fresh (aH _);refine ⟨.ref s1.heap.objs.size,upd H1 s1.heap.objs.size (.lst xs),I1.laid (t':=s1.toks) (λ b u e=>Heap.get?_push_of_some _ e) (aH _) ?_,rfl,q _ hf⟩;exact ⟨z,us,0,r,Heap.get?_push_size _ rfl⟩
end
abbrev Sp:=List V->Hp->VK->XK->Prop
abbrev CXT:=List Env->Hp->Shared->XK->Value->Shared->Prop
structure Env0 (P:Program) (w:World) (K:W.Frag) (mg:Str->Option Value) (base:Heap) (A:Around) (outer:List Env) (s:Shared) (H:Hp):Prop where
 frames:A.frames=some outer
 mod:Mod K mg base
 bs:∀ b o,base.get? b=some o->s.heap.get? b=some o/\H b=none
 bsz:base.objs.size<=s.heap.objs.size
 funs:s.heap.FunFrames base outer
 frf:∀ b∈frs outer,H b=none
 hok:HOk P w H s.heap
 bare:AllBare s.gens
def CE (outer:List Env) (P:Program) (w:World) (H:Hp) (s:Shared) (Q:VK) (u:Value) (s':Shared):Prop :=
 ∃ v H',s'.os=s.os/\AllBare s'.gens/\Un (frs outer) [] H H' s.heap s'.heap/\HOk P w H' s'.heap/\RelV v u/\Q v H'
def CR (CX:CXT) (outer:List Env) (P:Program) (w:World) (H:Hp) (s:Shared) (Q:VK) (E:XK) (r:Result) (s':Shared):Prop :=
 match r with
 | .ok (.ret u)=>CE outer P w H s Q u s'
 | .ok _=>False
 | .error e=>CX outer H s E e s'
structure FnOk (P:Program) (w:World) (K:W.Frag) (mg:Str->Option Value) (base:Heap) (CX:CXT) (k:Nat) (f:Addr) (fd:FuncData) (ps:List Str) (sp:Sp):Prop where
 len:∀ vs H Q E,sp vs H Q E->vs.length=ps.length
 run:∀ (A:Around) (outer:List Env) (s:Shared) (H:Hp) (args:Args) (us:List Value) (vs:List V) (Q:VK) (E:XK),Room k A->Env0 P w K mg base A outer s H->BindsTo s fd args (ps.zip us)->Vals vs us->sp vs H Q E →
  codeAny (model P w) A (.call (.ref f) args) (CR CX outer P w H s Q E) s
theorem FnOk.imp {P:Program} {w:World} {K:W.Frag} {mg:Str->Option Value} {base:Heap} {CX:CXT} {k:Nat} {f:Addr} {fd:FuncData} {ps:List Str} {sp sp':Sp} (F:FnOk P w K mg base CX k f fd ps sp)
  (h:∀ vs H Q E,sp' vs H Q E->sp vs H Q E):FnOk P w K mg base CX k f fd ps sp' :=
 ⟨λ vs H Q E q=>F.len vs H Q E (h _ _ _ _ q),λ A outer s H args us vs Q E hr he hb hv hs=>F.run A outer s H args us vs Q E hr he hb hv (h _ _ _ _ hs)⟩
theorem Env0.make {P:Program} {w:World} {K:W.Frag} {mg:Str->Option Value} {base:Heap} {A:Around} {outer:List Env} {s:Shared} {H:Hp} (e:Env0 P w K mg base A outer s H) (C:Addr) (us:List Value) (kw:List (Str×Value)) :
  Env0 P w K mg base (A.under (.builtin "type.__call__" ⟨.ref C::us,kw⟩)) outer s H:=⟨by first | exact e.frames | (simpa [Around.under,Code.envs,Code.isFrame,pushEnvs] using e.frames),e.mod,e.bs,e.bsz,e.funs,e.frf,e.hok,e.bare⟩
section
variable {X:Cx} {pins:List (Addr×Obj)} {σ:St} {H:Hp} {s s':Shared}
theorem Inv.env0 (I:Inv X pins σ H s):Env0 X.prog X.w X.K X.mg X.base X.A X.stack s H :=
 ⟨I.ok.frames,I.ok.mod,I.bs,aZ I.ok.bsz I.sz,I.stack,I.stkFree,I.hok,I.bare⟩
theorem Inv.after {Q:VK} {u:Value} (I:Inv X pins σ H s) (h:CE X.stack X.prog X.w H s Q u s'):EP X pins σ Q u s':=by
 obtain ⟨v,H',os,bare,un,hok,r,q⟩:=h;obtain ⟨hh,g,d,t,os'⟩:=s';obtain rfl:os'=s.os:=os;exact ⟨v,H',I.call (h':=hh) (g':=g) (d':=d) (t':=t) (ch:=[]) un hok bare (λ b z=>absurd z (by simp)),r,q⟩
end
def b5z (sp:Sp) (dvs:List V) (E:XK) (t:TA):TE:=λ σ H Q=>t σ H λ vs H1=>sp (vs++dvs) H1 Q E
def b2O (C:Addr) (m:Str) (sp:Sp) (dvs:List V) (E:XK) (ta:TE) (t:TA):TE:=λ σ H Q=>ta σ H λ x H1=>∃ a dx fs,x=.ref a/\H1 a=some (.ins C dx fs)/\fs.lookup m=none ∧
 t σ H1 λ vs H2=>sp (x::(vs++dvs)) H2 Q E
def b4s (C:Addr) (sp:Sp) (dvs:List V) (E:XK) (t:TA):TE:=λ σ H Q=>t σ H λ vs H1=>∀ x dx,H1 x=none->H1 dx=none->dx≠x →
 sp (.ref x::(vs++dvs)) (upd (upd H1 dx (.own x)) x (.ins C dx [])) (λ v H2=>v=.non/\Q (.ref x) H2) E
def Binds (K:W.Frag) (fd:FuncData) (ps:List Str) (ds:List Value):Prop :=
 ∀ (s:Shared) (us:List Value),K.In s.heap->(us++ds).length=ps.length->BindsTo s fd ⟨us,[]⟩ (ps.zip (us++ds))
theorem Binds.all {K:W.Frag} {fd:FuncData} {ps:List Str} (h:∀ us:List Value,us.length=ps.length->bindArgs fd ⟨us,[]⟩=pure (ps.zip us)):Binds K fd ps []:=λ s us _ hl=>by
 rw [iG] at hl ⊢;exact .of_eq (h us hl)
def X4 (CX:CXT) (X:Cx) (E:XK):Prop:=∀ (pins:List (Addr×Obj)) (σ:St) (H:Hp) (s:Shared) (e:Value) (s':Shared),Inv X pins σ H s->CX X.stack H s E e s'->X.xe e s'
section
variable {X:Cx} {CX:CXT} {k:Nat} {f C:Addr} {fd:FuncData} {ps:List Str} {sp:Sp} {dvs:List V} {ds:List Value} {E:XK} {x m:Str} {p pos apos:Pos} {e o:Expr} {es:List Expr} {ta:TE} {t:TA}
theorem a6M {pins:List (Addr×Obj)} {σ:St} {H:Hp} {s:Shared} {Q:VK} {us:List Value} {vs:List V} (F:FnOk X.prog X.w X.K X.mg X.base CX k f fd ps sp) (hr:Room k X.A) (hb:Binds X.K fd ps ds) (hd:Vals dvs ds) (hx:X4 CX X E)
  (I:Inv X pins σ H s) (r:Vals vs us) (h:sp (vs++dvs) H Q E):wpAny (model X.prog X.w) X.A (call (.ref f) us) (EP X pins σ Q) X.xe s:=by
 have r2:Vals (vs++dvs) (us++ds):=r.append hd;have hl:(us++ds).length=ps.length:=by rw [<- r2.length]; exact F.len _ _ _ _ h
 refine wpAny_call (codeAny_mono (F.run X.A X.stack s H ⟨us,[]⟩ (us++ds) (vs++dvs) Q E hr I.env0 (hb s us I.kIn hl) r2 h) λ r s' hq=>?_)
 cases r with
 | error e=>exact hx pins σ H s e s' I hq
 | ok fl =>
  cases fl with
  | ret u=>exact I.after hq
  | next=>exact cZ hq
  | brk=>exact cZ hq
  | cont=>exact cZ hq
theorem i9 (F:FnOk X.prog X.w X.K X.mg X.base CX k f fd ps sp) (hr:Room k X.A) (hg:Gl X x) (hm:X.mg x=some (.ref f)) (hk:W.keepIn X.K (.ref f)=true) (hb:Binds X.K fd ps ds) (hd:Vals dvs ds) (hx:X4 CX X E)
  (ha:PA X (e::es) t) (hdb:(x==("__debug__":Str))=false:=by decide) (he:starEach (e::es) X.env=(false,eval e X.env)::starEach es X.env:=by rfl) (hpl:(backTo pos (starEach es X.env)).any (·.1)=false:=by rfl) :
  PE X (.Call (.Name x p) (e::es) [] pos) (b5z sp dvs E t):=by
 intro pins s σ H Q I h;refine wpAny_Call_Name_kw (a2r I hg hm ?_ hdb);refine W.callWith_K (h₀:=X.base) I.ok.mod.kin hk (C6 (ha pos pins s σ H _ I h) λ us s1 ⟨vs,H1,I1,r,q⟩=>⟨I1.kIn,?_⟩) he hpl;exact a6M F hr hb hd hx I1 r q
theorem a4s {pl:Sem Bool} (he:PE X o ta) (c:Cls X.K C) (hm:b1O X.K C m f) (F:FnOk X.prog X.w X.K X.mg X.base CX k f fd ps sp) (hr:Room k X.A) (hb:Binds X.K fd ps ds) (hd:Vals dvs ds) (hx:X4 CX X E) (ha:PA X (e::es) t)
  (hst:starEach (e::es) X.env=(false,eval e X.env)::starEach es X.env:=by rfl) (hpl:(backTo pos (starEach es X.env)).any (·.1)=false:=by rfl)
  (ht:eval (.Call (.Attribute o m apos) (e::es) [] pos) X.env=(do
   let ov <- eval o X.env
   standAt apos.atName
   let (f,first) <- holding [ov] (getMethod ov m pl)
   callWith pos f first (backTo pos (starEach (e::es) X.env)) (backToKw pos (keywordEach [] X.env))):=by rfl) :
  PE X (.Call (.Attribute o m apos) (e::es) [] pos) (b2O C m sp dvs E ta t):=by
 intro pins s σ H Q I h;refine W.methodCall_KW (pl:=pl) (C6 (he pins s σ H _ I h) λ u s1 ⟨x,H1,I1,rx,a,dx,fs,ex,ea,l,q⟩=>?_) ht;subst ex;obtain rfl:u=Value.ref a:=rx;refine a2M I1 ea c hm l ?_;refine W.callWith_K (first:=[.ref a]) (h₀:=X.base) I.ok.mod.kin hm.kp (C6 (ha pos pins s1 σ H1 _ I1 q) λ us s2 ⟨vs,H2,I2,r,q2⟩=>⟨I2.kIn,?_⟩) hst hpl;exact a6M (us:=.ref a::us) (vs:=.ref a::vs) F hr hb hd hx I2 (.cons rfl r) q2
theorem a0Q {pl:Sem Bool} (he:PE X o ta) (c:Cls X.K C) (hm:b1O X.K C m f) (F:FnOk X.prog X.w X.K X.mg X.base CX k f fd ps sp) (hr:Room k X.A) (hb:Binds X.K fd ps ds) (hd:Vals dvs ds) (hx:X4 CX X E)
  (ht:eval (.Call (.Attribute o m apos) [] [] pos) X.env=(do
   let ov <- eval o X.env
   standAt apos.atName
   let (f,first) <- holding [ov] (getMethod ov m pl)
   callWith pos f first (backTo pos (starEach [] X.env)) (backToKw pos (keywordEach [] X.env))):=by rfl) :
  PE X (.Call (.Attribute o m apos) [] [] pos) (b2O C m sp dvs E ta b1f):=by
 intro pins s σ H Q I h;refine W.methodCall_KW (pl:=pl) (C6 (he pins s σ H _ I h) λ u s1 ⟨x,H1,I1,rx,a,dx,fs,ex,ea,l,q⟩=>?_) ht;subst ex;obtain rfl:u=Value.ref a:=rx;refine a2M I1 ea c hm l ?_;exact W.callWith_K0 (first:=[.ref a]) I1.kIn hm.kp (a6M (us:=[.ref a]) (vs:=[.ref a]) F hr hb hd hx I1 (.cons rfl .nil) q)
structure Mk (K:W.Frag) (C f:Addr):Prop where
 makes:W.makesIn K C=true
 init:W.findIn K (.ref C) "__init__"=some (some (.ref f))
 fn:W.isFn K (.ref f)=true
 kp:W.keepIn K (.ref C)=true
theorem a9S {pins:List (Addr×Obj)} {σ:St} {H:Hp} {s:Shared} {Q:VK} {us:List Value} {vs:List V} (M:Mk X.K C f) (F:FnOk X.prog X.w X.K X.mg X.base CX k f fd ps sp) (hr:Room (k+1) X.A) (hb:Binds X.K fd ps ds) (hd:Vals dvs ds)
  (hx:X4 CX X E) (I:Inv X pins σ H s) (r:Vals vs us)
  (h:∀ x dx,H x=none->H dx=none->dx≠x->sp (.ref x::(vs++dvs)) (upd (upd H dx (.own x)) x (.ins C dx [])) (λ v H2=>v=.non/\Q (.ref x) H2) E) :
  wpAny (model X.prog X.w) X.A (call (.ref C) us) (EP X pins σ Q) X.xe s:=by
 have hq:=h (s.heap.objs.size+1) s.heap.objs.size (I.hok.fresh (fK _)) (I.hok.fresh (aH _)) (bI (eW _));have I2:=Inv.made (C:=C) I;have r2:Vals (V.ref (s.heap.objs.size+1)::(vs++dvs)) (Value.ref (s.heap.objs.size+1)::(us++ds)):=.cons rfl (r.append hd);have hl:(Value.ref (s.heap.objs.size+1)::us++ds).length=ps.length:=by
  have e:=r2.length;rw [F.len _ _ _ _ hq] at e;exact e.symm
 refine wpAny_call (a9L (f:=f) I.kIn M.makes M.init (beq_iff_eq.mp M.fn) (codeAny_mono (F.run _ X.stack _ _ ⟨Value.ref (s.heap.objs.size+1)::us,[]⟩ (Value.ref (s.heap.objs.size+1)::(us++ds)) _ _ E (hr.make C us [])
  (I2.env0.make C us []) (hb _ (Value.ref (s.heap.objs.size+1)::us) I2.kIn hl) r2 hq) λ r s' hq'=>?_))
 cases r with
 | error e=>exact hx pins σ _ _ e s' I2 hq'
 | ok fl =>
  cases fl with
  | ret u =>
   obtain ⟨v,H',I3,rv,ev,q3⟩:=I2.after hq';subst ev;exact ⟨rv,⟨V.ref (s.heap.objs.size+1),H',I3,rfl,q3⟩⟩
  | next=>exact cZ hq'
  | brk=>exact cZ hq'
  | cont=>exact cZ hq'
theorem b1C (M:Mk X.K C f) (F:FnOk X.prog X.w X.K X.mg X.base CX k f fd ps sp) (hr:Room (k+1) X.A) (hg:Gl X x) (hm:X.mg x=some (.ref C)) (hb:Binds X.K fd ps ds) (hd:Vals dvs ds) (hx:X4 CX X E)
  (ha:PA X (e::es) t) (hdb:(x==("__debug__":Str))=false:=by decide) (he:starEach (e::es) X.env=(false,eval e X.env)::starEach es X.env:=by rfl) (hpl:(backTo pos (starEach es X.env)).any (·.1)=false:=by rfl) :
  PE X (.Call (.Name x p) (e::es) [] pos) (b4s C sp dvs E t):=by
 intro pins s σ H Q I h;refine wpAny_Call_Name_kw (a2r I hg hm ?_ hdb);refine W.callWith_K (h₀:=X.base) I.ok.mod.kin M.kp (C6 (ha pos pins s σ H _ I h) λ us s1 ⟨vs,H1,I1,r,q⟩=>⟨I1.kIn,?_⟩) he hpl;exact a9S M F hr hb hd hx I1 r q
end
section
variable {X:Cx} {CX:CXT} {k:Nat} {f C:Addr} {fd:FuncData} {ps ks:List Str} {sp:Sp} {E:XK} {x m:Str} {p pos apos kpos:Pos} {e o:Expr} {es:List Expr} {kws:List Keyword} {te ta:TE} {t tk:TA} {nm:Option Str}
structure b5W (K:W.Frag) (fd:FuncData) (ps ks:List Str) (g:List Value->List Value->List Value) (gV:List V->List V->List V):Prop where
 to:∀ (s:Shared) (us ws:List Value),K.In s.heap->(g us ws).length=ps.length->BindsTo s fd ⟨us,ks.zip ws⟩ (ps.zip (g us ws))
 rel:∀ {vs:List V} {us:List Value} {zs:List V} {ws:List Value},Vals vs us->Vals zs ws->Vals (gV vs zs) (g us ws)
variable {g:List Value->List Value->List Value} {gV:List V->List V->List V}
end
structure m6 (N P:List Str) (sc:Scope):Prop where
 kind:sc.kind=.function
 co:sc.isCoroutine=false
 gen:sc.isGenerator=false
 nd:N.Nodup
 pre:N.take P.length=P
 par:∀ x∈P,sc.names.lookup x=some .local\/sc.names.lookup x=some .cell
 nofree:∀ y∈sc.names,y.2≠.free
theorem a3T {kindOf:Str->Option NameKind} {x:Str}:∀ {binds:List (Str×Value)} {m:Str->Option Value},(∀ v,(x,v) ∉ binds)->bindL kindOf binds m x=m x
 | [],_,_=>rfl
 | (n,v)::r,m,h=>by
  unfold bindL;rw [a3T λ w hw=>h w (bS _ hw)]
  split
  ·have:x≠n:=by rintro rfl; exact h v cE
   simp [this]
  ·rfl
theorem a3W {kindOf:Str->Option NameKind} {x:Str}:∀ {binds:List (Str×Value)} {m:Str->Option Value},(∀ v,(x,v) ∉ binds)->bindC kindOf binds m x=m x
 | [],_,_=>rfl
 | (n,v)::r,m,h=>by
  unfold bindC;rw [a3W λ w hw=>h w (bS _ hw)]
  split
  ·rfl
  ·have:x≠n:=by rintro rfl; exact h v cE
   simp [this]
theorem a3Y {kindOf:Str->Option NameKind} {x:Str} {v:Value}:∀ {P:List Str} {vs:List Value} {i:Nat} {m:Str->Option Value},P.Nodup->P[i]?=some x->vs[i]?=some v->kindOf x=some .local →
  bindL kindOf (P.zip vs) m x=some v
 | [],_,_,_,_,h,_,_=>by simp at h
 | _::_,[],_,_,_,_,h,_=>by simp at h
 | p::P,w::vs,0,m,nd,h1,h2,hk=>by
  simp at h1 h2; subst h1; subst h2
  show bindL kindOf ((p,w)::P.zip vs) m p=_
  unfold bindL;rw [a3T λ v hv=>(gK.mp nd).1 (gL hv).1,if_pos hk];simp
 | p::P,w::vs,i+1,m,nd,h1,h2,hk=>by
  show bindL kindOf ((p,w)::P.zip vs) m x=_
  unfold bindL;exact a3Y (i:=i) (gK.mp nd).2 (by simpa using h1) (by simpa using h2) hk
theorem a4f {kindOf:Str->Option NameKind} {x:Str} {v:Value}:∀ {P:List Str} {vs:List Value} {i:Nat} {m:Str->Option Value},P.Nodup->P[i]?=some x->vs[i]?=some v->kindOf x≠some .local →
  bindC kindOf (P.zip vs) m x=some v
 | [],_,_,_,_,h,_,_=>by simp at h
 | _::_,[],_,_,_,_,h,_=>by simp at h
 | p::P,w::vs,0,m,nd,h1,h2,hk=>by
  simp at h1 h2; subst h1; subst h2
  show bindC kindOf ((p,w)::P.zip vs) m p=_
  unfold bindC;rw [a3W λ v hv=>(gK.mp nd).1 (gL hv).1,if_neg hk];simp
 | p::P,w::vs,i+1,m,nd,h1,h2,hk=>by
  show bindC kindOf ((p,w)::P.zip vs) m x=_
  unfold bindC;exact a4f (i:=i) (gK.mp nd).2 (by simpa using h1) (by simpa using h2) hk
def Y6 (N:List Str) (vs:List V):St:=vs.map some++aI (N.length - vs.length) none
def M0 (CX:CXT) (P:Program) (w:World) (K:W.Frag) (mg:Str->Option Value) (base:Heap) (N:List Str) (qual:Str) (scope:Scope) (f:Addr) (cd:Value) (A:Around) (outer:List Env) (s:Shared) (H:Hp) (E:XK):Cx where
 prog:=P
 w:=w
 K:=K
 mg:=mg
 base:=base
 A:=A.deeper (envOfC qual scope s.heap.objs.size f cd)
 N:=N
 s₀:=s
 H₀:=H
 env:=envOfC qual scope s.heap.objs.size f cd
 outer:=outer
 stack:=envOfC qual scope s.heap.objs.size f cd::outer
 ex:=[]
 calm:=true
 fn:=λ _=>true
 pn:=[]
 xe:=λ e s'=>wpAny (model P w) (A.deeper (envOfC qual scope s.heap.objs.size f cd)) (leaving (envOfC qual scope s.heap.objs.size f cd) e) (λ _ s''=>CX outer H s E e s'') (λ e' s''=>CX outer H s E e' s'') s'
theorem a5s {sc:Scope} {n:Nat} {x:Str} (h:sc.names.lookup x=some .cell):∃ c,(cellsFrom n sc.names []).lookup x=some c:=by
 have q:=W.cellsFrom_some sc.names n [] (.inl h);exact Option.isSome_iff_exists.mp q
theorem a8s {CX:CXT} {P:Program} {w:World} {K:W.Frag} {mg:Str->Option Value} {base:Heap} {N ps:List Str} {qual:Str} {scope:Scope} {f:Addr} {cd:Value} {A:Around} {outer:List Env} {s s1:Shared} {H:Hp} {E:XK} {us:List Value} {vs:List V}
  (S:m6 N ps scope) (hd:A.handled=none) (e0:Env0 P w K mg base A outer s H) (hl:vs.length=ps.length) (r:Vals vs us)
  (x:InCallC s s.heap.objs.size (bindL (envOfC qual scope s.heap.objs.size f cd).kindOf (ps.zip us) λ _=>none) (cellsFrom (s.heap.objs.size+1) scope.names []) (bindC (envOfC qual scope s.heap.objs.size f cd).kindOf (ps.zip us) λ _=>none) s1) :
  Inv (M0 CX P w K mg base N qual scope f cd A outer s H E) [] (Y6 N vs) H s1:=by
 have hpl:ps.length<=N.length:=by have:=congrArg jR S.pre; rw [bU] at this; omega
 obtain ⟨h1,tk,rfl,hk⟩:=x.done;have noA:∀ b:Addr,b ∉ (M0 CX P w K mg base N qual scope f cd A outer s H E).ex:=λ b z=>absurd (show b∈([]:List Addr) from z) (by simp);refine ⟨⟨e0.mod,S.kind,rfl,rfl,aH _,λ y z c h1 h2=>?_,λ y hy=>?_,λ y c _ h=>?_,λ _=>hd,Around.frames_deeper e0.frames,.inr ⟨rfl,rfl⟩,λ b z=>absurd z (noA b),e0.bs,e0.bsz,λ b _ _=>noA b,λ b z=>absurd z (noA b),e0.funs,e0.frf⟩,
  rfl,e0.bare,Un.kept hk,⟨_,x.toInCall.ns,λ i y v h1 h2 h3=>?_⟩,λ y c h=>⟨_,x.cell y c h⟩,e0.hok.fresh (aH _),λ y c h=>?_,λ p hp=>absurd (show p∈([]:List (Addr×Obj)) from hp) (by simp),e0.hok.kept hk,?_⟩
 ·exact name_of_addr x.apart (gE h1) (gE h2)
 ·have hy:scope.names.lookup y=some .cell\/scope.names.lookup y=some .free:=hy
  rcases hy with hy | hy
  ·exact a5s hy
  ·exact absurd rfl (S.nofree _ (gE hy))
 ·exact dX (x.above y c (gE h))
 ·have hi:i<vs.length:=by
   unfold Y6 at h2
   by_cases hi:i<vs.length
   ·exact hi
   ·rw [bZ (by simpa using hi)] at h2
    rw [cV] at h2
    split at h2 <;> cases h2
  have ha:vs[i]?=some v:=by
   unfold Y6 at h2;rw [bK (by simpa using hi),aE] at h2
   cases e:vs[i]? with
   | none=>rw [e] at h2; cases h2
   | some a=>rw [e] at h2; cases h2; rfl
  obtain ⟨u,hu,rv⟩:=r.get ha;have hp:ps[i]?=some y:=by
   rw [<- S.pre,gF (by omega)]; exact h1
  have ndP:ps.Nodup:=by rw [<- S.pre]; exact S.nd.sublist (List.take_sublist _ _)
  refine ⟨u,rv,?_⟩;rcases S.par y (aJ hp) with k | k
  ·exact .inl ⟨k,a3Y ndP hp hu k⟩
  ·obtain ⟨c,e⟩:=a5s (n:=s.heap.objs.size+1) k
   refine .inr ⟨.inl k,c,e,?_⟩;have q:=x.cell y c e;rw [a4f ndP hp hu (by show scope.names.lookup y≠_; rw [k]; decide)] at q;exact q
 ·exact e0.hok.fresh (dX (x.above y c (gE h)))
 ·unfold Y6
  show _=N.length
  rw [aO,aA,aX];omega
theorem a9H {CX:CXT} {P:Program} {w:World} {K:W.Frag} {mg:Str->Option Value} {base:Heap} {k:Nat} {f:Addr} {name qual:Str} {params:Arguments} {body:List Stmt} {scope:Scope} {dV kV doc pm cdv ct oc:Value} {an od:Option Addr}
  {osl:Array (Option Value)} {N ps:List Str} {sp:Sp} (lk:K.lookup f=some ⟨oc,od,.func (W.fnOf name qual params body scope dV kV doc pm an cdv ct),osl⟩) (hcd:W.codeIn K cdv qual=true) (S:m6 N ps scope)
  (len:∀ vs H Q E,sp vs H Q E->vs.length=ps.length)
  (hbody:∀ (A:Around) (outer:List Env) (s:Shared) (H:Hp) (vs:List V) (Q:VK) (E:XK),Room k (A.deeper (envOfC qual scope s.heap.objs.size f cdv))->sp vs H Q E →
   ∃ t,PSs (M0 CX P w K mg base N qual scope f cdv A outer s H E) body t/\t { nx:=λ _ H'=>Q .non H',rt:=Q } (Y6 N vs) H) :
  FnOk P w K mg base CX (k+1) f (W.fnOf name qual params body scope dV kV doc pm an cdv ct) ps sp:=by
 refine ⟨len,λ A outer s H args us vs Q E hr e0 hb r hsp=>?_⟩;have hl:=len _ _ _ _ hsp;have KX:K.In s.heap:=e0.mod.kin.keeps λ b o e=>(e0.bs b o e).1;have lim:s.heap.NoLimit:=e0.mod.nolimit.keeps λ b o e=>(e0.bs b o e).1;have hkind:∀ y∈ps.zip us,scope.names.lookup y.1=some .local\/(scope.names.lookup y.1=some .cell/\((cellsFrom (s.heap.objs.size+1) scope.names []).lookup y.1).isSome=true):=λ ⟨n,v⟩ hy=>by
  rcases S.par n (gL hy).1 with q | q
  ·exact .inl q
  ·exact .inr ⟨q,W.cellsFrom_some _ _ _ (.inl q)⟩
 refine codeAny_call_function hr.depth (KX _ _ lk) rfl S.co S.gen rfl (W.codeRec_of KX hcd) (hb _ _ _ _ ?_);refine wpAny_newFunctionEnv_cells S.kind hkind λ env he s1 x=>?_;subst he;refine ⟨lim.keeps x.toInCall.keep,codeAny_func ?_⟩;obtain ⟨t,ht,hq⟩:=hbody A outer s H vs Q E (hr.deeper _) hsp;have I:Inv (M0 CX P w K mg base N qual scope f cdv A outer s H E) [] (Y6 N vs) H s1:=a8s S hr.hd e0 hl r x;refine wpAny_mono (ht [] s1 (Y6 N vs) H _ I hq) (λ fl s' hs=>?_) λ e s' hs=>hs;have fin:∀ {σ':St} {H':Hp} {v:V} {u:Value},Inv (M0 CX P w K mg base N qual scope f cdv A outer s H E) [] σ' H' s'->RelV v u->Q v H'->CE outer P w H s Q u s' :=
  λ {σ' H' v u} J rv q=>⟨v,H',J.os,J.bare,J.base,J.hok,rv,q⟩
 cases fl with
 | ret u =>
  obtain ⟨v,σ',H',J,rv,q⟩:=hs;exact fin J rv q
 | next =>
  obtain ⟨σ',H',J,q⟩:=hs;exact fin (v:=V.non) (u:=Value.none) J rfl q
 | brk =>
  obtain ⟨_,_,_,q⟩:=hs;exact cZ q
 | cont =>
  obtain ⟨_,_,_,q⟩:=hs;exact cZ q
section
variable {X:Cx} {x:Str} {p pos:Pos} {e:Expr} {es:List Expr} {t:TA} {id T:String} {r:List V->Hp->VK->Prop}
def tCB (r:List V->Hp->VK->Prop) (t:TA):TE:=λ σ H Q=>t σ H λ vs H1=>r vs H1 Q
theorem j9 (hc:O8 X (.builtin id) r) (hg:Gl X x) (hm:X.mg x=none) (hv:bootBuiltins x=some (.builtin id)) (ha:PA X (e::es) t) (hn:x≠"__name__":=by decide) (hdb:(x==("__debug__":Str))=false:=by decide)
  (he:starEach (e::es) X.env=(false,eval e X.env)::starEach es X.env:=by rfl) (hpl:(backTo pos (starEach es X.env)).any (·.1)=false:=by rfl):PE X (.Call (.Name x p) (e::es) [] pos) (tCB r t):=by
 intro pins s σ H Q I h;refine wpAny_Call_Name_kw (a0C I hg hm hv ?_ hn hdb);exact mV (C6 (ha pos pins s σ H _ I h) λ us s1 ⟨vs,H1,I1,r1,q1⟩=>hc pins s1 σ H1 vs us Q I1 r1 q1) he hpl
theorem t9 (hc:O8 X (.type T) r) (hg:Gl X x) (hm:X.mg x=none) (hv:bootBuiltins x=some (.type T)) (ha:PA X (e::es) t) (hn:x≠"__name__":=by decide) (hdb:(x==("__debug__":Str))=false:=by decide)
  (he:starEach (e::es) X.env=(false,eval e X.env)::starEach es X.env:=by rfl) (hpl:(backTo pos (starEach es X.env)).any (·.1)=false:=by rfl):PE X (.Call (.Name x p) (e::es) [] pos) (tCB r t):=by
 intro pins s σ H Q I h;refine wpAny_Call_Name_kw (a0C I hg hm hv ?_ hn hdb);exact gD (C6 (ha pos pins s σ H _ I h) λ us s1 ⟨vs,H1,I1,r1,q1⟩=>hc pins s1 σ H1 vs us Q I1 r1 q1) he hpl
end
end L2
namespace HT
open PySem PyProof.Rows
section
open PySem.SeqAt
open PySem.AutoSeq1 (wpAny_loadPart')
open PySem.MeetsSeq PySem.MeetsSeq2 PySem.MeetsSeq3
end
section
variable {prog:Program} {w:World} {A:Around} {E:Value->Shared->Prop} {s:Shared}
theorem cat_tup {t b:Addr} {vs ws:List Value} {Q:Value->Shared->Prop} (ht:IsTup s.heap t vs.toArray) (hb:IsTup s.heap b ws.toArray) (hv:vs≠[])
  (h1:ws=[]->Q (.ref t) s) (h2:ws≠[]->Q (.ref s.heap.objs.size) { s with heap:=s.heap.push { cls:=.type "tuple",data:=.seq (vs++ws).toArray } })
  (hsz:vs.length+ws.length<=sizeLine):wpAny (model prog w) A (binaryOp .Add (.ref t) (.ref b)) Q E s:=by
 obtain ⟨⟨cls,dd,data,sl⟩,ho,hc,n,hd⟩:=id ht;obtain ⟨⟨cls2,dd2,data2,sl2⟩,ho2,hc2,n2,hd2⟩:=id hb;simp only at hc hd hc2 hd2;subst hc hd hc2 hd2;have e:vs.toArray++ws.toArray=(vs++ws).toArray:=by simp
 by_cases hw:ws=[]
 ·exact concat_meets ⟨_,ho,rfl⟩ ⟨_,ho2,rfl⟩ noFill_tuple_add seq_tuple_add jS jT (jU _ _)
   (tuple_addW1 t b vs.toArray ws.toArray n n2 dd dd2 sl sl2 (by simpa using hv) (by simp [hw])) ⟨ho,ho2,h1 hw⟩
 ·refine concat_meets ⟨_,ho,rfl⟩ ⟨_,ho2,rfl⟩ noFill_tuple_add seq_tuple_add jS jT (jU _ _)
   (tuple_addW2 t b vs.toArray ws.toArray n n2 dd dd2 sl sl2 (by simpa using hv) (by simpa using hw) (by rw [bD,bD]; exact hsz)) ⟨ho,ho2,?_⟩
  rw [e];exact h2 hw
def sIx (n d:Nat):Option Int->Nat
 | none=>d
 | some v=>if v<0 then (v+(n:Int)).toNat else min v.toNat n
theorem sIx_none (n d:Nat):sIx n d none=d:=rfl
theorem sIx_nat (n d k:Nat):sIx n d (some (k:Int))=min k n:=by
 show (if (k:Int)<0 then ((k:Int)+(n:Int)).toNat else min (k:Int).toNat n)=min k n
 rw [if_neg (by omega),bF]
theorem a0L {v:Value} {o:Option Int} {Q:Option Int->Shared->Prop} (p:IsPart v o) (h:Q o s):wpAny (model prog w) A (Builtin.Slice.slicePartIndex v) Q E s:=by
 cases p with
 | none=>exact slicePart_none h
 | int i t=>exact slicePart_int h
theorem b0Z (xs:Array Value) (i k:Nat):((aD k).filterMap λ (m:Nat)=>xs[((i:Int)+(m:Int)*1).toNat]?).toArray=((xs.toList.drop i).take k).toArray:=by
 have e:(λ (m:Nat)=>xs[((i:Int)+(m:Int)*1).toNat]?)=λ m=>xs[i+m]?:=by
  funext m
  have:((i:Int)+(m:Int)*1).toNat=i+m:=by omega
  rw [this]
 rw [e];have:=pick_run xs i k;rw [List.filterMap_map] at this;have e2:((λ x=>xs[x]?) ∘ λ x=>i+x)=λ m=>xs[i+m]?:=rfl;rw [e2] at this;rw [this]
end
end HT
namespace L2
open PySem PySem.Spec PyProof.Rows
abbrev TO:=St->Hp->(Option Int->Hp->Prop)->Prop
def PO (X:Cx) (e:Option Expr) (t:TO):Prop :=
 ∀ (pins:List (Addr×Obj)) (s:Shared) (σ:St) (H:Hp) (Q:Option Int->Hp->Prop),Inv X pins σ H s->t σ H Q →
  wpAny (model X.prog X.w) X.A (evalPart e X.env) (λ u s'=>∃ o H',Inv X pins σ H' s'/\IsPart u o/\Q o H') X.xe s
def b2p:TO:=λ _ H Q=>Q none H
def b4O (t:TE):TO:=λ σ H Q=>t σ H λ x H1=>∃ i,x=.int i/\Q (some i) H1
section
variable {X:Cx} {e:Expr} {te:TE} {lo hi:Option Expr} {tl th:TO} {pos p2:Pos}
theorem W5:PO X none b2p:=by
 intro pins s σ H Q I h;rw [evalPart_none];exact wpAny_pure ⟨none,H,I,.none,h⟩
theorem D4 (h:PE X e te):PO X (some e) (b4O te):=by
 intro pins s σ H Q I hw;rw [evalPart_some];refine C6 (h pins s σ H _ I hw) λ u s1 ⟨x,H1,I1,r1,q1⟩=>?_;obtain ⟨i,rfl,q⟩:=q1;obtain ⟨t,rfl⟩:=r1;exact ⟨some i,H1,I1,.int i t,q⟩
def SlR (X:Cx) (r:V->Option Int->Option Int->Hp->VK->Prop):Prop :=
 ∀ (pins:List (Addr×Obj)) (s:Shared) (σ:St) (H:Hp) (x:V) (v vl vu:Value) (lo hi:Option Int) (sl:Addr) (Q:VK),Inv X pins σ H s->RelV x v->s.heap.IsSliceOf sl vl vu .none->IsPart vl lo->IsPart vu hi->r x lo hi H Q →
  ∃ T id,typeLookup (.type T) "__getitem__"=pure (some (.builtin id))/\s.TypeIs v T/\wpAny (model X.prog X.w) X.A (getItem v (.ref sl)) (EP X pins σ Q) X.xe s
def tSl (r:V->Option Int->Option Int->Hp->VK->Prop) (te:TE) (tl th:TO):TE:=λ σ H Q=>te σ H λ x H1=>tl σ H1 λ l H2=>th σ H2 λ u H3=>r x l u H3 Q
theorem I0 {r:V->Option Int->Option Int->Hp->VK->Prop} (hr:SlR X r) (he:PE X e te) (hl:PO X lo tl) (hu:PO X hi th):PE X (.Subscript e (.Slice lo hi none p2) pos) (tSl r te tl th):=by
 intro pins s σ H Q I h;refine Subscript_ (C6 (he pins s σ H _ I h) λ v s1 ⟨x,H1,I1,r1,q1⟩=>?_);refine wpAny_Slice (C6 (hl pins s1 σ H1 _ I1 q1) λ vl s2 ⟨l,H2,I2,pl,q2⟩=>C6 (hu pins s2 σ H2 _ I2 q2) λ vu s3 ⟨u,H3,I3,pu,q3⟩=>?_);rw [evalPart_none];refine wpAny_pure ?_;have I4:Inv X pins σ H3 { s3 with heap:=s3.heap.push { cls:=.type "slice",data:=.fields #[vl,vu,.none] } }:=I3.kept (t':=s3.toks) λ b ob q=>Heap.get?_push_of_some _ q;obtain ⟨T,id,hT,ht,hg⟩:=hr pins { s3 with heap:=s3.heap.push { cls:=.type "slice",data:=.fields #[vl,vu,.none] } } σ H3 x v vl vu l u s3.heap.objs.size Q I4 r1 (Heap.IsSliceOf.new ..) pl pu q3
 show wpAny (model X.prog X.w) X.A (subscriptTail e (.Slice lo hi none p2) v (.ref s3.heap.objs.size)) (EP X pins σ Q) X.xe { s3 with heap:=s3.heap.push { cls:=.type "slice",data:=.fields #[vl,vu,.none] } }
 exact tail_any (ops:=[.ref s3.heap.objs.size,v]) ht hT hg (by with_unfolding_all rfl)
def M1 (xs:List V) (lo hi:Option Int):List V:=(xs.drop (HT.sIx xs.length 0 lo)).take (HT.sIx xs.length xs.length hi - HT.sIx xs.length 0 lo)
theorem a5F (xs:List V) (lo hi:Option Int):(M1 xs lo hi).length<=xs.length:=by
 unfold M1;rw [bU,cW];omega
def b4t (K:W.Frag):R2:=λ x y H Q=>∃ a b xs ys,x=.ref a/\y=.ref b/\SqT K H a xs/\SqT K H b ys/\xs≠[]/\xs.length+ys.length<=sizeLine ∧
 (ys=[]->Q (.ref a) H)/\(ys≠[]->∀ p,H p=none->Q (.ref p) (upd H p (.tup (xs++ys))))
theorem Vals.nil_iff {xs:List V} {us:List Value} (r:Vals xs us):us=[] ↔ xs=[]:=by
 cases r with
 | nil=>simp
 | cons _ _=>simp
theorem b2m:OpR X (binaryOp .Add) (b4t X.K):=by
 intro pins s σ H x y v u Q I rx ry h;obtain ⟨a,b,xs,ys,rfl,rfl,ha,hb,hx,hz,q1,q2⟩:=h
 cases rx
 cases ry;obtain ⟨its,r1,p1,_⟩:=I.tuple ha;obtain ⟨its2,r2,p2,_⟩:=I.tuple hb;refine HT.cat_tup p1 p2 (λ z=>hx (r1.nil_iff.mp z)) (λ z=>⟨.ref a,H,I,rfl,q1 (r2.nil_iff.mp z)⟩) (λ z=>?_) (by rw [<- r1.length,<- r2.length]; exact hz);refine ⟨.ref s.heap.objs.size,_,I.laid (t':=s.toks) (o:=.tup (xs++ys)) (λ b ob q=>Heap.get?_push_of_some _ q) (aH _) ?_,rfl,q2 (λ w=>z (r2.nil_iff.mpr w)) _ (I.hok.fresh (aH _))⟩;exact ⟨by rw [aO]; exact hz,_,r1.append r2,IsTup.new _ _⟩
end
def ixN (n:Nat) (i:Int):Option Nat:=if 0<=i then (if i<n then some i.toNat else none) else if -(n:Int)<=i then some (i+n).toNat else none
def atI {α:Type} (xs:List α) (i:Int):Option α:=(ixN xs.length i).bind λ j=>xs[j]?
theorem a4k {n:Nat} {i:Int} {j:Nat} (h:ixN n i=some j):seqIndex? i n=some j/\j<n/\-(n:Int)<=i/\i<n:=by
 unfold ixN at h
 by_cases h0:0<=i
 ·rw [if_pos h0] at h
  by_cases h1:i<n
  ·rw [if_pos h1] at h
   have e:i.toNat=j:=aS h;exact ⟨by rw [seqIndex_of h0 h1,e],by omega,by omega,h1⟩
  ·rw [if_neg h1] at h; cases h
 ·rw [if_neg h0] at h
  by_cases h1:-(n:Int)<=i
  ·rw [if_pos h1] at h
   have e:(i+n).toNat=j:=aS h;exact ⟨by rw [seqIndex_neg (by omega) h1,e],by omega,h1,by omega⟩
  ·rw [if_neg h1] at h; cases h
theorem a7L {α:Type} {xs:List α} {i:Int} {v:α} (h:atI xs i=some v):∃ j,seqIndex? i xs.length=some j/\xs[j]?=some v/\j<xs.length/\-(xs.length:Int)<=i/\i<xs.length:=by
 unfold atI at h
 cases e:ixN xs.length i with
 | none=>rw [e] at h; cases h
 | some j =>
  rw [e] at h;obtain ⟨h1,h2,h3,h4⟩:=a4k e;exact ⟨j,h1,h,h2,h3,h4⟩
theorem w6 {α:Type} {xs:List α} {j:Nat} {v:α} (h:xs[j]?=some v):atI xs (j:Int)=some v:=by
 have hj:j<xs.length:=(aU.mp h).1;have e:ixN xs.length (j:Int)=some j:=by
  unfold ixN;rw [if_pos (by omega),if_pos (by omega)]; simp
 unfold atI; rw [e]; exact h
theorem a9j {α:Type} (xs:List α) (v:α):atI (xs++[v]) (-1)=some v:=by
 have hl:(xs++[v]).length=xs.length+1:=by simp
 have e:ixN (xs++[v]).length (-1)=some xs.length:=by
  unfold ixN;rw [hl,if_neg (by decide),if_pos (by omega)]
  congr 1
  omega
 unfold atI;rw [e]
 show (xs++[v])[xs.length]?=some v
 simp
def b1p (b:Expr):Prop:=∀ o i,subscripted b false o i=operate [o,i] (getItem o i)
def IxR (X:Cx) (r:R2):Prop :=
 ∀ (value slice:Expr) (pins:List (Addr×Obj)) (s:Shared) (σ:St) (H:Hp) (x y:V) (v u:Value) (Q:VK),Inv X pins σ H s->RelV x v->RelV y u->r x y H Q →
  subscripted slice false v u=operate [v,u] (getItem v u)->wpAny (model X.prog X.w) X.A (subscriptTail value slice v u) (EP X pins σ Q) X.xe s
def MtR (X:Cx) (id:String) (r:V->List V->Hp->VK->Prop):Prop :=
 ∀ (pins:List (Addr×Obj)) (s:Shared) (σ:St) (H:Hp) (x:V) (xs:List V) (v:Value) (us:List Value) (Q:VK),Inv X pins σ H s->RelV x v->Vals xs us->r x xs H Q →
  wpAny (model X.prog X.w) X.A (call (.builtin id) (v::us)) (EP X pins σ Q) X.xe s
section
variable {X:Cx} {a b:Expr} {ta tb:TE} {pos:Pos}
theorem j7 {r:R2} (hr:IxR X r) (ha:PE X a ta) (hb:PE X b tb) (hs:b1p b):PE X (.Subscript a b pos) (tOp r ta tb):=by
 intro pins s σ H Q I h;exact Subscript_ (b3Y ha hb I h λ v u s2 x y H2 I2 rx ry q=>hr a b pins s2 σ H2 x y v u Q I2 rx ry q (hs _ _))
def b4G (K:W.Frag):R2:=λ x y H Q=>∃ p xs i v,x=.ref p/\y=.int i/\SqL K H p xs/\atI xs i=some v/\Q v H
def b5k (K:W.Frag):R2:=λ x y H Q=>∃ p xs i v,x=.ref p/\y=.int i/\SqT K H p xs/\atI xs i=some v/\Q v H
theorem j5:IxR X (b4G X.K):=by
 intro value slice pins s σ H x y v u Q I rx ry h hs;obtain ⟨p,xs,i,z,rfl,rfl,hq,he,q⟩:=h
 cases rx;obtain ⟨t,rfl⟩:=ry;obtain ⟨its,r,pl,hz⟩:=I.list hq;obtain ⟨j,h1,h2,h3,h4,h5⟩:=a7L he;obtain ⟨w,ew,rw'⟩:=r.get h2;have hl:=r.length;have hn:=a3d;have fin:EP X pins σ Q w s:=⟨z,H,I,rw',q⟩
 by_cases h0:0<=i
 ·have hj:i.toNat=j:=by
   rw [seqIndex_of h0 h5] at h1;exact aS h1
  exact item_listR pl.isList h0 (by omega) (by rw [hj]; simpa using ew) fin hs
 ·have hj:(i+(its.toArray.size:Int)).toNat=j:=by
   rw [seqIndex_neg (by omega) h4] at h1;rw [bD,<- hl];exact aS h1
  exact subscriptTail_builtinR (x:=w) pl.isList.typeIs slot_list_getitem.lookup
   (wpAny_getItem_list_neg (Q:=λ r s'=>r=w/\EP X pins σ Q r s') pl.isList (by omega) (by rw [bD] <;> omega) (by omega) (by rw [hj]; simpa using ew) ⟨rfl,fin⟩) hs
theorem A6:IxR X (b5k X.K):=by
 intro value slice pins s σ H x y v u Q I rx ry h hs;obtain ⟨p,xs,i,z,rfl,rfl,hq,he,q⟩:=h
 cases rx;obtain ⟨t,rfl⟩:=ry;obtain ⟨its,r,pl,hz⟩:=I.tuple hq;obtain ⟨j,h1,h2,h3,h4,h5⟩:=a7L he;obtain ⟨w,ew,rw'⟩:=r.get h2;have hl:=r.length;have hn:=a3d;have fin:EP X pins σ Q w s:=⟨z,H,I,rw',q⟩;exact subscriptTail_builtinR (x:=w) pl.typeIs slot_tuple_getitem.lookup
  (getItem_tuple (j:=j) (Q:=λ r s'=>r=w/\EP X pins σ Q r s') pl (by omega) (by omega) (by rw [bD,<- hl]; exact h1) (by simpa using ew) ⟨rfl,fin⟩) hs
theorem a6C (its:List Value) (n j:Nat) (u:Value):Obj.mapSeq (·.setIfInBounds j u) { cls:=.type "list",data:=.seq its.toArray n }={ cls:=.type "list",data:=.seq (its.set j u).toArray n }:=by
 simp [Obj.mapSeq]
theorem Inv.lst {pins:List (Addr×Obj)} {σ:St} {H:Hp} {s:Shared} {p:Addr} {xs:List V} (I:Inv X pins σ H s) (h:H p=some (.lst xs)) :
  ∃ (its:List Value) (n:Nat),Vals xs its/\s.heap.get? p=some { cls:=.type "list",data:=.seq its.toArray n }/\xs.length<=sizeLine:=by
 obtain ⟨z,its,n,r,e⟩:=I.hok p _ h;exact ⟨its,n,r,e,z⟩
theorem Inv.lstUpd {pins:List (Addr×Obj)} {σ:St} {H:Hp} {s:Shared} {p:Addr} {xs ys:List V} {its its':List Value} {n n':Nat} {f:Obj->Obj} (I:Inv X pins σ H s) (h:H p=some (.lst xs))
  (ho:s.heap.get? p=some { cls:=.type "list",data:=.seq its.toArray n }) (hf:f { cls:=.type "list",data:=.seq its.toArray n }={ cls:=.type "list",data:=.seq its'.toArray n' }) (r:Vals ys its') (hz:ys.length<=sizeLine) (t:Nat) :
  Inv X pins σ (upd H p (.lst ys)) { s with heap:=s.heap.update p f,toks:=t }:=by
 have e:(s.heap.update p f).get? p=some { cls:=.type "list",data:=.seq its'.toArray n' }:=by
  rw [Heap.get?_update_self f ho (by rw [hf] <;> rfl),hf]
 refine I.write (x:=p) (e:=p) (by rw [h]; trivial) (.inl rfl) (λ b u hb q=>(Heap.get?_update_other _ _ (aY hb)).trans q) ⟨_,e⟩ ?_;exact ⟨hz,its',n',r,e⟩
def b4A:V->V->V->Hp->(Hp->Prop)->Prop:=λ o i v H Q=>∃ p xs k j,o=.ref p/\i=.int k/\H p=some (.lst xs)/\ixN xs.length k=some j/\Q (upd H p (.lst (xs.set j v)))
theorem N4:b4J X b4A:=by
 intro pins s σ H o i v ov iv u Q I ro ri rv h;obtain ⟨p,xs,k,j,rfl,rfl,hp,hj,q⟩:=h
 cases ro;obtain ⟨t,rfl⟩:=ri;obtain ⟨its,n,r,ho,hz⟩:=I.lst hp;obtain ⟨h1,h2,h3,h4⟩:=a4k hj;have hl:=r.length;have hn:=a3d;have I':Inv X pins σ (upd H p (.lst (xs.set j v))) { s with heap:=s.heap.update p (Obj.mapSeq (·.setIfInBounds j u)) } :=
  I.lstUpd hp ho (a6C its n j u) (r.set rv j) (by rw [cJ]; exact hz) s.toks
 by_cases h0:0<=k
 ·have hk:k.toNat=j:=by
   rw [seqIndex_of h0 h4] at h1;exact aS h1
  exact W.ki_setAt ho h0 (by omega) (by rw [bD,<- hl]; exact h4) (by rw [hk]; exact ⟨_,I',q⟩)
 ·have hk:(k+(its.toArray.size:Int)).toNat=j:=by
   rw [seqIndex_neg (by omega) h3] at h1;rw [bD,<- hl];exact aS h1
  exact W.ki_setBack ho (by omega) (by rw [bD,<- hl]; exact h3) (by omega) (by rw [hk]; exact ⟨_,I',q⟩)
theorem a4M (lo hi:Option Int) (n:Nat):(sliceBounds lo hi none n).1=((HT.sIx n 0 lo:Nat):Int)/\(sliceBounds lo hi none n).2.1=((HT.sIx n n hi:Nat):Int)/\(sliceBounds lo hi none n).2.2=1:=by
 refine ⟨?_,?_,rfl⟩
 ·cases lo with
  | none=>simp [sliceBounds,HT.sIx]
  | some i =>
   simp only [sliceBounds,HT.sIx,jV,show (1:Int)>0 by decide,if_true]
   by_cases h:i<0
   ·simp only [h,if_true] <;> omega
   ·simp only [h,if_false] <;> omega
 ·cases hi with
  | none=>simp [sliceBounds,HT.sIx]
  | some i =>
   simp only [sliceBounds,HT.sIx,jV,show (1:Int)>0 by decide,if_true]
   by_cases h:i<0
   ·simp only [h,if_true] <;> omega
   ·simp only [h,if_false] <;> omega
theorem a3L (its:List Value) (lo hi:Option Int):slicePick its.toArray lo hi none=((its.drop (HT.sIx its.length 0 lo)).take (HT.sIx its.length its.length hi - HT.sIx its.length 0 lo)).toArray:=by
 obtain ⟨h1,h2,h3⟩:=a4M lo hi its.toArray.size;unfold slicePick;rw [h1,h2,h3];simp only [sliceRange_one,pick_run,bD] <;> rfl
def b4y (K:W.Frag):V->Option Int->Option Int->Hp->VK->Prop:=λ x lo hi H Q=>∃ a xs,x=.ref a/\SqL K H a xs/\∀ p,H p=none->Q (.ref p) (upd H p (.lst (M1 xs lo hi)))
theorem P5:SlR X (b4y X.K):=by
 intro pins s σ H x v vl vu lo hi sl Q I rx hs pl pu h;obtain ⟨a,xs,rfl,hx,q⟩:=h
 cases rx;obtain ⟨its,r,ht,hz⟩:=I.list hx;have hlen:=r.length;refine ⟨"list",_,slot_list_getitem.lookup,ht.isList.typeIs,?_⟩;refine wpAny_getItem_list_slice ht.isList hs pl pu .none (by simp) ?_ (by rw [bD] <;> omega);rw [a3L,<- hlen];refine ⟨.ref s.heap.objs.size,_,I.laid (t':=s.toks) (o:=.lst (M1 xs lo hi)) (λ b ob q=>Heap.get?_push_of_some _ q) (aH _) ?_,rfl,q _ (I.hok.fresh (aH _))⟩;exact ⟨Nat.le_trans (a5F xs lo hi) hz,_,0,(r.drop (HT.sIx xs.length 0 lo)).take (HT.sIx xs.length xs.length hi - HT.sIx xs.length 0 lo),Heap.get?_push_size _ rfl⟩
def a0Y:V->Bool
 | .non=>true
 | .bl _=>true
 | .int _=>true
 | .str _=>true
 | _=>false
def eqV:V->V->Bool
 | .non,.non=>true
 | .bl a,.bl b=>a==b
 | .bl a,.int b=>(if a then 1 else 0)==b
 | .int a,.bl b=>a==(if b then 1 else 0)
 | .int a,.int b=>a==b
 | .str a,.str b=>a==b
 | _,_=>false
theorem b3W {A:Around} {s:Shared} {y x:V} {u v:Value} (ry:RelV y u) (rx:RelV x v) (fy:a0Y y=true) (fx:a0Y x=true):SeqAt.EqAt A s u v (eqV y x):=by
 cases y with
 | non =>
  cases ry
  cases x with
  | non=>cases rx; exact SeqAt.EqAt.same _
  | bl b=>cases rx; exact SeqAt.EqAt.none_bool b
  | int b=>obtain ⟨t,rfl⟩:=rx; exact SeqAt.EqAt.none_int b t
  | str b=>obtain ⟨t,rfl⟩:=rx; exact SeqAt.EqAt.none_str b t
  | _=>exact absurd (show false=true from fx) bX
 | bl a =>
  cases ry
  cases x with
  | non=>cases rx; exact SeqAt.EqAt.bool_none a
  | bl b=>cases rx; exact SeqAt.EqAt.bool_bool a b
  | int b=>obtain ⟨t,rfl⟩:=rx; exact SeqAt.EqAt.bool_int a b t
  | str b=>obtain ⟨t,rfl⟩:=rx; exact SeqAt.EqAt.bool_str a b t
  | _=>exact absurd (show false=true from fx) bX
 | int a =>
  obtain ⟨t',rfl⟩:=ry
  cases x with
  | non=>cases rx; exact SeqAt.EqAt.int_none a t'
  | bl b=>cases rx; exact SeqAt.EqAt.int_bool a t' b
  | int b=>obtain ⟨t,rfl⟩:=rx; exact SeqAt.EqAt.int_int a t' b t
  | str b=>obtain ⟨t,rfl⟩:=rx; exact SeqAt.EqAt.int_str a t' b t
  | _=>exact absurd (show false=true from fx) bX
 | str a =>
  obtain ⟨t',rfl⟩:=ry
  cases x with
  | non=>cases rx; exact SeqAt.EqAt.str_none a t'
  | bl b=>cases rx; exact SeqAt.EqAt.str_bool a t' b
  | int b=>obtain ⟨t,rfl⟩:=rx; exact SeqAt.EqAt.str_int a t' b t
  | str b=>obtain ⟨t,rfl⟩:=rx; exact SeqAt.EqAt.str_str a t' b t
  | _=>exact absurd (show false=true from fx) bX
 | _=>exact absurd (show false=true from fy) bX
def eqU (x:V) (u:Value):Bool:=match u with
 | .none=>eqV .non x
 | .bool b=>eqV (.bl b) x
 | .int i _=>eqV (.int i) x
 | .str z _=>eqV (.str z) x
 | _=>false
theorem a9l {x y:V} {u:Value} (r:RelV y u) (f:a0Y y=true):eqU x u=eqV y x:=by
 cases y with
 | non=>cases r; rfl
 | bl b=>cases r; rfl
 | int i=>obtain ⟨t,rfl⟩:=r; rfl
 | str z=>obtain ⟨t,rfl⟩:=r; rfl
 | _=>exact absurd (show false=true from f) bX
theorem a4G {x:V}:∀ {xs:List V} {us:List Value},Vals xs us->xs.all a0Y=true->us.any (eqU x)=xs.any λ y=>eqV y x
 | _,_,.nil,_=>rfl
 | y::xs,u::us,.cons r t,f=>by
  rw [iH,dD] at f;rw [iI,iI,a9l r f.1,a4G t f.2]
theorem a2E {A:Around} {s:Shared} {x:V} {v:Value} (rx:RelV x v) (fx:a0Y x=true):∀ {xs:List V} {us:List Value},Vals xs us->xs.all a0Y=true->∀ u∈us,SeqAt.EqAt A s u v (eqU x u)
 | _,_,.nil,_=>λ u hu=>by cases hu
 | y::xs,u::us,.cons r t,f=>λ u' hu=>by
  rw [iH,dD] at f;rcases aR.mp hu with rfl | hu
  ·rw [a9l r f.1]; exact b3W r rx f.1 fx
  ·exact a2E rx fx t f.2 u' hu
def inV (x:V) (xs:List V):Bool:=xs.any λ y=>eqV y x
def rIn (K:W.Frag) (neg:Bool):R2:=λ x y H Q=>∃ p xs,y=.ref p/\(SqL K H p xs\/SqT K H p xs)/\a0Y x=true/\xs.all a0Y=true/\Q (.bl (if neg then !inV x xs else inV x xs)) H
theorem a4o:OpR X (compareOp .NotIn) (rIn X.K true):=by
 intro pins s σ H x y v u Q I rx ry h;obtain ⟨p,xs,rfl,hq,fx,fs,q⟩:=h
 cases ry;rcases hq with hq | hq
 ·obtain ⟨its,r,pl,hz⟩:=I.list hq
  refine SeqAt.notIn_listAt (eqU x) pl.isList (λ w hw=>a2E rx fx r fs w (by simpa using hw)) ⟨.bl _,H,I,rfl,?_⟩;rw [show its.toArray.any (eqU x)=its.any (eqU x) by simp,a4G r fs];exact q
 ·obtain ⟨its,r,pl,hz⟩:=I.tuple hq
  refine SeqAt.notIn_tupleAt (eqU x) pl (λ w hw=>a2E rx fx r fs w (by simpa using hw)) ⟨.bl _,H,I,rfl,?_⟩;rw [show its.toArray.any (eqU x)=its.any (eqU x) by simp,a4G r fs];exact q
theorem j6:O8 X (.builtin "len") (λ xs H Q=>∃ p ys,xs=[.ref p]/\(SqL X.K H p ys\/SqT X.K H p ys)/\Q (.int ys.length) H):=by
 intro pins s σ H xs us Q I r h;obtain ⟨p,ys,rfl,hq,q⟩:=h;obtain ⟨u,rfl,rx⟩:=R9 r
 cases rx;have hn:=a3d;rcases hq with hq | hq
 ·obtain ⟨its,r',pl,hz⟩:=I.list hq
  have hlen:=r'.length;exact Calls.call_len_list pl.isList (by simp only [bD] <;> omega) ⟨.int ys.length,H,I.tok _,⟨s.toks+1,by rw [bD,hlen]⟩,q⟩
 ·obtain ⟨its,r',pl,hz⟩:=I.tuple hq
  have hlen:=r'.length;exact len_tuple pl (by simp only [bD] <;> omega) ⟨.int ys.length,H,I.tok _,⟨s.toks+1,by rw [bD,hlen]⟩,q⟩
theorem C8:O8 X (.type "list") (λ xs H Q=>∃ p ys,xs=[.ref p]/\(SqL X.K H p ys\/SqT X.K H p ys)/\∀ l,H l=none->Q (.ref l) (upd H l (.lst ys))):=by
 intro pins s σ H xs us Q I r h;obtain ⟨p,ys,rfl,hq,q⟩:=h;obtain ⟨u,rfl,rx⟩:=R9 r
 cases rx;have fin:∀ (its:List Value),Vals ys its->ys.length<=sizeLine->∀ (h':Heap) (c':Nat),(∀ b o',s.heap.get? b=some o'->h'.get? b=some o') →
   h'.get? s.heap.objs.size=some { cls:=.type "list",dict:=none,data:=.seq its.toArray c',slots:=#[] }->EP X pins σ Q (.ref s.heap.objs.size) { s with heap:=h' }:=λ its r' hz h' c' kp e =>
  ⟨.ref s.heap.objs.size,_,I.laid (t':=s.toks) kp (aH _) (show ObjOk X.prog X.w _ h' _ (.lst ys) from ⟨hz,its,c',r',e⟩),rfl,q _ (I.hok.fresh (aH _))⟩
 rcases hq with hq | hq
 ·obtain ⟨its,r',pl,hz⟩:=I.list hq
  have hlen:=r'.length;obtain ⟨o,ho,hc,n,hd⟩:=pl.isList;exact call_list_seq p (.inl rfl) ho hc hd (λ h' c' kp e=>fin its r' hz h' c' kp e) (by simp only [bD] <;> omega)
 ·obtain ⟨its,r',pl,hz⟩:=I.tuple hq
  have hlen:=r'.length;obtain ⟨o,ho,hc,n,hd⟩:=pl;exact call_list_seq p (.inr rfl) ho hc hd (λ h' c' kp e=>fin its r' hz h' c' kp e) (by simp only [bD] <;> omega)
theorem P9:O8 X (.type "tuple") (λ xs H Q=>∃ p ys,xs=[.ref p]/\((SqL X.K H p ys/\∀ l,H l=none->Q (.ref l) (upd H l (.tup ys)))\/(SqT X.K H p ys/\Q (.ref p) H))):=by
 intro pins s σ H xs us Q I r h;obtain ⟨p,ys,rfl,h⟩:=h;obtain ⟨u,rfl,rx⟩:=R9 r
 cases rx;rcases h with ⟨hq,q⟩ | ⟨hq,q⟩
 ·obtain ⟨its,r',pl,hz⟩:=I.list hq
  have hlen:=r'.length;refine call_tuple_list pl.isList (λ h' kp=>?_) (by simp only [bD] <;> omega);have I1:Inv X pins σ H { s with heap:=h' }:=I.kept (t':=s.toks) kp;have I2:Inv X pins σ (upd H h'.objs.size (.tup ys)) { s with heap:=h'.push { cls:=.type "tuple",data:=.seq its.toArray } } :=
   I1.laid (t':=s.toks) (λ b o e=>Heap.get?_push_of_some _ e) (aH _) (show ObjOk X.prog X.w _ _ _ (.tup ys) from ⟨hz,its,r',IsTup.new _ _⟩)
  exact ⟨.ref h'.objs.size,_,I2,rfl,q _ (I1.hok.fresh (aH _))⟩
 ·obtain ⟨its,r',pl,hz⟩:=I.tuple hq
  exact call_tuple_same pl ⟨.ref p,H,I,rfl,q⟩
def tyV (K:W.Frag) (T:String) (x:V) (H:Hp):Prop:=match x with
 | .str _=>T="str"
 | .int _=>T="int"
 | .ref p=>(T="list"/\∃ xs,SqL K H p xs)\/(T="tuple"/\∃ o,K.lookup p=some o/\o.cls=.type "tuple"/\o.dict=none) ∨
   (T="dict"/\((∃ kvs,H p=some (.dK kvs))\/∃ kvs,H p=some (.dT kvs)))\/(T="set"/\∃ S n,H p=some (.set S n))
 | _=>False
theorem b4a {pins:List (Addr×Obj)} {σ:St} {H:Hp} {s:Shared} {T:String} {x:V} {v:Value} (I:Inv X pins σ H s) (r:RelV x v) (ty:tyV X.K T x H) :
  s.TypeIs v T/\∀ a,v=.ref a->∃ ob,s.heap.get? a=some ob/\ob.dict=none:=by
 cases x with
 | str z =>
  obtain ⟨t,rfl⟩:=r
  cases (show T="str" from ty);exact ⟨typeIs_str s z t,λ _ e=>nomatch e⟩
 | int i =>
  obtain ⟨t,rfl⟩:=r
  cases (show T="int" from ty);exact ⟨typeIs_int s i t,λ _ e=>nomatch e⟩
 | ref p =>
  cases r;rcases ty with ⟨rfl,xs,hq⟩ | ⟨rfl,o,hk,hc,hd⟩ | ⟨rfl,hk⟩ | ⟨rfl,S,n,hk⟩
  ·obtain ⟨its,_,pl,_⟩:=I.list hq
   refine ⟨pl.isList.typeIs,λ a e=>?_⟩
   cases e;obtain ⟨o,n,e,c,hd,_⟩:=pl;exact ⟨o,e,hd⟩
  ·refine ⟨⟨o,I.kIn p o hk,hc⟩,λ a e=>?_⟩
   cases e;exact ⟨o,I.kIn _ o hk,hd⟩
  ·have z:∃ o,s.heap.get? p=some o/\o.ExactDict:=by
    rcases hk with ⟨kvs,hk⟩ | ⟨kvs,hk⟩
    ·obtain ⟨_,_,_,_,o,_,_,e,ex,_⟩:=I.hok p _ hk
     exact ⟨o,e,ex⟩
    ·obtain ⟨_,_,_,_,o,_,_,e,ex,_⟩:=I.hok p _ hk
     exact ⟨o,e,ex⟩
   obtain ⟨o,e,ex⟩:=z;refine ⟨⟨o,e,ex.1⟩,λ a e2=>?_⟩
   cases e2;exact ⟨o,e,ex.2.1⟩
  ·obtain ⟨o,_,_,_,e,ex,_⟩:=I.hok p _ hk
   refine ⟨⟨o,e,ex.1⟩,λ a e2=>?_⟩
   cases e2;exact ⟨o,e,ex.2.1⟩
 | _=>exact cZ ty
def tBM (K:W.Frag) (T:String) (r:V->List V->Hp->VK->Prop) (to:TE) (t:TA):TE:=λ σ H Q=>to σ H λ x H1=>tyV K T x H1/\t σ H1 λ xs H2=>r x xs H2 Q
variable {o e:Expr} {es:List Expr} {to:TE} {t:TA} {name:Str} {apos cpos:Pos} {T id:String} {r:V->List V->Hp->VK->Prop}
theorem a3e (pa:PlainAttrs T) (slot:Slot T name id) (hty:typeOf (.builtin id)=pure (.type "method_descriptor")) (hm:MtR X id r) (ho:PE X o to) (ha:PA X (e::es) t)
    (hbase:attributeBase o name X.env (eval o X.env)=eval o X.env:=by rfl)
    (hfew:((backTo cpos (starEach (e::es) X.env)).all (λ x=>!x.1)&&(backToKw cpos (keywordEach [] X.env)).all (λ x=>x.1.isSome)
     &&decide ((e::es).length+([]:List Keyword).length+(if ([]:List Keyword).isEmpty then 0 else 1)<30))=true:=by rfl)
    (hline:(apos.endLine==cpos.line)=true:=by rfl) (hs:starEach (e::es) X.env=(false,eval e X.env)::starEach es X.env:=by rfl) (hplain:(backTo cpos (starEach es X.env)).any (·.1)=false:=by rfl) :
    PE X (.Call (.Attribute o name apos) (e::es) [] cpos) (tBM X.K T r to t):=by
  intro pins s σ H Q I h;refine wpAny_Call_method_late hbase hfew hline rfl (C6 (ho pins s σ H _ I h) λ v s1 ⟨x,H1,I1,r1,ty,q1⟩=>?_);obtain ⟨h1,h2⟩:=b4a I1 r1 ty;refine ⟨T,id,pa,slot,hty,h1,h2,?_⟩;have hA:=ha cpos pins s1 σ H1 _ I1 q1;rw [hs] at hA ⊢;refine Calls.callWith_builtin (by show (false || (backTo cpos (starEach es X.env)).any (·.1))=false; rw [hplain] <;> rfl) (Calls.evalArgs_plain ?_);exact C6 hA λ us s2 ⟨vs,H2,I2,r2,q2⟩=>hm pins s2 σ H2 x vs v us Q I2 r1 r2 q2
/- xs.append(e),list.index on a module's tuple .. are MtR facts of 06m -/
end
def MtM (X:Cx) (id:String) (r:V->List V->Hp->VK->Prop):Prop :=
 ∀ (pins:List (Addr×Obj)) (s:Shared) (σ:St) (H:Hp) (x:V) (xs:List V) (v:Value) (us:List Value) (Q:VK),Inv X pins σ H s->RelV x v->Vals xs us->r x xs H Q →
  wpAny (model X.prog X.w) X.A (call (.builtin id) (v::us)) (EP X pins σ Q) X.xe s
theorem Vals.one:∀ {x:V} {us:List Value},Vals [x] us->∃ u,us=[u]/\RelV x u
 | _,_,.cons r .nil=>⟨_,rfl,r⟩
theorem Vals.eraseIdx:∀ {xs:List V} {us:List Value} (i:Nat),Vals xs us->Vals (xs.eraseIdx i) (us.eraseIdx i)
 | _,_,_,.nil=>.nil
 | _,_,0,.cons _ t=>t
 | _,_,i+1,.cons r t=>.cons r (Vals.eraseIdx i t)
theorem Vals.reverse {xs:List V} {us:List Value} (h:Vals xs us):Vals xs.reverse us.reverse:=by
 induction h with
 | nil=>exact .nil
 | cons r t ih=>rw [jW,jW]; exact Vals.append ih (.cons r .nil)
theorem Vals.rep {xs:List V} {us:List Value} (h:Vals xs us):∀ k:Nat,Vals (aI k xs).flatten (aI k us).flatten
 | 0=>.nil
 | k+1=>by
  rw [eJ,eJ,gG,gG];exact Vals.append h (Vals.rep h k)
theorem a3R {α:Type}:∀ (l:List α) (i:Nat),(l.eraseIdx i).length<=l.length
 | [],_=>aH _
 | _::_,0=>fK _
 | _::r,i+1=>Nat.succ_le_succ (a3R r i)
theorem a4c (its:List Value):∀ (k:Nat) (acc:List Value),
  iJ (λ x1 x2=>x1++x2) acc.toArray (aI k its.toArray)=(acc++(aI k its).flatten).toArray
 | 0,acc=>by simp
 | k+1,acc=>by
  have e:acc.toArray++its.toArray=(acc++its).toArray:=by simp
  have e2:(acc++its)++(aI k its).flatten=acc++(aI (k+1) its).flatten:=by
   rw [eJ,gG,cX]
  rw [<- e2,<- a4c its k (acc++its),<- e,eJ,jX]
section
variable {X:Cx} {pins:List (Addr×Obj)} {σ:St} {H:Hp} {s:Shared} {l b:Addr} {xs ys zs:List V}
theorem Inv.lset {its its':List Value} {n:Nat} {f:Array Value->Array Value} {t':Nat} (I:Inv X pins σ H s) (hH:H l=some (.lst xs))
  (e:s.heap.get? l=some { cls:=.type "list",data:=.seq its.toArray n }) (hf:f its.toArray=its'.toArray) (hv:Vals ys its') (hz:ys.length<=sizeLine) :
  Inv X pins σ (upd H l (.lst ys)) { s with heap:=s.heap.update l (Obj.mapSeq f),toks:=t' }:=by
 have q:=mW e f;rw [hf] at q;refine I.write (x:=l) (e:=l) (by rw [hH]; exact trivial) (.inl rfl) (λ b' u hb hu=>(Heap.get?_update_other s.heap (Obj.mapSeq f) (aY hb)).trans hu) ⟨_,q⟩ ?_;exact ⟨hz,its',_,hv,q⟩
theorem Inv.lnew {its:List Value} {t':Nat} (I:Inv X pins σ H s) (hv:Vals ys its) (hz:ys.length<=sizeLine) :
  Inv X pins σ (upd H s.heap.objs.size (.lst ys)) { s with heap:=s.heap.push { cls:=.type "list",data:=.seq its.toArray },toks:=t' } :=
 I.laid (λ _ _ q=>Heap.get?_push_of_some _ q) (aH _) ⟨hz,its,0,hv,Heap.get?_push_size _ rfl⟩
theorem Inv.fresh (I:Inv X pins σ H s):H s.heap.objs.size=none:=I.hok.fresh (aH _)
theorem Inv.lstM (I:Inv X pins σ H s) (hH:H l=some (.lst xs)):xs.length<=sizeLine/\∃ (its:List Value) (n:Nat),Vals xs its/\xs.length=its.length/\s.heap.get? l=some { cls:=.type "list",data:=.seq its.toArray n }:=by
 obtain ⟨z,its,n,r,e⟩:=I.hok l _ hH;exact ⟨z,its,n,r,r.length,e⟩
theorem a9M {n:Nat} (h:n<=sizeLine):Builtin.List.listTooLong n=false:=by
 unfold Builtin.List.listTooLong;exact decide_eq_false (by omega)
end
section
variable {X:Cx}
def b1B:V->List V->Hp->VK->Prop:=λ x vs H Q=>∃ l xs y,x=.ref l/\vs=[y]/\H l=some (.lst xs)/\xs.length<sizeLine/\Q .non (upd H l (.lst (xs++[y])))
theorem P4:MtM X "list.append" b1B:=by
 intro pins s σ H x vs v us Q I rx rv h;obtain ⟨l,xs,y,rfl,rfl,hH,hz,q⟩:=h
 cases rx;obtain ⟨u,rfl,ru⟩:=rv.one;obtain ⟨z,its,n,r,hl,e⟩:=I.lstM hH;refine call_meets F.slot_list_append ⟨_,e,rfl⟩ F.entry_list_append (F.args_list_append_2 _ _) (PySem.list_append l its.toArray n u (by rw [bD]; omega)) ⟨e,?_⟩;refine ⟨.non,_,I.lset (its':=its++[u]) hH e (by simp) (r.append (.cons ru .nil)) ?_,rfl,q⟩;rw [aO,dN];omega
def b3T:V->List V->Hp->VK->Prop:=λ x vs H Q=>∃ l xs i k y,x=.ref l/\vs=[.int i]/\H l=some (.lst xs)/\-(2 ^ 63)<=i/\i<2 ^ 63/\seqIndex? i xs.length=some k/\xs[k]?=some y/\Q y (upd H l (.lst (xs.eraseIdx k)))
theorem a9k:MtM X "list.pop" b3T:=by
 intro pins s σ H x vs v us Q I rx rv h;obtain ⟨l,xs,i,k,y,rfl,rfl,hH,h1,h2,hk,hy,q⟩:=h
 cases rx;obtain ⟨u,rfl,ru⟩:=rv.one;obtain ⟨t,rfl⟩:=ru;obtain ⟨z,its,n,r,hl,e⟩:=I.lstM hH;obtain ⟨w,hw,rw'⟩:=r.get hy;refine call_meets F.slot_list_pop ⟨_,e,rfl⟩ F.entry_list_pop (F.args_list_pop_2 _ _)
  (MeetsSeq.list_pop_at l its.toArray n i t k w (fitsIndex_both h1 h2) (by rw [bD,<- hl]; exact hk) (by rw [<- Array.getElem?_toList]; exact hw) (by rw [bD]; omega)) ⟨e,?_⟩
 refine ⟨y,_,I.lset (its':=its.eraseIdx k) hH e ?_ (r.eraseIdx k) ?_,rw',q⟩
 ·show its.toArray.eraseIdxIfInBounds k=(its.eraseIdx k).toArray
  rw [List.eraseIdxIfInBounds_toArray]
 ·have:=a3R xs k
  omega
def b6t:R2:=λ x y H Q=>∃ l b xs zs,x=.ref l/\y=.ref b/\H l=some (.lst xs)/\H b=some (.lst zs)/\xs.length+zs.length<=sizeLine/\∀ p,H p=none->Q (.ref p) (upd H p (.lst (xs++zs)))
theorem B6:OpR X (binaryOp .Add) b6t:=by
 intro pins s σ H x y v u Q I rx ry h;obtain ⟨l,b,xs,zs,rfl,rfl,hH,hB,hz,q⟩:=h
 cases rx
 cases ry;obtain ⟨z,its,n,r,hl,e⟩:=I.lstM hH;obtain ⟨z2,its2,n2,r2,hl2,e2⟩:=I.lstM hB;refine PySem.P.add_list e e2 ?_ (by rw [bD,bD]; omega);have ea:its.toArray++its2.toArray=(its++its2).toArray:=by simp
 rw [ea];exact ⟨.ref _,_,I.lnew (t':=s.toks) (r.append r2) (by rw [aO]; omega),rfl,q _ I.fresh⟩
def b6d:R2:=λ x y H Q=>∃ l k xs,x=.ref l/\y=.int k/\H l=some (.lst xs)/\-(2 ^ 63)<=k/\k<2 ^ 63/\xs.length*k.toNat<=sizeLine ∧
 ∀ p,H p=none->Q (.ref p) (upd H p (.lst (aI k.toNat xs).flatten))
theorem b1G {α:Type} (xs:List α) (k:Nat):(aI k xs).flatten.length=k*xs.length:=by
 induction k with
 | zero=>simp
 | succ k ih=>rw [eJ,gG,aO,ih,gM,Nat.add_comm]
theorem Q7:OpR X (binaryOp .Mult) b6d:=by
 intro pins s σ H x y v u Q I rx ry h;obtain ⟨l,k,xs,rfl,rfl,hH,h1,h2,hz,q⟩:=h
 cases rx;obtain ⟨t,rfl⟩:=ry;obtain ⟨z,its,n,r,hl,e⟩:=I.lstM hH;have hlen:its.toArray.size*k.toNat<=sizeLine:=by rw [bD,<- hl]; exact hz
 have hcap:¬ its.toArray.size*k.toNat>(2 ^ 63 - 1) / 8:=by
  have:(sizeLine:Nat)<=(2 ^ 63 - 1) / 8:=by decide
  omega
 have hfit:¬ (!Builtin.List.listFitsIndex k)=true:=by
  rw [fitsIndex_both h1 h2];exact bX
 have hlong:¬ Builtin.List.listTooLong (its.toArray.size*k.toNat)=true:=by
  rw [a9M hlen];exact bX
 have hnew:iJ (λ x1 x2=>x1++x2) #[] (aI (if its.toArray.isEmpty=true then 0 else k.toNat) its.toArray)=(aI k.toNat its).flatten.toArray:=by
  have f0:∀ m:Nat,iJ (λ x1 x2=>x1++x2) #[] (aI m its.toArray)=(aI m its).flatten.toArray:=λ m=>by
   have:=a4c its m [];rw [eX] at this;exact this
  rw [f0]
  cases its with
  | nil=>simp
  | cons a r'=>rw [if_neg (by simp)]
 refine wpAny_binaryOp_repeat_ref (T:="list") (U:="int") (by decide) ⟨_,e,rfl⟩ (λ s'=>typeIs_int s' k t) noFill_list_mul F.fills_int_mul F.slot_int_rmul repeat_list F.slot_int_index.lookup
  (call_meets F.slot_int_rmul (typeIs_int s k t) F.entry_int_rmul (F.args_int_rmul_2 _ _) (int___rmul___int_list k t l its.toArray n)
   ⟨e,rfl,⟨_,e,rfl⟩,call_meets F.slot_list_mul ⟨_,e,rfl⟩ F.entry_list_mul (F.args_list_mul_2 _ _) (AutoListH.list___mul___list_int_3 l its.toArray n k t hfit hcap hlong) ⟨e,?_⟩⟩)
 rw [hnew];exact ⟨.ref _,_,I.lnew (t':=s.toks) (r.rep k.toNat) (by rw [b1G,gN]; exact hz),rfl,q _ I.fresh⟩
end
section
variable {prog:Program} {w:World} {A:Around} {E:Value->Shared->Prop} {s:Shared}
end
section
variable {X:Cx}
end
end L2
namespace Att
open PySem PySem.W PySem.Calls PyProof.Rows
theorem a2i {P:Params} {h:Heap}:∀ (ns:List Int) (vs:List Value),WellAll P h vs (ns.map WData.int)->IntsAre vs ns:=by
 intro ns
 induction ns with
 | nil =>
  intro vs w;rw [fL] at w
  cases w;exact .nil
 | cons n ns ih =>
  intro vs w;rw [bJ] at w
  cases w with
  | cons a b =>
   cases a;exact .cons _ _ (ih _ b)
theorem a8L {l:OpenLaw} {n:Nat} (hn:l.most=some n) {P:Params} {h:Heap} {args:List WData} {vals:List Value}
  (hpre:l.row.toRowW.claim.pre args=true) (hwl:WellAll P h vals args) :
  ∃ a vs ns,vals=[Value.ref a]/\args=[WData.list (ns.map WData.int)]/\h.get? a=some { cls:=.type "list",data:=.seq vs.toArray }/\IntsAre vs ns/\ns.length<=n:=by
 have hsh:WShape.hasAll [] args [.list .int]=true:=(pre_splitW hpre).1;have hc:l.pre.holds [] { args:=args }=true:=(pre_splitW hpre).2;obtain ⟨d,r,rfl,h1,h2⟩:=hasAllW_cons hsh;obtain rfl:=hasAllW_nil h2;obtain ⟨xs,rfl,h3⟩:=hasW_list h1;obtain ⟨ns,rfl⟩:=items_int h3;have hlen:ns.length<=n:=by
  unfold OpenLaw.pre at hc;have h4:(WTm.not (.lt (.lit (.int (n:Int))) (.len (.arg 0)))).holds [] { args:=[.list (ns.map .int)] }=true:=by
   have h4:=(holds_andW hc).1;rw [hn] at h4;exact h4
  have h5:=condW_of h4 (w_not (w_lt w_lit (w_len_list (w_arg rfl))));rw [aA] at h5;refine iK λ q=>?_;have q':(n:Int)<((ns.length:Nat):Int):=by omega
  first
   | (rw [decide_eq_true q'] at h5; exact absurd h5 (by decide))
   | (simp at h5; omega)
 cases hwl with
 | cons w1 w2 =>
  cases w2
  cases w1 with
  | list ho hall=>exact ⟨_,_,ns,rfl,rfl,ho,a2i ns _ hall,hlen⟩
theorem a8V (l:OpenLaw) (args:List WData):l.row.toRowW.claim.post args (.bool true) args=true :=
 postW_of (r:=l.row.toRowW) (X:=(true==true))
  (show WShape.has [] (.bool true) .bool=true by first | rfl | decide | simp [WShape.has,WShape.arms,WShape.armsAll])
  (show (WTm.eq .res (.lit (.bool true))).value [] { args:=args,res:=some (.bool true),after:=args }=some (.bool (true==true)) from w_eq_bool (w_res rfl) w_lit) rfl
theorem attach_call {l:OpenLaw} {n:Nat} {q:Program} {loose:List Str} {XP:(Str->Option Value)->Heap->Prop} {YP:World->Heap->Prop} {d:DefRec}
  (hn:l.most=some n) (hdf:d.params.defaults=[])
  (call:∀ (w:World) (s₀ s₁:Shared) (mg mb:Str->Option Value) (fa:Addr) (o:Obj) (pm cd doc:Value) (a:Addr) (vs:List Value) (ns:List Int),
   Ground q loose [] XP w s₀ mg mb s₁.heap->YP w s₁.heap →
   s₁.heap.get? fa=some o->o.data=.func (docDef d.name d.params d.body d.scope pm cd doc)->s₁.heap.CodeRec cd d.name->mg d.name=some (.ref fa) →
   s₁.heap.get? a=some { cls:=.type "list",data:=.seq vs.toArray }->IntsAre vs ns->ns.length<=n->s₁.gens=#[] →
   codeAny (model l.prog w) callerA (.call (.ref fa) ⟨[.ref a],[]⟩) (λ r s'=>r=.ok (.ret (.bool true))/\OldK s₁.heap s'.heap/\s'.os=s₁.os/\AllBare s'.gens) s₁) :
  WalkO q loose XP YP l.row.toRowW d [] (λ f vs=>iL f vs):=by
 intro w s₀ s₁ mg mb G Y fa o pm cd doc dV kV ho hd hcd hD hmg hg args vals as hpre hlay hrd hwl hlo;obtain rfl:dV=.none:=Dflts.none hD hdf;obtain rfl:kV=.none:=Dflts.noKw hD;obtain ⟨a,vs,ns,rfl,rfl,hobj,hints,hlen⟩:=a8L hn hpre hwl;refine enter_call (codeAny_mono (call w s₀ s₁ mg mb fa o pm cd doc a vs ns G Y ho (fd_plain hd) hcd hmg hobj hints hlen hg) λ r s' hq=>?_);obtain ⟨rfl,h2,h3,h4⟩:=hq;exact ⟨.inl ⟨.bool true,.bool true,[],rfl,λ _=>rfl,.bool true,a8V l _,λ _=>⟨List.Pairwise.nil,λ _ hm=>(nomatch hm)⟩⟩,h2,h3,h4⟩
section
variable {prog:Program} {w:World} {A:Around} {E:Value->Shared->Prop} {s:Shared} {K:Frag}
end
end Att
namespace L2
open PySem PySem.Spec PyProof.Rows
theorem a4j:∀ {vs:List Value} {ns:List Int},IntsAre vs ns->Vals (ns.map V.int) vs
 | _,_,.nil=>.nil
 | _,_,.cons n t h=>.cons ⟨t,rfl⟩ (a4j h)
def V7 (s:Stmt) (j:Nat):Stmt:=match s with
 | .ClassDef _ _ _ body _ _ _ _ _ _ _=>body.getD j (.Pass ⟨0,0,0,0⟩)
 | _=>.Pass ⟨0,0,0,0⟩
def J5 (s:Stmt):Arguments:=match s with
 | .FunctionDef _ a _ _ _ _ _ _ _ _=>a
 | _=>{ posonlyargs:=[],args:=[],vararg:=none,kwonlyargs:=[],kw_defaults:=[],kwarg:=none,defaults:=[] }
def v5 (s:Stmt):List Stmt:=match s with
 | .FunctionDef _ _ b _ _ _ _ _ _ _=>b
 | _=>[]
def i5 (s:Stmt):Scope:=match s with
 | .FunctionDef _ _ _ _ _ _ sc _ _ _=>sc
 | _=>{ kind:=.function,names:=[],isGenerator:=false,isCoroutine:=false }
abbrev E4:CXT:=λ _ _ _ _ _ _=>False
abbrev E0:XK:=λ _ _ _=>False
theorem r8 {X:Cx}:X4 E4 X E0:=λ _ _ _ _ _ _ _ h=>h.elim
structure Fun (K:W.Frag) (x qual:Str) (st:Stmt) (f:Addr) (fd:FuncData):Prop where
 ex:∃ (oc:Value) (od:Option Addr) (kV doc pm:Value) (an:Option Addr) (cdv ct:Value) (osl:Array (Option Value)),
  fd=W.fnOf x qual (J5 st) (v5 st) (i5 st) .none kV doc pm an cdv ct/\K.lookup f=some ⟨oc,od,.func fd,osl⟩/\W.codeIn K cdv qual=true
 kp:W.keepIn K (.ref f)=true
section
variable {P:Program} {w:World} {K:W.Frag} {mg:Str->Option Value} {base:Heap}
theorem Fun.ok {x qual:Str} {st:Stmt} {f:Addr} {fd:FuncData} {N ps:List Str} {k:Nat} {sp:Sp} (F:Fun K x qual st f fd) (S:m6 N ps (i5 st)) (len:∀ vs H Q E,sp vs H Q E->vs.length=ps.length)
  (hbody:∀ (cdv:Value) (A:Around) (outer:List Env) (s:Shared) (H:Hp) (vs:List V) (Q:VK) (E:XK),Room k (A.deeper (envOfC qual (i5 st) s.heap.objs.size f cdv))->sp vs H Q E →
   ∃ t,PSs (M0 E4 P w K mg base N qual (i5 st) f cdv A outer s H E).nox (v5 st) t/\t { nx:=λ _ H'=>Q .non H',rt:=Q } (Y6 N vs) H):FnOk P w K mg base E4 (k+1) f fd ps sp:=by
 obtain ⟨oc,od,kV,doc,pm,an,cdv,ct,osl,rfl,lk,hcd⟩:=F.ex;refine a9H lk hcd S len λ A outer s H vs Q E hr hsp=>?_;obtain ⟨t,h,q⟩:=hbody cdv A outer s H vs Q E hr hsp;exact ⟨t,h.nox,q⟩
theorem Fun.binds {x qual:Str} {st:Stmt} {f:Addr} {fd:FuncData} {ps:List Str} (F:Fun K x qual st f fd)
  (h:∀ (kV doc pm:Value) (an:Option Addr) (cdv ct:Value) (us:List Value),us.length=ps.length->bindArgs (W.fnOf x qual (J5 st) (v5 st) (i5 st) .none kV doc pm an cdv ct) ⟨us,[]⟩=pure (ps.zip us)):Binds K fd ps []:=by
 obtain ⟨oc,od,kV,doc,pm,an,cdv,ct,osl,rfl,lk,hcd⟩:=F.ex;exact .all (h kV doc pm an cdv ct)
theorem a9h {x qual:Str} {st:Stmt} {f:Addr} {oc:Value} {od an:Option Addr} {osl:Array (Option Value)} {kV doc pm cdv ct:Value} (l:K.lookup f=some ⟨oc,od,.func (W.fnOf x qual (J5 st) (v5 st) (i5 st) .none kV doc pm an cdv ct),osl⟩)
  (c:W.codeIn K cdv qual=true) (k:W.keepIn K (.ref f)=true):Fun K x qual st f (W.fnOf x qual (J5 st) (v5 st) (i5 st) .none kV doc pm an cdv ct):=⟨⟨oc,od,kV,doc,pm,an,cdv,ct,osl,rfl,l,c⟩,k⟩
end
theorem j8 {n:Nat} (h:n<=1000):n<sizeLine:=eK h (by decide)
section
variable {X:Cx}
theorem pv (i:Nat) {x:Str} {pos:Pos} (hN:X.N[i]?=some x:=by rfl) (hv:Vis X.env.scope x:=by first | exact aC rfl | exact cC (aC rfl) | exact cC (cC rfl)) (hd:(x==("__debug__":Str))=false:=by decide)
  (hcd:(x==("__classdict__":Str))=false:=by decide):PE X (.Name x pos) (a8j i):=b3H hN hv hd hcd
end
theorem a0s {A B:Prop} (h:B):if false=true then A else B:=by
 rw [if_neg bX];exact h
theorem a4C {A B:Prop} (h:A):if true=true then A else B:=by
 rw [if_pos rfl];exact h
theorem C5 {c A B:Prop} [Decidable c] (h1:c->A) (h2:¬ c->B):if c then A else B:=by
 by_cases h:c
 ·rw [if_pos h]
  exact h1 h
 ·rw [if_neg h]
  exact h2 h
def Same (H H':Hp):Prop:=∀ b o,H b=some o->H' b=some o
theorem Same.refl (H:Hp):Same H H:=λ _ _ h=>h
theorem Same.trans {H H1 H2:Hp} (a:Same H H1) (b:Same H1 H2):Same H H2:=λ c o h=>b c o (a c o h)
theorem Same.free {H H':Hp} (e:Same H H') {l:Addr} (h:H' l=jY):H l=jY:=by
 cases q:H l with
 | none=>rfl
 | some o =>
  rw [e l o q] at h
  cases h
theorem Same.seq {K:W.Frag} {H H':Hp} {a:Addr} {xs:List V} (e:Same H H') (h:SqL K H a xs):SqL K H' a xs:=by
 rcases h with (h | ⟨o,h⟩) | h
 ·exact .inl (.inl (e _ _ h))
 ·exact .inl (.inr ⟨o,e _ _ h⟩)
 ·exact .inr h
def clo (env:Env):List (Str×NameKind)->List (Str×Addr)->List (Str×Addr)
 | [],cs=>cs
 | (n,k)::r,cs=>if k==.free then (match env.cells.lookup n with | some a=>clo env r ((n,a)::cs) | none=>clo env r cs) else clo env r cs
theorem E9 {scope:Scope} {env:Env} (h:∀ n,(n,NameKind.free)∈scope.names->∃ c,env.cells.lookup n=some c):closureFor scope env=pure (clo env scope.names []):=by
 simp only [closureFor];generalize ([]:List (Str×Addr))=cs
 revert h
 generalize scope.names=l;intro h
 induction l generalizing cs with
 | nil=>rfl
 | cons x r ih =>
  obtain ⟨n,k⟩:=x;have hr:∀ n,(n,NameKind.free)∈r->∃ c,env.cells.lookup n=some c:=λ n hn=>h n (bS _ hn)
  by_cases hk:k=.free
  ·subst hk
   obtain ⟨c,hc⟩:=h n cE;have q:=ih ((n,c)::cs) hr;simp only [gP,clo,hc,beq_self_eq_true,if_true,cellOf];exact q
  ·have hb:(k==NameKind.free)=false:=by simpa using hk
   have q:=ih cs hr;simp only [gP,clo,hb,jZ,if_false];exact q
theorem a1s {env:Env} {x:Str} {c:Addr}:∀ {l:List (Str×NameKind)} {cs:List (Str×Addr)},(∀ x c,cs.lookup x=some c->env.cells.lookup x=some c)->(clo env l cs).lookup x=some c->env.cells.lookup x=some c
 | [],_,h,e=>h x c e
 | (n,k)::r,cs,h,e=>by
  unfold clo at e
  by_cases hk:(k==NameKind.free)=true
  ·rw [if_pos hk] at e
   cases q:env.cells.lookup n with
   | none=>rw [q] at e; exact a1s h e
   | some a =>
    rw [q] at e;refine a1s (cs:=(n,a)::cs) (λ y d z=>?_) e;rw [dE] at z
    cases hy:y==n with
    | true =>
     rw [hy] at z;have:y=n:=by simpa using hy
     subst this;rw [q]; exact z
    | false=>rw [hy] at z; exact h y d z
  ·rw [if_neg hk] at e
   exact a1s h e
theorem a2w {env:Env} {x:Str} {c:Addr}:∀ {l:List (Str×NameKind)} {cs:List (Str×Addr)},(x,c)∈clo env l cs->(env.cells.lookup x=some c/\(x,NameKind.free)∈l)\/(x,c)∈cs
 | [],_,e=>.inr e
 | (n,k)::r,cs,e=>by
  unfold clo at e
  by_cases hk:(k==NameKind.free)=true
  ·rw [if_pos hk] at e
   have hk':k=.free:=by simpa using hk
   cases q:env.cells.lookup n with
   | none =>
    rw [q] at e;exact (a2w e).imp (λ z=>⟨z.1,bS _ z.2⟩) id
   | some a =>
    rw [q] at e;rcases a2w (cs:=(n,a)::cs) e with z | z
    ·exact .inl ⟨z.1,bS _ z.2⟩
    ·rcases aR.mp z with z | z
     ·cases z
      exact .inl ⟨q,by rw [hk']; exact cE⟩
     ·exact .inr z
  ·rw [if_neg hk] at e
   exact (a2w e).imp (λ z=>⟨z.1,bS _ z.2⟩) id
theorem v9:∀ (names:List (Str×NameKind)) (n:Nat) (acc:List (Str×Addr)),cellsFrom n names acc=cellsFrom n names []++acc
 | [],_,_=>rfl
 | (x,k)::r,n,acc=>by
  unfold cellsFrom
  split
  ·rw [v9 r (n+1) ((x,n)::acc),v9 r (n+1) [(x,n)],cX]; rfl
  ·exact v9 r n acc
theorem N8 {x:Str} {c:Addr}:∀ {names:List (Str×NameKind)} {n:Nat},(x,c)∈cellsFrom n names []->(x,NameKind.cell)∈names
 | [],_,e=>by cases e
 | (y,k)::r,n,e=>by
  unfold cellsFrom at e
  by_cases hk:(k==NameKind.cell)=true
  ·rw [if_pos hk,v9] at e
   have hk':k=.cell:=by simpa using hk
   rcases aQ.mp e with z | z
   ·exact bS _ (N8 z)
   ·rw [bN] at z
    cases z;rw [hk']; exact cE
  ·rw [if_neg hk] at e
   exact bS _ (N8 e)
theorem U4 {x:Str}:∀ {names:List (Str×NameKind)} {n:Nat},(x,NameKind.cell)∈names->∃ c,(x,c)∈cellsFrom n names []
 | (y,k)::r,n,e=>by
  unfold cellsFrom;rcases aR.mp e with z | z
  ·cases z
   rw [if_pos (by rfl),v9];exact ⟨n,cN _ cE⟩
  ·split
   ·rw [v9]
    obtain ⟨c,hc⟩:=U4 (n:=n+1) z;exact ⟨c,dC _ hc⟩
   ·exact U4 z
theorem a2R {α:Type} {x:Str}:∀ {l₁ l₂:List (Str×α)},(l₁++l₂).lookup x=match l₁.lookup x with | some c=>some c | none=>l₂.lookup x
 | [],_=>rfl
 | (n,c)::r,l₂=>by
  rw [dA,dE,dE]
  cases hx:x==n with
  | true=>rfl
  | false=>exact a2R (l₁:=r)
theorem a0z {α:Type} {x:Str} {c:α}:∀ {l:List (Str×α)},(x,c)∈l->∃ c',l.lookup x=some c'
 | (n,d)::r,h=>by
  rw [dE]
  cases hx:x==n with
  | true=>exact ⟨d,rfl⟩
  | false =>
   rcases aR.mp h with z | z
   ·cases z; simp at hx
   ·exact a0z z
theorem a0i {env:Env} {x:Str}:∀ {l:List (Str×NameKind)} {cs:List (Str×Addr)},(∃ c,cs.lookup x=some c)->∃ c,(clo env l cs).lookup x=some c
 | [],_,h=>h
 | (n,k)::r,cs,h=>by
  unfold clo
  split
  ·split
   ·refine a0i ?_
    rw [dE]
    cases hy:x==n with
    | true=>exact ⟨_,rfl⟩
    | false=>exact h
   ·exact a0i h
  ·exact a0i h
theorem a0m {env:Env} {x:Str} (hx:∃ c,env.cells.lookup x=some c):∀ {l:List (Str×NameKind)} {cs:List (Str×Addr)},(x,NameKind.free)∈l->∃ c,(clo env l cs).lookup x=some c
 | (n,k)::r,cs,h=>by
  rcases aR.mp h with e | e
  ·cases e
   obtain ⟨c,hc⟩:=hx;unfold clo;rw [if_pos (by rfl),hc];refine a0i ⟨c,?_⟩;simp [dE]
  ·unfold clo
   split
   ·split
    ·exact a0m hx e
    ·exact a0m hx e
   ·exact a0m hx e
def U5 (env:Env) (scope:Scope) (C:Addr):List (Str×Addr):=cellsFrom (C+1) scope.names (clo env scope.names [])
theorem J9 {env:Env} {scope:Scope} {C:Addr} {x:Str} {c:Addr} (h:(U5 env scope C).lookup x=some c) :
  ((x,c)∈cellsFrom (C+1) scope.names []/\(x,NameKind.cell)∈scope.names)\/(env.cells.lookup x=some c/\(x,NameKind.free)∈scope.names):=by
 have m:=mem_of_lookup h;unfold U5 at m;rw [v9] at m;rcases aQ.mp m with z | z
 ·exact .inl ⟨z,N8 z⟩
 ·rcases a2w z with y | y
  ·exact .inr y
  ·cases y
theorem a1T {env:Env} {scope:Scope} {C:Addr} {x:Str} (hx:∃ c,env.cells.lookup x=some c) (hf:(x,NameKind.free)∈scope.names) (hn:(x,NameKind.cell) ∉ scope.names):(U5 env scope C).lookup x=env.cells.lookup x:=by
 obtain ⟨c,hc⟩:=a0m (env:=env) (cs:=[]) hx hf;have hc':=a1s (env:=env) (λ _ _ z=>by simp at z) hc;unfold U5;rw [v9,a2R]
 cases q:(cellsFrom (C+1) scope.names []).lookup x with
 | some d=>exact absurd (N8 (mem_of_lookup q)) hn
 | none=>rw [hc',<- hc]
def blk (X:Cx) (os:List Str) (fr:List Nat) (scope:Scope) (C:Addr) (fp:List Addr) (s₀:Shared) (H₀:Hp):Cx :=
 { X with N:=os++fr.map (λ j=>X.N.getD j ""),s₀:=s₀,H₀:=H₀,env:=compEnvC scope (U5 X.env scope C) C X.env,outer:=X.stack,ex:=fp,fn:=λ x=>scope.names.lookup x==some .cell,pn:=[],xe:=λ _ _=>False }
def frv (fr:List Nat) (σ:St):St:=fr.map λ j=>(σ[j]?).join
def blkσ (n:Nat) (fr:List Nat) (σ:St):St:=aI n none++frv fr σ
def Wk (σ0 σ2:St):Prop:=σ2.length=σ0.length/\∀ (i:Nat) v,σ0[i]?=some (some v)->σ2[i]?=some (some v)
def a1n (outer:Scope) (scope:Scope) (N:List Str) (fr:List Nat):Bool :=
 (scope.names.all λ p=>(scope.names.lookup p.1==some p.2)&&(p.2 != .free || outer.names.lookup p.1==some .cell)) &&
 (fr.all λ j=>decide (j<N.length)&&(outer.names.lookup (N.getD j "")==some .cell)&&(scope.names.lookup (N.getD j "")==some .free))
theorem K9 {x:Str} {k:NameKind}:∀ {l:List (Str×NameKind)},l.lookup x=some k->(x,k)∈l
 | (n,j)::r,h=>by
  rw [dE] at h
  cases hx:x==n with
  | true =>
   rw [hx] at h;have:x=n:=by simpa using hx
   subst this
   cases h;exact cE
  | false=>rw [hx] at h; exact bS _ (K9 h)
theorem R4 {env:Env} {x:Str} {k:NameKind}:∀ {names:List (Str×NameKind)},
  (names.map λ (n,k)=>if (k==NameKind.free&&env.scope.kind==.function&&env.kindOf n==some .cell) then (n,NameKind.cell) else (n,k)).lookup x=some k →
  (x,k)∈names\/(x,NameKind.free)∈names
 | [],h=>by simp at h
 | (n,j)::r,h=>by
  rw [bJ] at h;dsimp only at h
  by_cases hc:(j==NameKind.free&&env.scope.kind==.function&&env.kindOf n==some .cell)=true
  ·rw [if_pos hc,dE] at h
   have hj:j=.free:=by
    have:=(dD _ _ ▸ (dD _ _ ▸ hc).1).1
    simpa using this
   cases hx:x==n with
   | true =>
    have:x=n:=by simpa using hx
    subst this;subst hj;exact .inr cE
   | false =>
    rw [hx] at h;exact (R4 h).imp (bS _) (bS _)
  ·rw [if_neg hc,dE] at h
   cases hx:x==n with
   | true =>
    rw [hx] at h;have:x=n:=by simpa using hx
    subst this
    cases h;exact .inl cE
   | false =>
    rw [hx] at h;exact (R4 h).imp (bS _) (bS _)
section
variable {X:Cx} {os:List Str} {fr:List Nat} {scope:Scope}
theorem T0 (h:a1n X.env.scope scope X.N fr=true):∀ p∈scope.names,scope.names.lookup p.1=some p.2/\(p.2=.free->X.env.scope.names.lookup p.1=some .cell):=λ p hp=>by
 have q:=eD.mp (dD _ _ ▸ h).1 p hp;simp only [dD,bne_iff_ne,Bool.or_eq_true,beq_iff_eq,ne_eq] at q;refine ⟨q.1,λ e=>?_⟩;rcases q.2 with z | z
 ·exact absurd e z
 ·exact z
theorem a6G (h:a1n X.env.scope scope X.N fr=true) {x:Str} {a b:NameKind} (ha:(x,a)∈scope.names) (hb:(x,b)∈scope.names):a=b:=by
 have h1:=(T0 h _ ha).1;have h2:=(T0 h _ hb).1;rw [h1] at h2;exact aS h2
theorem b2G (h:a1n X.env.scope scope X.N fr=true):∀ j∈fr,j<X.N.length/\X.env.scope.names.lookup (X.N.getD j "")=some .cell/\scope.names.lookup (X.N.getD j "")=some .free:=λ j hj=>by
 have q:=eD.mp (dD _ _ ▸ h).2 j hj;simp only [dD,beq_iff_eq,decide_eq_true_eq] at q;exact ⟨q.1.1,q.1.2,q.2⟩
theorem W4 {pins:List (Addr×Obj)} {σ:St} {H:Hp} {s:Shared} (I:Inv X pins σ H s) (h:a1n X.env.scope scope X.N fr=true):∀ n,(n,NameKind.free)∈scope.names->∃ c,X.env.cells.lookup n=some c:=λ n hn =>
 I.ok.has n (.inl ((T0 h _ hn).2 rfl))
theorem Inv.block {pins:List (Addr×Obj)} {σ:St} {H:Hp} {s:Shared} {fp:List Addr} {h₁:Heap} {t':Nat} (I:Inv X pins σ H s) (hk:scope.kind=.function) (h:a1n X.env.scope scope X.N fr=true)
  (hf:∀ b∈fp,Y3 X pins H b) (ho:∀ b∈fp,∃ o,s.heap.get? b=some o) (hns:h₁.Ns s.heap.objs.size λ _=>none) (hkeep:∀ b o,s.heap.get? b=some o->h₁.get? b=some o)
  (hcl:CellsOk h₁ (s.heap.objs.size+1) (cellsFrom (s.heap.objs.size+1) scope.names [])) :
  Inv (blk X os fr scope s.heap.objs.size fp s H) [] (blkσ os.length fr σ) H { s with heap:=h₁,toks:=t' } where
 ok:={
  mod:=I.ok.mod
  kind:=hk
  glob:=I.ok.glob
  blt:=I.ok.blt
  above:=aH _
  inj:=λ x y c e1 e2=>by
   have old:∀ {z:Str},X.env.cells.lookup z=some c->c<s.heap.objs.size:=λ {z} e=>by
    obtain ⟨v,q⟩:=I.cell z c e;exact q.lt
   rcases J9 e1 with z1 | z1 <;> rcases J9 e2 with z2 | z2
   ·exact name_of_addr hcl.apart z1.1 z2.1
   ·exact absurd (bA (fM (old z2.1)) (hcl.empty _ _ z1.1).2) (cA _)
   ·exact absurd (bA (fM (old z1.1)) (hcl.empty _ _ z2.1).2) (cA _)
   ·exact I.ok.inj x y c z1.1 z2.1
  has:=λ x hx=>by
   have hm:(x,NameKind.cell)∈scope.names\/(x,NameKind.free)∈scope.names:=by
    rcases hx with e | e
    ·exact R4 e
    ·rcases R4 e with z | z
     ·exact .inr z
     ·exact .inr z
   rcases hm with z | z
   ·obtain ⟨c,hc⟩:=U4 (n:=s.heap.objs.size+1) z
    refine a0z (c:=c) ?_
    show (x,c)∈U5 _ _ _
    unfold U5;rw [v9];exact dC _ hc
   ·obtain ⟨c,hc⟩:=W4 I h x z
    refine ⟨c,?_⟩
    show (U5 _ _ _).lookup x=_
    rw [a1T ⟨c,hc⟩ z (λ w=>by cases a6G h z w)];exact hc
  cab:=λ x c hx e=>by
   have hx':scope.names.lookup x=some .cell:=by simpa using (show (scope.names.lookup x==some .cell)=true from hx)
   rcases J9 e with z | z
   ·exact dX (kA (hcl.empty _ _ z.1).2)
   ·cases a6G h (K9 hx') z.2
  hd:=I.ok.hd
  frames:=I.ok.frames
  stk:=.inl rfl
  exf:=λ b hb=>by
   obtain ⟨o,e⟩:=ho b hb;refine ⟨Nat.ne_of_lt (Heap.lt_size e),λ x c e1=>?_⟩;rcases J9 e1 with z | z
   ·intro w
    have:=(hcl.empty _ _ z.1).2;rw [w] at this;exact absurd (bA (fM (Heap.lt_size e)) this) (cA _)
   ·exact (hf b hb).2.2.2.2.1 x c z.1
  bs:=I.bs
  bsz:=aZ I.ok.bsz I.sz
  noex:=λ b o e hb=>by
   rcases (hf b hb).2.2.2.1 with z | z
   ·exact I.ok.noex b o e z
   ·exact absurd (bA (Heap.lt_size e) (aZ I.ok.bsz z)) (cA _)
  exfs:=λ b hb hz=>by
   rcases aR.mp (I.stkSub b hz) with e | e
   ·exact (hf b hb).2.1 e
   ·exact (hf b hb).2.2.1 e
  funs:=I.stack
  frf:=I.stkFree }
 os:=rfl
 bare:=I.bare
 base:=Un.kept hkeep
 loc:=by
  refine ⟨_,hns,λ i x v e1 e2 _=>?_⟩;have hi:os.length<=i:=by
   refine iK λ hlt=>?_;unfold blkσ at e2;rw [bK (by simpa using hlt)] at e2;rw [cV] at e2
   split at e2 <;> cases e2
  have e1':(fr.map λ j=>X.N.getD j "")[i - os.length]?=some x:=by
   rw [<- bZ (l₁:=os) hi]; exact e1
  have e2':(fr.map λ j=>(σ[j]?).join)[i - os.length]?=some (some v):=by
   have z:(aI os.length (none:Option V)).length<=i:=by simpa using hi
   unfold blkσ at e2;rw [bZ z,aX] at e2;exact e2
  rw [aE] at e1' e2'
  cases q:fr[i - os.length]? with
  | none=>rw [q] at e1'; cases e1'
  | some j =>
   rw [q] at e1' e2';have hj:j∈fr:=aJ q;obtain ⟨hjl,hjc,hjf⟩:=b2G h j hj;have ex:X.N.getD j ""=x:=aS e1';have ev:(σ[j]?).join=some v:=aS e2';have hN:X.N[j]?=some x:=by
    rw [<- ex,aG,aF hjl]; rfl
   have hσ:σ[j]?=some (some v):=by
    cases r:σ[j]? with
    | none=>rw [r] at ev; cases ev
    | some y=>rw [r] at ev; exact congrArg some ev
   rw [ex] at hjc hjf;obtain ⟨m,_,hl⟩:=I.loc;obtain ⟨u,r,lk⟩:=hl j x v hN hσ (.inr (.inl hjc));refine ⟨u,r,?_⟩;have kc:Env.kindOf X.env x=some .cell:=hjc;rcases lk with ⟨k1,_⟩ | ⟨_,c,ec,z⟩
   ·rw [kc] at k1; cases k1
   ·have hfm:=K9 hjf
    have ec':(U5 X.env scope s.heap.objs.size).lookup x=some c:=by
     rw [a1T ⟨c,ec⟩ hfm (λ w=>by cases a6G h hfm w)]; exact ec
    refine .inr ⟨?_,c,ec',?_⟩
    ·have kk:∀ {names:List (Str×NameKind)},names.lookup x=some .free->(names.map λ (n,k)=>if (k==NameKind.free&&X.env.scope.kind==.function&&X.env.kindOf n==some .cell) then (n,NameKind.cell) else (n,k)).lookup x=some .cell:=by
      intro names
      induction names with
      | nil=>intro e; simp at e
      | cons p r ih =>
       obtain ⟨n,k⟩:=p;intro e;rw [dE] at e;rw [bJ];dsimp only
       cases hx:x==n with
       | true =>
        rw [hx] at e
        cases e;have hxn:x=n:=by simpa using hx
        subst hxn;rw [if_pos (by rw [I.ok.kind,kc]; rfl),dE];simp
       | false =>
        rw [hx] at e
        by_cases hc:(k==NameKind.free&&X.env.scope.kind==.function&&X.env.kindOf n==some .cell)=true
        ·rw [if_pos hc,dE,hx]; exact ih e
        ·rw [if_neg hc,dE,hx]; exact ih e
     exact .inl (kk hjf)
    ·obtain ⟨o,ho',hd⟩:=z
     exact ⟨o,hkeep _ _ ho',hd⟩
 cell:=λ x c e=>by
  rcases J9 e with z | z
  ·exact ⟨_,(hcl.empty _ _ z.1).1⟩
  ·obtain ⟨v,o,ho',hd⟩:=I.cell x c z.1
   exact ⟨v,o,hkeep _ _ ho',hd⟩
 free:=I.hok.fresh (aH _)
 freeC:=λ x c e=>by
  rcases J9 e with z | z
  ·exact I.hok.fresh (dX (kA (hcl.empty _ _ z.1).2))
  ·exact I.freeC x c z.1
 pin:=λ p hp=>nomatch hp
 hok:=I.hok.kept hkeep
 len:=by simp [blkσ,frv,blk]
theorem Inv.unblock {pins:List (Addr×Obj)} {σ σ':St} {H H':Hp} {s s':Shared} {fp:List Addr} {C:Addr} (I:Inv X pins σ H s) (hf:∀ b∈fp,Y3 X pins H b) (J:Inv (blk X os fr scope C fp s H) [] σ' H' s'):Inv X pins σ H' s' :=
 I.call' J.os J.base J.hok J.bare λ b hb=>⟨(hf b hb).2.2.2.1,(hf b hb).2.1,(hf b hb).2.2.2.2.1,(hf b hb).2.2.2.2.2⟩
theorem Inv.letgo {pins:List (Addr×Obj)} {σ:St} {H H₀:Hp} {s s₀:Shared} {C:Addr} {h':Heap} (I₀:Inv X pins σ₀ H₀ s₀) (I:Inv X pins σ H s) (hn:H C=none) (hC:s₀.heap.objs.size<=C) (hs:Heap.SameBut C s.heap h'):Inv X pins σ H { s with heap:=h' } :=
 I.turned (t':=s.toks) (it:=C) (λ b o hb e=>(hs.2 b hb).trans e) hn (dY (bA I₀.lt hC)) (.inr (aZ I₀.sz hC))
  (λ x c e z=>by
   obtain ⟨v,q⟩:=I₀.cell x c e;exact absurd (bA q.lt (by rw [z]; exact hC)) (cA _))
  λ p hp z=>absurd (bA (Heap.lt_size (I₀.pin p hp).1) (by rw [z]; exact hC)) (cA _)
end
def b3w (X:Cx) (ifs:List Expr) (t:TT):Prop :=
 ∀ (pins:List (Addr×Obj)) (s:Shared) (σ:St) (H:Hp) (Q:Bool->Hp->Prop),Inv X pins σ H s->t σ H Q →
  wpAny (model X.prog X.w) X.A (forIn ifs true λ c r=>if r=true then do let ok <- isTrue c X.env (eval c X.env); pure (gQ ok) else pure (gQ r)) (TP X pins σ Q) X.xe s
def b0D:TT:=λ _ H Q=>Q true H
theorem a5W {X:Cx}:b3w X [] b0D:=λ _ _ _ H _ I h=>wpAny_tests_nil ⟨H,I,h⟩
theorem a5X {X:Cx} {c:Expr} {t:TT} (h:PT X c t):b3w X [c] t:=λ pins s σ H Q I q=>wpAny_tests_one (h pins s σ H Q I q)
theorem a4O {M:Model} {A:Around} {E:Value->Shared->Prop} {s:Shared} {scope:Scope} {globals:Addr} {closure:List (Str×Addr)} {qual:Str} {env:Env} {Q:Env->Shared->Prop}
  (hQ:Q { scope,locals:=s.heap.objs.size,globals,cells:=cellsFrom (s.heap.objs.size+1) scope.names closure,qual,func:=none,code:=env.code,frame:=env.frame,builtins:=env.builtins } { s with heap:=pushCells (s.heap.push { cls:=.type "dict",data:=.dict #[] }) scope.names }) :
  wpAny M A (newFunctionEnv scope globals closure [] qual none .none (some env)) Q E s:=by
 simp only [newFunctionEnv,Option.isSome_some,if_true];refine wpAny_bind (wpAny_alloc ?_);refine wpAny_bind (wpAny_layCells _ (λ name kind cells=>by cases hkc:kind==NameKind.cell <;> simp [hkc]) _ _ _ _ ?_);rw [show ({ s with heap:=s.heap.push { cls:=.type "dict",data:=.dict #[] } }:Shared).heap.objs.size=s.heap.objs.size+1 from Heap.size_push ..];simp only [iM];exact wpAny_bind (wpAny_pure (wpAny_pure hQ))
theorem a4U {prog:Program} {w:World} {A:Around} {R:Result->Shared->Prop} {s:Shared} {elt target iter:Expr} {ifs:List Expr} {scope:Scope} {pos:Pos} {it acc:Value} {env:Env} (I:Nat->Shared->Prop)
  (turn:∀ n s,I n s->wpAny (model prog w) A (pyNext it) (λ r s₁=>match r with
   | none=>R (.ok .next) s₁
   | some v=>wpAny (model prog w) A (letOwnedTupleGo target it v) (λ _ s₀=>wpAny (model prog w) A (assign target env v) (λ _ s₂ =>
     wpAny (model prog w) A (forIn ifs true λ c r=>if r=true then do let ok <- isTrue c env (eval c env); pure (gQ ok) else pure (gQ r)) (λ ok s₃ =>
      if ok=true then wpAny (model prog w) A (eval elt env) (λ x s₄ =>
       wpAny (model prog w) A (call (.builtin "list.append") [acc,x]) (λ _ s₅=>∃ m,m<n/\I m s₅) (λ _ _=>False) s₄) (λ _ _=>False) s₃
      else ∃ m,m<n/\I m s₃) (λ _ _=>False) s₂) (λ _ _=>False) s₀) (λ _ _=>False) s₁) (λ _ _=>False) s)
  (n:Nat) (h:I n s) :
  codeAny (model prog w) A (.compLoop (.ListComp elt [⟨target,iter,ifs,0⟩] scope pos) 0 it acc env) R s:=by
 refine codeAny_loop rfl I (λ n s hI=>?_) n h
 show wpAny _ A ((compTurn (.ListComp elt [⟨target,iter,ifs,0⟩] scope pos) 0 it acc env).onRaise (λ x=>do noteFrame x env; theTreesLotGoes x)) _ _ s
 refine wpAny_noted ?_;rw [compTurn_list];refine wpAny_bind (wpAny_standAt (wpAny_bind (wpAny_mono (turn n s hI) (λ r s₁ h₁=>?_) λ _ _ h'=>h'.elim)))
 cases r with
 | none=>exact wpAny_pure h₁
 | some v =>
  refine wpAny_bind (wpAny_mono h₁ (λ _ s₀ h₀=>?_) λ _ _ h'=>h'.elim);refine wpAny_bind (wpAny_mono h₀ (λ _ s₂ h₂=>wpAny_bind (wpAny_mono h₂ (λ ok s₃ h₃=>?_) λ _ _ h'=>h'.elim)) λ _ _ h'=>h'.elim)
  cases ok with
  | false=>exact wpAny_pure ⟨rfl,h₃⟩
  | true =>
   exact wpAny_bind (wpAny_bind (wpAny_mono h₃ (λ x s₄ h₄=>wpAny_bind (wpAny_mono h₄ (λ _ s₅ h₅=>wpAny_pure (wpAny_pure ⟨rfl,h₅⟩)) λ _ _ h'=>h'.elim)) λ _ _ h'=>h'.elim))
def lcW (n:Nat) (fr:List Nat) (g:TG) (te:TE) (σ:St) (J:It) (H1:Hp) (p:Addr) (D:Hp->Prop):Prop :=
 ∃ W:Nat->Nat->List V->Hp->Prop,(∃ m,W 0 m [] (upd H1 p (.lst [])))/\∀ i m ys H,W i m ys H →
  (J.stop i H/\D H)\/(J.go i H/\∀ x H',J.yld i H x H'->g x (blkσ n fr σ) H' λ σ2 H2=>Wk (blkσ n fr σ) σ2/\te σ2 H2 λ v H3=>H3 p=some (.lst ys)/\ys.length<sizeLine/\∃ m',m'<m/\W (i+1) m' (ys++[v]) (upd H3 p (.lst (ys++[v]))))
def tLC (n:Nat) (fr:List Nat) (wi:TI) (g:TG) (te:TE):TE:=λ σ H Q=>wi σ H λ J H1=>∀ p,H1 p=none->lcW n fr g te σ J H1 p (Q (.ref p))
def lcI (n:Nat) (fr:List Nat) (g:TG) (tc:TT) (te:TE) (σ:St) (J:It) (H1:Hp) (p:Addr) (D:Hp->Prop):Prop :=
 ∃ W:Nat->Nat->List V->Hp->Prop,(∃ m,W 0 m [] (upd H1 p (.lst [])))/\∀ i m ys H,W i m ys H →
  (J.stop i H/\D H)\/(J.go i H/\∀ x H',J.yld i H x H'->g x (blkσ n fr σ) H' λ σ2 H2=>Wk (blkσ n fr σ) σ2/\tc σ2 H2 λ ok H2' =>
   if ok=true then te σ2 H2' λ v H3=>H3 p=some (.lst ys)/\ys.length<sizeLine/\∃ m',m'<m/\W (i+1) m' (ys++[v]) (upd H3 p (.lst (ys++[v]))) else ∃ m',m'<m/\W (i+1) m' ys H2')
def b4K (n:Nat) (fr:List Nat) (wi:TI) (g:TG) (tc:TT) (te:TE):TE:=λ σ H Q=>wi σ H λ J H1=>∀ p,H1 p=none->lcI n fr g tc te σ J H1 p (Q (.ref p))
theorem a5V {n:Nat} {fr:List Nat} {g:TG} {te:TE} {σ:St} {J:It} {H1:Hp} {p:Addr} {D:Hp->Prop}:lcI n fr g b0D te σ J H1 p D=lcW n fr g te σ J H1 p D:=by
 unfold lcI lcW b0D;simp only [if_true]
section
variable {X:Cx} {os:List Str} {fr:List Nat} {scope:Scope} {elt tg iter:Expr} {pos:Pos} {wi:TI} {g:TG} {te:TE}
theorem a1i {ifs:List Expr} {tc:TT} {pins:List (Addr×Obj)} {σ:St} {s2:Shared} {D:Addr->Hp->Prop} {itv:Value} {RR:Value->Addr->Result->Shared->Prop}
  (hc:X.calm=true) (hg:∀ C fp s₀ H₀,PG (blk X os fr scope C fp s₀ H₀) tg g) (ht:∀ C fp s₀ H₀,b3w (blk X os fr scope C fp s₀ H₀) ifs tc) (he:∀ C fp s₀ H₀,PE (blk X os fr scope C fp s₀ H₀) elt te)
  (hk:scope.kind=.function) (hok:a1n X.env.scope scope X.N fr=true)
  (h2:PIE X pins σ tg (λ J H1=>∀ p,H1 p=none->lcI os.length fr g tc te σ J H1 p (D p)) itv s2)
  (hRR:∀ p C s3 H3 s' H',Inv X pins σ H3 s3->s3.heap.objs.size=C->H' C=none->Inv X pins σ H' s'->(∃ m,s'.heap.Ns C m)->D p H'->RR (.ref p) C (.ok .next) s') :
  wpAny (model X.prog X.w) X.A (newList []) (λ acc s₃=>wpAny (model X.prog X.w) X.A (newFunctionEnv scope X.env.globals (clo X.env scope.names []) [] X.env.qual none .none (some X.env)) (λ cenv s₄ =>
   codeAny (model X.prog X.w) X.A (.compStart (.ListComp elt [⟨tg,iter,ifs,0⟩] scope pos) 0 itv acc { cenv with scope:=relabel scope X.env }) (RR acc cenv.locals) s₄) X.xe s₃) X.xe s2:=by
 obtain ⟨it,fp,tn,J,H2,e,I2,T,st2,f2,hR⟩:=h2;subst e;refine wpAny_newObj_type ?_;have fresh:H2 s2.heap.objs.size=none:=I2.fresh;obtain ⟨W,⟨m0,w0⟩,turn⟩:=hR s2.heap.objs.size fresh;have I3:Inv X pins σ (upd H2 s2.heap.objs.size (.lst [])) { s2 with heap:=s2.heap.push { cls:=.type "list",dict:=none,data:=.seq ([]:List Value).toArray } }:=I2.lnew (ys:=[]) (its:=[]) (t':=s2.toks) .nil (cB _);have obj2:=T.obj _ _ st2;have ne2:∀ b∈fp,b≠s2.heap.objs.size:=λ b hb=>by
  obtain ⟨o,e,_⟩:=obj2 b hb;exact bI (Heap.lt_size e)
 have st3:tn 0 (s2.heap.push { cls:=.type "list",dict:=none,data:=.seq ([]:List Value).toArray }):=T.keep _ _ _ st2 λ b hb o e=>Heap.get?_push_of_some _ e;have f3:∀ b∈fp,Y3 X pins (upd H2 s2.heap.objs.size (.lst [])) b:=λ b hb=>⟨by rw [i3 (ne2 b hb)]; exact (f2 b hb).1,(f2 b hb).2⟩;generalize hs3:({ s2 with heap:=s2.heap.push { cls:=.type "list",dict:=none,data:=.seq ([]:List Value).toArray } }:Shared)=s3 at I3 ⊢;have st3':tn 0 s3.heap:=by rw [<- hs3]; exact st3
 generalize s2.heap.objs.size=p at *;refine a4O ?_;have hns:(pushCells (s3.heap.push { cls:=.type "dict",data:=.dict #[] }) scope.names).Ns s3.heap.objs.size λ _=>none:=(Heap.Ns.new s3.heap (.type "dict")).keeps (pushCells_keeps _ _);have hkeep:∀ b o,s3.heap.get? b=some o->(pushCells (s3.heap.push { cls:=.type "dict",data:=.dict #[] }) scope.names).get? b=some o:=λ b o e=>pushCells_keeps _ _ b o (Heap.get?_push_of_some _ e);have hcl:=cellsFrom_ok scope.names (s3.heap.push { cls:=.type "dict",data:=.dict #[] }) (s3.heap.objs.size+1) [] ⟨λ _ _ hm=>(nomatch hm),mX⟩ (by rw [Heap.size_push]; exact aH _);rw [Heap.size_push] at hcl;generalize pushCells (s3.heap.push { cls:=.type "dict",data:=.dict #[] }) scope.names=h₁ at hns hkeep hcl ⊢;have obj3:∀ b∈fp,∃ o,s3.heap.get? b=some o:=λ b hb=>by
  obtain ⟨o,e,_⟩:=T.obj _ _ st3' b hb;exact ⟨o,e⟩
 have J0:=I3.block (os:=os) (t':=s3.toks) hk hok f3 obj3 (h₁:=h₁) hns hkeep hcl;have ok0:=J0.ok;have fpY:∀ {H':Hp},(∀ b∈fp,H' b=none)->∀ b∈fp,Y3 (blk X os fr scope s3.heap.objs.size fp s3 (upd H2 p (.lst []))) [] H' b:=λ hn b hb =>
  ⟨hn b hb,(ok0.exf b hb).1,ok0.exfs b hb,.inl hb,(ok0.exf b hb).2,λ q hq=>nomatch hq⟩
 have st4:tn 0 h₁:=T.keep _ _ _ st3' λ b hb o e=>hkeep b o e;have fr0:∀ b∈fp,upd H2 p (.lst []) b=none:=λ b hb=>(f3 b hb).1;have loop:∀ s4:Shared,s4={ s3 with heap:=h₁,toks:=s3.toks } →
   codeAny (model X.prog X.w) X.A (.compLoop (.ListComp elt [⟨tg,iter,ifs,0⟩] scope pos) 0 (.ref it) (.ref p) (compEnvC scope (U5 X.env scope s3.heap.objs.size) s3.heap.objs.size X.env)) (RR (.ref p) s3.heap.objs.size) s4:=by
  rintro s4 rfl;refine a4U (λ n s'=>∃ i ys H',Inv (blk X os fr scope s3.heap.objs.size fp s3 (upd H2 p (.lst []))) [] (blkσ os.length fr σ) H' s'/\tn i s'.heap/\(∀ b∈fp,H' b=none)/\W i n ys H') ?_ m0 ⟨0,[],_,J0,st4,fr0,w0⟩;rintro n s5 ⟨i,ys,H5,I5,st5,fr5,w5⟩;rcases turn i n ys H5 w5 with ⟨stop,qd⟩ | ⟨go,step⟩
  ·refine C6 (T.done (blk X os fr scope s3.heap.objs.size fp s3 (upd H2 p (.lst []))) rfl rfl rfl hc i [] s5 _ H5 (λ _ _=>False) I5 (fpY fr5) st5 stop) λ r s6 ⟨hr,I6⟩=>?_
   subst hr;exact hRR p _ s3 _ s6 H5 I3 rfl I6.free (I3.unblock f3 I6) (let ⟨m,hm,_⟩:=I6.loc; ⟨m,hm⟩) qd
  ·refine C6 (T.item (blk X os fr scope s3.heap.objs.size fp s3 (upd H2 p (.lst []))) rfl rfl rfl hc i [] s5 _ H5 (λ _ _=>False) I5 (fpY fr5) st5 go) λ r s6 ⟨u,hr,h6⟩=>?_
   subst hr;refine C6 h6 λ _ s7 ⟨x,H7,I7,r7,y7,st7,fr7⟩=>?_;have I7':=I7.pinned (fpY fr7) (T.obj _ _ st7);refine C6 (hg _ _ _ _ _ s7 _ H7 x u _ I7' r7 (step x H7 y7)) λ _ s8 ⟨σ8,H8,I8,wk8,q8⟩=>?_;have again:∀ {H':Hp} {s':Shared} {zs:List V} {m':Nat},Inv (blk X os fr scope s3.heap.objs.size fp s3 (upd H2 p (.lst []))) ([]++a2F fp s7.heap) σ8 H' s'->m'<n->W (i+1) m' zs H' →
     ∃ m,m<n/\∃ i ys H',Inv (blk X os fr scope s3.heap.objs.size fp s3 (upd H2 p (.lst []))) [] (blkσ os.length fr σ) H' s'/\tn i s'.heap/\(∀ b∈fp,H' b=none)/\W i m ys H':=λ {H' s' zs m'} J' hm' w'=>by
    refine ⟨m',hm',i+1,zs,H',(J'.weak wk8.1.symm λ i v e=>wk8.2 i v e).unpinned,T.keep _ _ _ st7 λ b hb o e=>(J'.pin (b,o) (cN _ (cN _ (W7 hb e)))).1,λ b hb=>?_,w'⟩;obtain ⟨o,e,d⟩:=T.obj _ _ st7 b hb;exact (J'.pin (b,o) (cN _ (cN _ (W7 hb e)))).2.1
   refine C6 (ht _ _ _ _ _ s8 σ8 H8 _ I8 q8) λ ok s9 ⟨H9,I9,q9⟩=>?_
   cases ok with
   | false =>
    obtain ⟨m',hm',w9⟩:=q9;exact again I9 hm' w9
   | true =>
    refine C6 (he _ _ _ _ _ s9 σ8 H9 _ I9 q9) λ y s10 ⟨v,H10,I10,r10,hp10,hz10,m',hm',w10⟩=>?_;refine C6 (P4 (X:=blk X os fr scope s3.heap.objs.size fp s3 (upd H2 p (.lst []))) _ s10 σ8 H10 (.ref p) [v] (.ref p) [y] (λ _ H'=>H'=upd H10 p (.lst (ys++[v]))) I10 rfl (.cons r10 .nil) ⟨p,ys,v,rfl,rfl,hp10,hz10,rfl⟩) λ _ s11 ⟨_,H11,I11,_,e11⟩=>?_;subst e11;exact again I11 hm' w10
 exact codeAny_compStart_list (loop _ rfl) (T.self _ 0 _ _ _ st4 (loop _ rfl))
theorem O3 (os:List Str) (fr:List Nat) (hc:X.calm=true) (hi:PI X tg iter wi) (hg:∀ C fp s₀ H₀,PG (blk X os fr scope C fp s₀ H₀) tg g) (he:∀ C fp s₀ H₀,PE (blk X os fr scope C fp s₀ H₀) elt te)
  (hk:scope.kind=.function:=by rfl) (hok:a1n X.env.scope scope X.N fr=true:=by rfl) (hs:∀ x,foldedSetIterable iter X.env x=pure x:=by intro _; rfl) :
  PE X (.ListComp elt [⟨tg,iter,[],0⟩] scope pos) (tLC os.length fr wi g te):=by
 intro pins s σ H Q I h;unfold tLC at h;simp only [<- a5V] at h;rw [eval_ListComp];refine wpAny_comprehension_free (use:=none) rfl hs (E9 (W4 I hok)) hk (λ x hx hl=>by have:=(T0 hok x hx).1; rw [hl] at this; exact this) (C6 (hi pins s σ H _ I h) λ v s1 h1=>C6 h1 λ itv s2 h2=>?_);refine a1i (os:=os) (D:=λ p H'=>Q (.ref p) H') (RR:=λ acc C=>compPost (model X.prog X.w) X.A X.xe none (EP X pins σ Q) acc C) hc hg (λ _ _ _ _=>a5W) he hk hok h2 ?_;intro p C s3 H3 s' H' I3 eC hn I' ⟨m,hm⟩ q;refine ⟨m,hm,λ h' hs'=>⟨.ref p,H',I3.letgo I' hn (by omega) hs',rfl,q⟩⟩
theorem a6q {c:Expr} {tc:TT} (os:List Str) (fr:List Nat) (hc:X.calm=true) (hi:PI X tg iter wi) (hg:∀ C fp s₀ H₀,PG (blk X os fr scope C fp s₀ H₀) tg g) (ht:∀ C fp s₀ H₀,PT (blk X os fr scope C fp s₀ H₀) c tc) (he:∀ C fp s₀ H₀,PE (blk X os fr scope C fp s₀ H₀) elt te)
  (hk:scope.kind=.function:=by rfl) (hok:a1n X.env.scope scope X.N fr=true:=by rfl) (hs:∀ x,foldedSetIterable iter X.env x=pure x:=by intro _; rfl) :
  PE X (.ListComp elt [⟨tg,iter,[c],0⟩] scope pos) (b4K os.length fr wi g tc te):=by
 intro pins s σ H Q I h;rw [eval_ListComp];refine wpAny_comprehension_free (use:=none) rfl hs (E9 (W4 I hok)) hk (λ x hx hl=>by have:=(T0 hok x hx).1; rw [hl] at this; exact this) (C6 (hi pins s σ H _ I h) λ v s1 h1=>C6 h1 λ itv s2 h2=>?_);refine a1i (os:=os) (D:=λ p H'=>Q (.ref p) H') (RR:=λ acc C=>compPost (model X.prog X.w) X.A X.xe none (EP X pins σ Q) acc C) hc hg (λ _ _ _ _=>a5X (ht _ _ _ _)) he hk hok h2 ?_;intro p C s3 H3 s' H' I3 eC hn I' ⟨m,hm⟩ q;refine ⟨m,hm,λ h' hs'=>⟨.ref p,H',I3.letgo I' hn (by omega) hs',rfl,q⟩⟩
theorem X9 {i:Nat} {x:Str} {pos' spos:Pos} (os:List Str) (fr:List Nat) (hN:X.N.Nodup) (hi':X.N[i]?=some x) (hx:X.env.scope.names.lookup x=some .local)
  (hc:X.calm=true) (hi:PI X tg iter wi) (hg:∀ C fp s₀ H₀,PG (blk X os fr scope C fp s₀ H₀) tg g) (he:∀ C fp s₀ H₀,PE (blk X os fr scope C fp s₀ H₀) elt te)
  (hsw:swapsWith (.ListComp elt [⟨tg,iter,[],0⟩] scope pos) (some (.Name x pos')) spos.line X.env=pure true:=by rfl)
  (hk:scope.kind=.function:=by rfl) (hok:a1n X.env.scope scope X.N fr=true:=by rfl) (hs:∀ x,foldedSetIterable iter X.env x=pure x:=by intro _; rfl) :
  PS X (.Assign [.Name x pos'] (.ListComp elt [⟨tg,iter,[],0⟩] scope pos) spos) (a8M (tLC os.length fr wi g te) (O6 i)):=by
 intro pins s σ H D I h;unfold a8M tLC at h;simp only [<- a5V] at h;rw [exec_Assign_Name_used _ _ _ _ hsw];refine wpAny_bind (wpAny_standAt (wpAny_bind ?_))
 show wpAny _ X.A (do let _ <- comprehension (.ListComp elt [⟨tg,iter,[],0⟩] scope pos) scope X.env _ (newList []) false (eval iter X.env) (some (assign (.Name x pos') X.env))) _ _ s
 refine wpAny_bind (wpAny_mono (wpAny_comprehension_free (use:=some (assign (.Name x pos') X.env)) (Q:=λ _ s'=>SP X pins D .next s') rfl hs (E9 (W4 I hok)) hk (λ x hx hl=>by have:=(T0 hok x hx).1; rw [hl] at this; exact this)
  (C6 (hi pins s σ H _ I h) λ v s1 h1=>C6 h1 λ itv s2 h2=>?_)) (λ _ s' hq=>wpAny_pure (wpAny_pure hq)) λ _ _ e=>e)
 refine a1i (os:=os) (D:=λ p H'=>D.nx (σ.set i (some (.ref p))) H') (RR:=λ acc C=>compPost (model X.prog X.w) X.A X.xe (some (assign (.Name x pos') X.env)) (λ _ s'=>SP X pins D .next s') acc C) hc hg (λ _ _ _ _=>a5W) he hk hok h2 ?_;intro p C s3 H3 s' H' I3 eC hn I' ⟨m,hm⟩ q
 show wpAny _ X.A (assign (.Name x pos') X.env (.ref p)) _ _ _
 refine wpAny_assign_Name (a1J (v:=.ref p) I' hN hi' (.inl hx) rfl (λ s'' I'' ⟨a,hsa,ha⟩=>?_) (.inr hx));have hCa:C≠a:=by
  rcases ha with e | e
  ·rw [e]; exact dY (by rw [<- eC]; exact I3.lt)
  ·obtain ⟨v,z⟩:=I3.cell x a e
   exact dY (by rw [<- eC]; exact z.lt)
 exact ⟨m,hm.sameBut hsa hCa,λ h' hs'=>⟨_,H',I3.letgo I'' hn (by omega) hs',q⟩⟩
end
section
variable {X:Cx} {pins:List (Addr×Obj)} {σ:St} {H:Hp} {s:Shared} {a:Addr} {xs:List V}
abbrev SqA (K:W.Frag) (H:Hp) (a:Addr) (xs:List V):Prop:=SqL K H a xs\/SqT K H a xs
theorem a4L {h':Heap} {o:Obj} {h:Heap} (hk:∀ b x,b ∉ [h.objs.size]->(h.push o).get? b=some x->h'.get? b=some x):∀ b x,h.get? b=some x->h'.get? b=some x :=
 λ b x e=>hk b x (λ hm=>by rw [bN.mp hm] at e; exact cA _ (Heap.lt_size e)) (Heap.get?_push_of_some _ e)
theorem a2Z (hc:X.calm=true) (I:Inv X pins σ H s) (h:SqA X.K H a xs):∃ its:List Value,Vals xs its/\∀ (Q:Value->Shared->Prop) (E:Value->Shared->Prop),
  (∀ (o:Obj) (St:Nat->Heap->Prop),Walks X.prog X.w X.A.in1 s.heap.objs.size [s.heap.objs.size,a] [s.heap.objs.size] its.toArray.size (λ i v=>its.toArray[i]?=some v) St->St 0 (s.heap.push o) →
   (∀ b∈[s.heap.objs.size,a],b<(s.heap.push o).objs.size)->Q (.ref s.heap.objs.size) { s with heap:=s.heap.push o })->wpAny (model X.prog X.w) X.A.in1 (pyIter (.ref a)) Q E s:=by
 have hh:=I.ok.hd hc;have lt2:∀ (o:Obj),a<s.heap.objs.size->∀ b∈[s.heap.objs.size,a],b<(s.heap.push o).objs.size:=λ o hlt b hb=>by
  rw [Heap.size_push];rcases aR.mp hb with rfl | hb
  ·exact eW _
  ·rw [bN.mp hb]; exact fM hlt
 rcases h with h | h
 ·obtain ⟨its,r,p,hz⟩:=I.list h
  have hl:=p.isList;have hlt:a<s.heap.objs.size:=by obtain ⟨_,e,_⟩:=hl; exact Heap.lt_size e
  refine ⟨its,r,λ Q E hQ=>wpAny_pyIter_list hl ?_⟩;exact hQ _ _ (Walks.list (A:=X.A.in1) hh _ a (bI hlt) its.toArray) ⟨⟨_,Heap.get?_push_size _ rfl,rfl,rfl⟩,hl.push _⟩ (lt2 _ hlt)
 ·obtain ⟨its,r,p,hz⟩:=I.tuple h
  have hl:s.heap.IsTuple a its.toArray:=p;have hlt:a<s.heap.objs.size:=by obtain ⟨_,e,_⟩:=hl; exact Heap.lt_size e
  refine ⟨its,r,λ Q E hQ=>wpAny_pyIter_tuple hl ?_⟩;exact hQ _ _ (Walks.tuple (A:=X.A.in1) hh _ a (bI hlt) its.toArray) ⟨⟨_,Heap.get?_push_size _ rfl,rfl,rfl⟩,hl.push _⟩ (lt2 _ hlt)
theorem a8a {ys:List V} {its:List Value} (r:Vals ys its) {i:Nat} {v:Value} (e:its.toArray[i]?=some v):∃ y,ys[i]?=some y/\RelV y v:=by
 have e':its[i]?=some v:=by simpa using e
 cases q:ys[i]? with
 | none=>rw [r.none_of q] at e'; cases e'
 | some y =>
  obtain ⟨u,h1,h2⟩:=r.get q;rw [e'] at h1; cases h1;exact ⟨y,rfl,h2⟩
theorem a6R (bs:List Bool):((aD bs.length).all λ i=>(bs[i]?).getD true)=bs.all id:=by
 rw [fJ,eD,eD];constructor
 ·intro h b hb
  obtain ⟨i,hi,e⟩:=iN hb;have:=h i (bO.mpr hi);simp only [aF hi,fN,e] at this;exact this
 ·intro h i hi
  have hi':=bO.mp hi;simp only [aF hi',fN];exact h _ (cD hi')
end
section
variable {X:Cx}
theorem a9v (hc:X.calm=true):O8 X (.builtin "all") (λ vs H Q=>∃ (a:Addr) (bs:List Bool),vs=[.ref a]/\SqA X.K H a (bs.map V.bl)/\Q (.bl (bs.all id)) H):=by
 intro pins s σ H vs us Q I r h;obtain ⟨a,bs,rfl,hs,q⟩:=h;obtain ⟨u,rfl,ru⟩:=R9 r
 cases ru;obtain ⟨its,rv,walk⟩:=a2Z hc I hs;have hlen:its.toArray.size=bs.length:=by rw [bD,<- rv.length,aA]
 refine call_all_walk (walk _ _ λ o St W st fp=>?_);refine ⟨_,_,_,_,_,_,λ i=>(bs[i]?).getD true,rfl,W,st,λ i v s' Q' E' hP hQ=>?_,λ h' tk hk=>?_⟩
 ·obtain ⟨y,e,ry⟩:=a8a rv hP
  rw [aE] at e
  cases eb:bs[i]? with
  | none=>rw [eb] at e; cases e
  | some b =>
   rw [eb] at e; cases e
   cases ry;simp only [eb,fN] at hQ;exact wpAny_truthy_bool hQ
 ·rw [hlen,a6R bs]
  exact ⟨.bl _,H,I.kept (a4L hk),rfl,q⟩
theorem a5b {ns:List Int} {its:List Value} (rv:Vals (ns.map V.int) its):∀ (i:Nat) (v:Value),its.toArray[i]?=some v->∃ t,v=Value.int (ns.getD i 0) t:=λ i v hP=>by
 obtain ⟨y,e,ry⟩:=a8a rv hP;rw [aE] at e
 cases en:ns[i]? with
 | none=>rw [en] at e; cases e
 | some n =>
  rw [en] at e; cases e;obtain ⟨t,rfl⟩:=ry;exact ⟨t,by rw [aG,en]; rfl⟩
theorem a1W (ns:List Int):∀ j,preSum (λ i=>ns.getD i 0) j=(ns.take j).sum
 | 0=>by simp [preSum]
 | j+1=>by
  rw [preSum,a1W ns j]
  by_cases hj:j<ns.length
  ·rw [kB hj,List.sum_append,aG,aF hj]; simp
  ·rw [eE (by omega),eE (by omega),aG,bH (by omega)]; simp
theorem a5l (hc:X.calm=true):O8 X (.builtin "sum") (λ vs H Q=>∃ (a:Addr) (ns:List Int),vs=[.ref a]/\SqA X.K H a (ns.map V.int)/\Q (.int ns.sum) H):=by
 intro pins s σ H vs us Q I r h;obtain ⟨a,ns,rfl,hs,q⟩:=h;obtain ⟨u,rfl,ru⟩:=R9 r
 cases ru;obtain ⟨its,rv,walk⟩:=a2Z hc I hs;have hlen:its.toArray.size=ns.length:=by rw [bD,<- rv.length,aA]
 refine call_sum_walkG (walk _ _ λ o St W st fp=>?_);refine ⟨_,_,_,_,_,_,λ i=>ns.getD i 0,rfl,W,st,fp,a5b rv,λ h' tk t' hk=>?_⟩;rw [hlen,a1W,eE (aH _)];exact ⟨.int _,H,I.kept (a4L hk),⟨_,rfl⟩,q⟩
theorem a8Q {l:List Int} {j:Nat} (h:j<l.length):l.getD j 0∈l:=by
 rw [aG,aF h]; exact cD h
theorem a8k {l:List Int} {a:Int} (h:a∈l):∃ j,j<l.length/\l.getD j 0=a:=by
 obtain ⟨j,hj,e⟩:=iN h;exact ⟨j,hj,by rw [aG,aF hj]; exact e⟩
theorem a4a (hc:X.calm=true):O8 X (.builtin "max") (λ vs H Q=>∃ (a:Addr) (ns:List Int),vs=[.ref a]/\SqA X.K H a (ns.map V.int)/\ns≠[]/\∀ M,M∈ns->(∀ n∈ns,n<=M)->Q (.int M) H):=by
 intro pins s σ H vs us Q I r h;obtain ⟨a,ns,rfl,hs,hne,q⟩:=h;obtain ⟨u,rfl,ru⟩:=R9 r
 cases ru;obtain ⟨its,rv,walk⟩:=a2Z hc I hs;have hlen:its.toArray.size=ns.length:=by rw [bD,<- rv.length,aA]
 have hpos:0<ns.length:=List.length_pos_iff.mpr hne;refine call_max_walk (walk _ _ λ o St W st fp=>?_);refine ⟨_,_,_,_,_,_,_,rfl,W,st,fp,by rw [hlen]; exact hpos,CmpOf.ints_gt (λ i=>ns.getD i 0) (a5b rv),λ v h' tk hP hk=>?_⟩;obtain ⟨h1,h2⟩:=argBest_gt (λ i=>ns.getD i 0) (its.toArray.size - 1);obtain ⟨t,rfl⟩:=a5b rv _ v hP;refine ⟨.int _,H,I.kept (a4L hk),⟨_,rfl⟩,q _ (a8Q (by omega)) λ n hn=>?_⟩;obtain ⟨j,hj,rfl⟩:=a8k hn;exact h2 j (by omega)
end
mutual
inductive Dp (K:W.Frag) (H:Hp):V->PyData->Prop
 | non:Dp K H .non .none
 | bl (b:Bool):Dp K H (.bl b) (.bool b)
 | int (i:Int):Dp K H (.int i) (.int i)
 | str (x:Str):Dp K H (.str x) (.str x)
 | lst {a:Addr} {xs:List V} {ds:List PyData}:SqL K H a xs->Dps K H xs ds->Dp K H (.ref a) (.list ds)
 | tup {a:Addr} {xs:List V} {ds:List PyData}:SqT K H a xs->Dps K H xs ds->Dp K H (.ref a) (.tuple ds)
inductive Dps (K:W.Frag) (H:Hp):List V->List PyData->Prop
 | nil:Dps K H [] []
 | cons {x:V} {xs:List V} {d:PyData} {ds:List PyData}:Dp K H x d->Dps K H xs ds->Dps K H (x::xs) (d::ds)
end
theorem Same.tseq {K:W.Frag} {H H':Hp} {a:Addr} {xs:List V} (e:Same H H') (h:SqT K H a xs):SqT K H' a xs:=by
 rcases h with (h | ⟨o,h⟩) | h
 ·exact .inl (.inl (e _ _ h))
 ·exact .inl (.inr ⟨o,e _ _ h⟩)
 ·exact .inr h
mutual
theorem Dp.same {K:W.Frag} {H H':Hp} (e:Same H H'):∀ {x:V} {d:PyData},Dp K H x d->Dp K H' x d
 | _,_,.non=>.non
 | _,_,.bl b=>.bl b
 | _,_,.int i=>.int i
 | _,_,.str x=>.str x
 | _,_,.lst h r=>.lst (e.seq h) (Dps.same e r)
 | _,_,.tup h r=>.tup (e.tseq h) (Dps.same e r)
theorem Dps.same {K:W.Frag} {H H':Hp} (e:Same H H'):∀ {xs:List V} {ds:List PyData},Dps K H xs ds->Dps K H' xs ds
 | _,_,.nil=>.nil
 | _,_,.cons a r=>.cons (Dp.same e a) (Dps.same e r)
end
section
variable {X:Cx} {pins:List (Addr×Obj)} {σ:St} {H:Hp} {s:Shared}
mutual
theorem Dp.reads (I:Inv X pins σ H s):∀ {x:V} {d:PyData},Dp X.K H x d->∀ {u:Value},RelV x u->∃ as,Reads s.heap u d as
 | _,_,.non,u,r=>by cases r; exact ⟨_,.none⟩
 | _,_,.bl b,u,r=>by cases r; exact ⟨_,.bool b⟩
 | _,_,.int i,u,r=>by obtain ⟨t,rfl⟩:=r; exact ⟨_,.int i t⟩
 | _,_,.str x,u,r=>by obtain ⟨t,rfl⟩:=r; exact ⟨_,.str x t⟩
 | _,_,.lst h q,u,r=>by
  cases r;obtain ⟨its,rv,p,hz⟩:=I.list h;obtain ⟨o,e1,e2,n,e3⟩:=p.isList;obtain ⟨as,ra⟩:=Dps.reads I q rv;exact ⟨_,.list e1 e2 e3 (by simpa using ra)⟩
 | _,_,.tup h q,u,r=>by
  cases r;obtain ⟨its,rv,p,hz⟩:=I.tuple h;obtain ⟨o,e1,e2,n,e3⟩:=(show s.heap.IsTuple _ its.toArray from p);obtain ⟨as,ra⟩:=Dps.reads I q rv;exact ⟨_,.tuple e1 e2 e3 (by simpa using ra)⟩
theorem Dps.reads (I:Inv X pins σ H s):∀ {xs:List V} {ds:List PyData},Dps X.K H xs ds->∀ {us:List Value},Vals xs us->∃ as,ReadsAll s.heap us ds as
 | _,_,.nil,us,r=>by cases r; exact ⟨_,.nil⟩
 | _,_,.cons a q,us,r=>by
  cases r with
  | cons r1 r2 =>
   obtain ⟨as,h1⟩:=Dp.reads I a r1;obtain ⟨bs,h2⟩:=Dps.reads I q r2;exact ⟨_,.cons h1 h2⟩
end
end
section
variable {X:Cx}
def b4z (K:W.Frag):R2:=λ x y H Q=>∃ d e,Dp K H x d/\Dp K H y e/\d.canLay0=true/\e.canLay0=true/\min d.depth e.depth<=60/\Q (.bl (PyData.eqv d e)) H
def b6S (K:W.Frag):R2:=λ x y H Q=>∃ d e,Dp K H x d/\Dp K H y e/\d.canLay0=true/\e.canLay0=true/\min d.depth e.depth<=60/\Q (.bl (!PyData.eqv d e)) H
theorem a2H {k:Nat} (hr:Room k X.A):OpR X (compareOp .Eq) (b4z X.K):=by
 intro pins s σ H x y v u Q I rx ry h;obtain ⟨d,e,h1,h2,c1,c2,hd,q⟩:=h;obtain ⟨as,r1⟩:=h1.reads I rx;obtain ⟨bs,r2⟩:=h2.reads I ry;exact SeqAt.compareEq_reads r1 r2 c1 c2 (by have:=hr.units; omega) ⟨.bl _,H,I,rfl,q⟩
theorem a0P {k:Nat} (hr:Room k X.A):OpR X (compareOp .NotEq) (b6S X.K):=by
 intro pins s σ H x y v u Q I rx ry h;obtain ⟨d,e,h1,h2,c1,c2,hd,q⟩:=h;obtain ⟨as,r1⟩:=h1.reads I rx;obtain ⟨bs,r2⟩:=h2.reads I ry;exact SeqAt.compareNe_reads r1 r2 c1 c2 (by have:=hr.units; omega) ⟨.bl _,H,I,rfl,q⟩
end
theorem Same.new {H:Hp} {p:Addr} (h:H p=none) (o:HO):Same H (upd H p o):=λ b u q=>by rw [i3 (i4 q h)]; exact q
theorem Wk.set {n:Nat} {fr:List Nat} {σ:St} {i:Nat} {v:V} (hi:i<n):Wk (blkσ n fr σ) ((blkσ n fr σ).set i (some v)):=by
 refine ⟨by simp,λ j w e=>?_⟩
 by_cases hj:j=i
 ·subst hj
  unfold blkσ at e;rw [bK (by simpa using hi),cV] at e
  split at e <;> cases e
 ·rw [bV (aY hj)]; exact e
structure a8q (J:It) (H1:Hp) (xs:List V):Prop where
 go:∀ i H,Same H1 H->i<xs.length->J.go i H
 yld:∀ i H x H',Same H1 H->i<xs.length->J.yld i H x H'->H'=H/\xs[i]?=some x
 stop:∀ H,Same H1 H->J.stop xs.length H
theorem u9 {K:W.Frag} {a:Addr} {xs:List V} {H1:Hp} (h:SqL K H1 a xs):a8q (Itl K a) H1 xs :=
 ⟨λ i H e hi=>⟨xs,xs[i],e.seq h,aF hi⟩,λ i H x H' e hi y=>⟨y.1,y.2 xs (e.seq h)⟩,λ H e=>⟨xs,e.seq h,aH _⟩⟩
theorem a3u {K:W.Frag} {a:Addr} {xs:List V} {H1:Hp} (h:SqT K H1 a xs):a8q (Itt K a) H1 xs :=
 ⟨λ i H e hi=>⟨xs,xs[i],e.tseq h,aF hi⟩,λ i H x H' e hi y=>⟨y.1,y.2 xs (e.tseq h)⟩,λ H e=>⟨xs,e.tseq h,aH _⟩⟩
theorem a6A {lo:Int} {n:Nat} {H1:Hp}:a8q (Itr lo n) H1 ((aD n).map λ (i:Nat)=>V.int (lo+(i:Int))) :=
 ⟨λ i H e hi=>(show i<n from by simpa using hi),λ i H x H' e hi y=>⟨y.1,by rw [y.2,aE,bQ (by simpa using hi)]; rfl⟩,λ H e=>by simp [Itr]⟩
theorem Paired.app {α β:Type} {F:α->β->Prop}:∀ {a c:List α} {b d:List β},Paired F a b->Paired F c d->Paired F (a++c) (b++d)
 | _,_,_,_,.nil,s=>s
 | _,_,_,_,.cons r t,s=>.cons r (Paired.app t s)
section
variable {xs:List V} {J:It} {n:Nat} {fr:List Nat} {g:TG} {te:TE} {σ:St} {H1:Hp} {p:Addr} {D:Hp->Prop}
theorem N9 (hJ:a8q J H1 xs) (hp:H1 p=none) (hz:xs.length<sizeLine) (F:V->V)
  (step:∀ (i:Nat) x H (N:VK),xs[i]?=some x->Same H1 H->N (F x) H->g x (blkσ n fr σ) H λ σ2 H2=>Wk (blkσ n fr σ) σ2/\te σ2 H2 N)
  (hd:D (upd H1 p (.lst (xs.map F)))):lcW n fr g te σ J H1 p D:=by
 refine ⟨λ i m ys H=>m=xs.length - i/\i<=xs.length/\ys=(xs.take i).map F/\H=upd H1 p (.lst ys),⟨xs.length,by simp,cB _,by simp,rfl⟩,?_⟩;rintro i m ys H ⟨rfl,hi,rfl,rfl⟩;have e:=Same.new (o:=.lst ((xs.take i).map F)) hp
 by_cases hlt:i<xs.length
 ·refine .inr ⟨hJ.go i _ e hlt,λ x H' y=>?_⟩
  obtain ⟨rfl,hx⟩:=hJ.yld i _ x H' e hlt y;refine step i x _ _ hx e ⟨upd_same,by rw [aA,bU]; omega,xs.length - (i+1),by omega,rfl,hlt,?_,a2A⟩;rw [gR,hx,bC]; rfl
 ·have:i=xs.length:=by omega
  subst this;refine .inl ⟨hJ.stop _ e,?_⟩;rw [eE (aH _)]; exact hd
theorem P6 (hJ:a8q J H1 xs) (hp:H1 p=none) (hz:xs.length<sizeLine) (R:Nat->V->Hp->Prop) (hR:∀ i y H H',R i y H->(∀ b o,b≠p->H b=some o->H' b=some o)->R i y H')
  (step:∀ (i:Nat) x H ys (N:VK),xs[i]?=some x->Same H1 H->H p=some (.lst ys)->(∀ v H3,Same H H3->R i v H3->N v H3)->g x (blkσ n fr σ) H λ σ2 H2=>Wk (blkσ n fr σ) σ2/\te σ2 H2 N)
  (hd:∀ ys H,Same H1 H->H p=some (.lst ys)->ys.length=xs.length->(∀ i y,ys[i]?=some y->R i y H)->D H):lcW n fr g te σ J H1 p D:=by
 refine ⟨λ i m ys H=>m=xs.length - i/\i<=xs.length/\Same H1 H/\H p=some (.lst ys)/\ys.length=i/\∀ j y,ys[j]?=some y->R j y H,⟨xs.length,by simp,cB _,Same.new hp _,upd_same,rfl,λ j y e=>by simp at e⟩,?_⟩;rintro i m ys H ⟨rfl,hi,e,hH,len,pr⟩
 by_cases hlt:i<xs.length
 ·refine .inr ⟨hJ.go i _ e hlt,λ x H' y=>?_⟩
  obtain ⟨rfl,hx⟩:=hJ.yld i _ x H' e hlt y;refine step i x _ ys _ hx e hH λ v H3 s3 r3=>⟨s3 _ _ hH,by omega,xs.length - (i+1),by omega,rfl,hlt,λ b o q=>?_,upd_same,by rw [aO,len]; rfl,λ j y ey=>?_⟩
  ·rw [i3 (i4 q hp)]; exact s3 _ _ (e _ _ q)
  ·have up:∀ b o,b≠p->H3 b=some o->upd H3 p (.lst (ys++[v])) b=some o:=λ b o hb q=>by rw [i3 hb]; exact q
   by_cases hj:j<ys.length
   ·rw [bK hj] at ey
    exact hR j y _ _ (pr j y ey) λ b o hb q=>up b o hb (s3 _ _ q)
   ·rw [bZ (by omega)] at ey
    have hj':j - ys.length=0:=by
     cases q:j - ys.length with
     | zero=>rfl
     | succ k=>rw [q] at ey; simp at ey
    rw [hj'] at ey;have:j=i:=by omega
    subst this;simp at ey;subst ey;exact hR j v _ _ r3 up
 ·have:i=xs.length:=by omega
  subst this;exact .inl ⟨hJ.stop _ e,hd ys H e hH len pr⟩
end
theorem Inv.turnedLaid {X:Cx} {pins:List (Addr×Obj)} {σ:St} {H:Hp} {s:Shared} {h':Heap} {fp:List Addr} {T:Addr} {xs:List V} {its:List Value} (I:Inv X pins σ H s) (hf:∀ b∈fp,Y3 X pins H b)
  (k:∀ b o,b ∉ fp->s.heap.get? b=some o->h'.get? b=some o) (ho:∀ b∈fp,∃ o,h'.get? b=some o) (hT:s.heap.objs.size<=T) (hz:xs.length<=sizeLine) (hv:Vals xs its) (ht:IsTup h' T its.toArray) :
  Inv X pins σ (upd H T (.tup xs)) { s with heap:=h' }:=by
 have hTn:H T=none:=I.hok.fresh hT;have neT:∀ b o,s.heap.get? b=some o->b≠T:=λ b o e=>bI (bA (Heap.lt_size e) hT);refine I.step (g':=s.gens) (t':=s.toks) (d':=s.drawn) (ch:=fp) (λ b hb=>⟨(hf b hb).2.2.2.1,(hf b hb).2.1,(hf b hb).2.2.2.2.1,(hf b hb).2.2.2.2.2⟩) (λ b o _ _ hc e _=>k b o hc e) (λ b o _ _ hc e _=>⟨o.slots,k b o hc e⟩)
  (λ b o hc e n=>by rw [i3 (neT b o e)]; exact n) (λ b o hc e=>⟨o,k b o hc e⟩) (λ b ys e=>by rw [i3 (i4 e hTn)]; exact e) (λ b o u e=>by rw [i3 (i4 e hTn)]; exact e) (λ b ps e=>⟨#[],by rw [i3 (i4 e hTn),e]; simp⟩)
  (λ m hm=>?_) (λ b u e=>?_) I.bare
 ·obtain ⟨o,es,ep,e1,r⟩:=hm
  exact ⟨o,es,ep,k _ o (λ z=>(hf _ z).2.1 rfl) e1,r⟩
 ·by_cases hb:b=T
  ·subst hb; rw [upd_same] at e; cases e
   exact ⟨hz,its,hv,ht⟩
  ·rw [i3 hb] at e
   have nit:∀ c u,H c=some u->c ∉ fp:=λ c u q z=>by rw [(hf c z).1] at q; cases q
   refine (I.hok b u e).stay (λ c v hc q=>k c v ?_ q) (λ c q=>by rw [i3 (i4 q hTn)]; exact q) λ c ys q=>by rw [i3 (i4 q hTn)]; exact q
   rcases hc with z | z
   ·rw [z]; exact nit b u e
   ·exact nit c _ z
theorem Inv.turnedAll {X:Cx} {pins:List (Addr×Obj)} {σ:St} {H:Hp} {s:Shared} {h':Heap} {fp:List Addr} (I:Inv X pins σ H s) (hf:∀ b∈fp,Y3 X pins H b)
  (k:∀ b o,b ∉ fp->s.heap.get? b=some o->h'.get? b=some o):Inv X pins σ H { s with heap:=h' }:=by
 refine I.step (g':=s.gens) (t':=s.toks) (d':=s.drawn) (ch:=fp) (λ b hb=>⟨(hf b hb).2.2.2.1,(hf b hb).2.1,(hf b hb).2.2.2.2.1,(hf b hb).2.2.2.2.2⟩) (λ b o _ _ hc e _=>k b o hc e) (λ b o _ _ hc e _=>⟨o.slots,k b o hc e⟩)
  (λ b o hc e n=>n) (λ b o hc e=>⟨o,k b o hc e⟩) (λ b ys e=>e) (λ b o u e=>e) (λ b ps e=>⟨#[],by rw [e]; simp⟩)
  (λ m hm=>?_) (λ b u e=>?_) I.bare
 ·obtain ⟨o,es,ep,e1,r⟩:=hm
  exact ⟨o,es,ep,k _ o (λ z=>(hf _ z).2.1 rfl) e1,r⟩
 ·have nit:∀ c u,H c=some u->c ∉ fp:=λ c u q z=>by rw [(hf c z).1] at q; cases q
  refine (I.hok b u e).stay (λ c v hc q=>k c v ?_ q) (λ c q=>q) λ c ys q=>q;rcases hc with z | z
  ·rw [z]; exact nit b u e
  ·exact nit c _ z
theorem b3a (n l1 l2:Nat) (h1:l1<n) (h2:l2<n):ZipApart (n+4) (n+2) (n+3) n (n+1) l1 l2 where
 TIz:=(by omega:(n+2:Nat)≠n+4)
 TOz:=(by omega:(n+3:Nat)≠n+4)
 i1z:=(by omega:(n:Nat)≠n+4)
 i2z:=(by omega:(n+1:Nat)≠n+4)
 TITO:=(by omega:(n+2:Nat)≠n+3)
 TIi1:=(by omega:(n+2:Nat)≠n)
 TIi2:=(by omega:(n+2:Nat)≠n+1)
 TOi1:=(by omega:(n+3:Nat)≠n)
 TOi2:=(by omega:(n+3:Nat)≠n+1)
 i12:=(by omega:(n:Nat)≠n+1)
 l1z:=(by omega:(l1:Nat)≠n+4)
 l1TO:=(by omega:(l1:Nat)≠n+3)
 l1i1:=(by omega:(l1:Nat)≠n)
 l1i2:=(by omega:(l1:Nat)≠n+1)
 l2z:=(by omega:(l2:Nat)≠n+4)
 l2TO:=(by omega:(l2:Nat)≠n+3)
 l2i1:=(by omega:(l2:Nat)≠n)
 l2i2:=(by omega:(l2:Nat)≠n+1)
section
variable {X:Cx}
def b4X (i j:Int):Prop:=0<j/\j<2 ^ 8000
theorem log2_lt {y:Nat} (h:y<2 ^ 8000):y.log2<9000:=by
 by_cases h0:y=0
 ·subst h0; decide
 ·exact bA ((iO h0).mpr h) (by decide)
theorem Y9:OpR X (binaryOp .FloorDiv) (rI b4X λ i j=>.int (i / j)):=opI λ i j _ _ _ _ _ hc q=>by
 have h0:j≠0:=by have:=hc.1; omega
 have e:i.fdiv j=i / j:=jO i (aL hc.1);refine floordiv_int h0 (by rw [e]; exact q) (.inl (PyProof.noPylong_of_log2 (log2_lt ?_)));have:=hc.1;have:=hc.2;omega
def Big (n:Nat) (i:Int):Prop:=i.natAbs<2 ^ n
def b4E (i j:Int):Prop:=Big 1000000 i/\Big 1000000 j
theorem a6V {i:Int} (h:Big 1000000 i):Builtin.Int.intBits i<=2 ^ 20:=by
 unfold Builtin.Int.intBits
 split
 ·exact cB _
 ·rename_i h0
  have h0':i.natAbs≠0:=by
   intro z;exact h0 (by rw [Int.natAbs_eq_zero.mp z]; rfl)
  have:=(iO h0').mpr h;omega
theorem J7:OpR X (binaryOp .Mult) (rI b4E λ i j=>.int (i*j)):=opI λ _ _ _ _ _ _ _ hc q=>mul_int q (IntMulOk.of_bits (a6V hc.1) (a6V hc.2))
end
theorem Same.write {H H':Hp} {p:Addr} {o:HO} (e:Same H H') (hp:H p=none):Same H (upd H' p o):=λ b u q=>by rw [i3 (i4 q hp)]; exact e b u q
section
variable {xs:List V} {J:It} {fr:List Nat} {tc:TT} {σ:St} {H1:Hp} {p:Addr} {D:Hp->Prop}
end
end L2
namespace L2
open PySem PySem.W
section
variable {prog:Program} {w:World} {A:Around} {E:Value->Shared->Prop} {s:Shared} {K:Frag} {x C D:Addr} {ox:Obj}
end
structure b3f (K:Frag) (D:Addr):Prop where
 ob:∃ nm q N bs bm hdct sn sub ab col dd k0 k1 k2 k3 k5,K.lookup D=some (excClassObj nm q D N bs bm hdct sn sub ab col dd k0 k1 k2 k3 k5 "ValueError.__new__")/\nsOkIn K N=true/\nsIn K N "__init__"=some none ∧
  tailIn K [.type "ValueError",.type "Exception",.type "BaseException",.type "object"] bm=true
 ga:findIn K (.ref D) "__getattribute__"=some (some (.builtin "BaseException.__getattribute__"))
 gn:findIn K (.ref D) "__getattr__"=some none
 ca:findIn K (.ref D) "__class__"=some (some (.builtin "object.__class__"))
 mo:mroIn K D (.type "object")=some true
 mb:mroIn K D (.type "BaseException")=some true
end L2
namespace L2
open PySem PySem.Spec PyProof.Rows
theorem ObjOk.got {P:Program} {w:World} {H:Hp} {h:Heap} {a:Addr} {o:HO} (x:ObjOk P w H h a o):∃ ob,h.get? a=some ob:=by
 cases o with
 | lst xs=>obtain ⟨_,_,_,_,e⟩:=x; exact ⟨_,e⟩
 | tup xs=>obtain ⟨_,_,_,ob,e,_⟩:=x; exact ⟨ob,e⟩
 | dK kvs=>obtain ⟨_,_,_,_,ob,_,_,e,_⟩:=x; exact ⟨ob,e⟩
 | dT kvs=>obtain ⟨_,_,_,_,ob,_,_,e,_⟩:=x; exact ⟨ob,e⟩
 | set S n=>obtain ⟨ob,_,_,_,e,_⟩:=x; exact ⟨ob,e⟩
 | ins C dx fs=>obtain ⟨_,_,_,e,_⟩:=x; exact ⟨_,e⟩
 | own y=>exact x
 | xd fs=>obtain ⟨_,⟨ob,_,_,e,_⟩,_⟩:=x; exact ⟨ob,e⟩
 | rng lo hi=>obtain ⟨_,_,_,e⟩:=x; exact ⟨_,e⟩
 | frz ob u=>obtain ⟨e,_⟩:=x; exact ⟨_,e⟩
 | tbl ps=>exact ⟨_,(show h.get? a=some _ from x)⟩
 | met f y=>exact ⟨_,(show h.get? a=some _ from x)⟩
 | ext φ=>obtain ⟨_,e,_⟩:=x; exact e
theorem Un.slots {fs ex:List Addr} {H0 H':Hp} {h0 h1 h2:Heap} (u:Un fs ex H0 H' h0 h1) (hb:∀ b o,h1.get? b=some o->(∃ o0,h0.get? b=some o0)->b ∉ fs->h2.get? b=some o)
  (hf:∀ b∈fs,∀ o,h1.get? b=some o->∃ sl,h2.get? b=some { o with slots:=sl }):Un fs ex H0 H' h0 h2 where
 keep:=λ b o q n hfs hx=>hb b o (u.keep b o q n hfs hx) ⟨o,q⟩ hfs
 slot:=λ b o q n hfs hx=>by
  obtain ⟨sl,e⟩:=u.slot b o q n hfs hx;obtain ⟨sl',e'⟩:=hf b hfs _ e;exact ⟨sl',e'⟩
 free:=u.free
 there:=λ b o q hx=>by
  obtain ⟨o',e⟩:=u.there b o q hx
  by_cases hm:b∈fs
  ·obtain ⟨sl,e'⟩:=hf b hm _ e; exact ⟨_,e'⟩
  ·exact ⟨_,hb b o' e ⟨o,q⟩ hm⟩
 tups:=u.tups
 frzs:=u.frzs
 tbls:=u.tbls
theorem HOk.slots {P:Program} {w:World} {H:Hp} {h h':Heap} (x:HOk P w H h) (k:∀ b u o,H b=some u->h.get? b=some o->h'.get? b=some o):HOk P w H h':=λ a o e =>
 (x a o e).stay (λ b u hb q=>by
  rcases hb with rfl | hb
  ·exact k b o u e q
  ·exact k b _ u hb q) (λ _ q=>q) λ _ _ q=>q
structure Fly (P:Program) (w:World) (l:List Env) (H:Hp) (s:Shared) (ea t D:Addr) (B:Heap) (H':Hp) (s':Shared):Prop where
 os:s'.os=s.os
 bare:AllBare s'.gens
 un:Un (frs l) [] H H' s.heap s'.heap
 hok:HOk P w H' s'.heap
 fly:Heap.FlyingW B l ea (.ref D) (.ref t) s'.heap
 inb:∀ b o,s'.heap.get? b=some o->((∃ o0,s.heap.get? b=some o0)/\b ∉ frs l)\/H' b≠none->B.get? b=some o
def CX1 (P:Program) (w:World):CXT:=λ l H s E e s'=>∃ (ea t D:Addr) (B:Heap) (H':Hp),e=.ref ea/\Fly P w l H s ea t D B H' s'/\E (.ref D) none H'
section
variable {P:Program} {w:World} {l:List Env} {H:Hp} {s s':Shared} {ea t D:Addr} {B h':Heap} {H':Hp}
theorem Fly.inv {X:Cx} {pins:List (Addr×Obj)} {σ:St} (I:Inv X pins σ H s) (F:Fly X.prog X.w X.stack H s ea t D B H' s'):Inv X pins σ H' s' :=
 I.call' F.os F.un F.hok F.bare (λ b z=>absurd z (by simp))
end
section
variable {P:Program} {w:World} {K:W.Frag} {mg:Str->Option Value} {base:Heap} {N:List Str} {qual:Str} {scope:Scope} {f:Addr} {cd:Value} {A:Around} {outer:List Env} {s₀:Shared} {H₀:Hp} {E:XK}
theorem a1P {b:Addr} {o:Obj} {X:Cx} {pins:List (Addr×Obj)} {σ:St} {H:Hp} {s:Shared} (I:Inv X pins σ H s) (e:X.s₀.heap.get? b=some o) (hb:b ∉ frs X.outer):b ∉ frs X.stack:=λ z=>by
 rcases aR.mp (I.stkSub b z) with q | q
 ·have:=bA (Heap.lt_size e) I.ok.above
  rw [q] at this;exact cA _ this
 ·exact hb q
theorem Z6:X4 (CX1 P w) (M0 (CX1 P w) P w K mg base N qual scope f cd A outer s₀ H₀ E) E:=by
 intro pins σ H s e s' I h;obtain ⟨ea,t,D,B,H',rfl,F,hE⟩:=h;have I':=F.inv I;refine wpAny_leaves_onW I.ok.frames rfl F.fly λ h' fl up=>?_;have st:∀ b o,B.get? b=some o->h'.get? b=some o:=fl.1;have bin:∀ b o,s'.heap.get? b=some o->(∃ o0,s₀.heap.get? b=some o0)->b ∉ frs outer->B.get? b=some o:=λ b o q ⟨o0,z⟩ hn=>by
  obtain ⟨o1,q1⟩:=I.base.there b o0 z (by show b ∉ ([]:List Addr); simp);exact F.inb b o q (.inl ⟨⟨o1,q1⟩,a1P I z hn⟩)
 refine ⟨ea,t,D,B,H',rfl,⟨I'.os,F.bare,I'.base.slots (λ b o q z hn=>st b o (bin b o q z hn)) (λ b hb o q=>?_),F.hok.slots (λ b u o e q=>st b o (F.inb b o q (.inr (by rw [e]; simp)))),fl,λ b o q z=>?_⟩,hE⟩
 ·obtain ⟨_,o',ho',hd⟩:=F.fly.2.2.1.2.2.mem hb
  rw [q] at ho'; cases ho';exact up b o q hd
 ·have:∃ o1,s'.heap.get? b=some o1/\B.get? b=some o1:=by
   rcases z with ⟨⟨o0,z⟩,hn⟩ | z
   ·obtain ⟨o1,q1⟩:=I'.base.there b o0 z (by show b ∉ ([]:List Addr); simp)
    exact ⟨o1,q1,bin b o1 q1 ⟨o0,z⟩ hn⟩
   ·cases e:H' b with
    | none=>exact absurd e z
    | some u =>
     obtain ⟨o1,q1⟩:=(F.hok b u e).got;exact ⟨o1,q1,F.inb b o1 q1 (.inr z)⟩
  obtain ⟨o1,_,b1⟩:=this;have:=st b o1 b1;rw [show h'.get? b=some o from q] at this
  cases this;exact b1
theorem b5p {pins:List (Addr×Obj)} {σ:St} {H:Hp} {s:Shared} {h1:Heap} {ea D:Addr} {vs:List Value} (I:Inv (M0 (CX1 P w) P w K mg base N qual scope f cd A outer s₀ H₀ E) pins σ H s) (hx:Heap.MadeExcOf s.heap h1 ea (.ref D) vs)
  (hE:E (.ref D) none H):(M0 (CX1 P w) P w K mg base N qual scope f cd A outer s₀ H₀ E).xe (.ref ea) { s with heap:=h1 }:=by
 have hin:∀ env∈(envOfC qual scope s₀.heap.objs.size f cd::outer),∀ b,env.frame=some b->b∈frs (envOfC qual scope s₀.heap.objs.size f cd::outer):=λ env he b hb=>iF.mpr ⟨env,he,hb⟩;refine wpAny_leaves_madeW (base:=W.hideAll s.heap (frs (envOfC qual scope s₀.heap.objs.size f cd::outer))) (h:=s.heap) I.ok.frames rfl (λ b o q=>W.of_hideAll _ q) (W.funFrames_hide I.stack hin) hx λ h' t fl _ _ up=>?_;have st:∀ b o,s.heap.get? b=some o->b ∉ frs (envOfC qual scope s₀.heap.objs.size f cd::outer)->h'.get? b=some o:=λ b o q hn=>fl.1 b o (W.hideAll_get _ q hn);have trn:∀ b u,H b=some u->b ∉ frs (envOfC qual scope s₀.heap.objs.size f cd::outer):=λ b u e z=>by
  have:=I.stkFree b z;rw [e] at this; cases this
 refine ⟨ea,t,D,_,H,rfl,⟨I.os,I.bare,I.base.slots (λ b o q ⟨o0,z⟩ hn=>st b o q (a1P I z hn)) (λ b hb o q=>?_),I.hok.slots (λ b u o e q=>st b o q (trn b u e)),fl,λ b o q z=>?_⟩,hE⟩
 ·obtain ⟨_,o',ho',hd⟩:=I.funs.mem hb
  rw [q] at ho'; cases ho';exact up b o (hx.keeps b o q) hd
 ·have:∃ o1,s.heap.get? b=some o1/\b ∉ frs (envOfC qual scope s₀.heap.objs.size f cd::outer):=by
   rcases z with ⟨⟨o0,z⟩,hn⟩ | z
   ·obtain ⟨o1,q1⟩:=I.base.there b o0 z (by show b ∉ ([]:List Addr); simp)
    exact ⟨o1,q1,a1P I z hn⟩
   ·cases e:H b with
    | none=>exact absurd e z
    | some u =>
     obtain ⟨o1,q1⟩:=(I.hok b u e).got;exact ⟨o1,q1,trn b u e⟩
  obtain ⟨o1,q1,hn⟩:=this;have:=st b o1 q1 hn;rw [show h'.get? b=some o from q] at this
  cases this;exact W.hideAll_get _ q1 hn
end
section
variable {X:Cx} {e:Expr} {te:TE} {a:Str} {j:Nat} {p1 p2 p3:Pos}
def tFs (te:TE):TE:=λ σ H Q=>te σ H λ v H1=>∃ i:Int,v=.int i/\i.natAbs.log2<1920/\∀ x,Q (.str x) H1
theorem b1q (he:PE X e te) (ha:a.length<=1000):PE X (.JoinedStr [.Constant (.str a) j p1,.FormattedValue e (-1) none p2] p3) (tFs te):=by
 intro pins s σ H Q I h;refine JoinedStr_many (joinParts_cons ?_);refine C6 (J1 pins s σ H (λ v H'=>v=.str a/\H'=H) I ⟨rfl,rfl⟩) λ u s1 ⟨v,H1,I1,r,hv,hH⟩=>?_;subst hv; subst hH;obtain ⟨tk,rfl⟩:=r;have e0:(Str.empty++a).length=a.length:=by rw [strLen_append]; show 0+a.length=a.length; omega
 refine ⟨by rw [e0]; exact aZ ha (by decide),joinParts_cons (FormattedValue_plain ?_)⟩;refine C6 (he pins s1 σ H1 _ I1 h) λ u s2 ⟨v,H2,I2,r,i,hv,hi,q⟩=>?_;subst hv;obtain ⟨tk2,rfl⟩:=r;refine formatField_int_small hi ?_;have hl:(Str.empty++a++Str.ofString (toString i)).length<=sizeLine:=by
  rw [strLen_append,e0];have h1:=int_text_length_le (a:=i) (k:=1920) (by decide) hi;rw [PySem.ofString_length,sizeLine_eq];omega
 refine ⟨hl,joinParts_nil ?_ hl⟩;exact ⟨.str _,H2,(I2.tok _).tok _,⟨_,rfl⟩,q _⟩
end
section
variable {P:Program} {w:World} {K:W.Frag} {mg:Str->Option Value} {base:Heap} {N:List Str} {qual:Str} {scope:Scope} {f:Addr} {cd:Value} {A:Around} {outer:List Env} {s₀:Shared} {H₀:Hp} {E:XK}
 {x:Str} {D:Addr} {e:Expr} {t:TA} {np cpos pos:Pos}
def a9o (t:TA) (D:Addr) (E:XK):TS:=λ _ σ H=>t σ H λ vs H1=>vs.length<=1000/\E (.ref D) none H1
theorem a9w (k:b3f K D) (hg:Gl (M0 (CX1 P w) P w K mg base N qual scope f cd A outer s₀ H₀ E) x) (hm:mg x=some (.ref D)) (hh:A.handled=none)
  (ha:PA (M0 (CX1 P w) P w K mg base N qual scope f cd A outer s₀ H₀ E) [e] t)
  (he:starEach [e] (envOfC qual scope s₀.heap.objs.size f cd)=[(false,eval e (envOfC qual scope s₀.heap.objs.size f cd))]:=by rfl) (hdb:(x==("__debug__":Str))=false:=by decide) :
  PS (M0 (CX1 P w) P w K mg base N qual scope f cd A outer s₀ H₀ E) (.Raise (some (.Call (.Name x np) [e] [] cpos)) none pos) (a9o t D E):=by
 intro pins s σ H Dn I h;obtain ⟨nm,q,Na,bs,bm,hdct,sn,sub,ab,col,dd,k0,k1,k2,k3,k5,lk,ok,ni,tl⟩:=k.ob;have tb:∀ h:Heap,K.In h->OwnTail h [.type "ValueError",.type "Exception",.type "BaseException",.type "object"] bm:=λ h X=>W.tail_of_in X tl;have nsf:∀ h:Heap,K.In h->h.Ns Na (h.nsMap Na)/\h.nsMap Na "__init__"=none:=λ h X=>⟨.of_isNs (W.isNs_of_in X ok),W.nsMap_none_of_in X ok ni⟩;have hN0:=(nsf s.heap I.kIn).1;refine wpAny_Raise_call_subT (C:=D) (nm:=nm) (q:=q) (N:=Na) (bs:=bs) (bm:=bm) (hdct:=hdct) (sn:=sn) (sub:=sub) (ab:=ab) (col:=col) (dd:=dd) (k0:=k0) (k1:=k1) (k2:=k2) (k3:=k3) (k5:=k5) (newId:="ValueError.__new__")
  F.excBase_ValueError (mN:=base.nsMap Na) ((tb base I.mod.kin).hasType (by decide +kernel)) (by show (A.deeper _).handled=none; exact hh) (by rw [show starEach [e] (M0 (CX1 P w) P w K mg base N qual scope f cd A outer s₀ H₀ E).env=_ from he]; rfl)
  (nsf base I.mod.kin).2 (a2r I hg hm ⟨rfl,?_⟩ hdb)
 have h2:=ha cpos pins s σ H _ I h;rw [show starEach [e] (M0 (CX1 P w) P w K mg base N qual scope f cd A outer s₀ H₀ E).env=_ from he] at h2 ⊢;refine Calls.evalArgs_plain (wpAny_mono h2 (λ us s2 ⟨vs,H2,I2,r,hl,hE⟩=>⟨rfl,by rw [<- r.length]; exact dX (j8 hl),I2.kIn _ _ lk,(nsf base I.mod.kin).1.keeps I2.bk,tb _ I2.kIn,λ h' ea hx=>b5p I2 hx hE⟩) λ _ _ z=>z)
end
section
variable {X:Cx} {CX:CXT} {k:Nat} {f:Addr} {fd:FuncData} {ps:List Str} {sp:Sp} {EX:St->XK} {x:Str} {p pos:Pos} {e:Expr} {es:List Expr} {t:TA}
end
section
variable {X:Cx} {pins:List (Addr×Obj)} {σ:St} {H:Hp} {s:Shared} {ea:Addr}
end
section
variable {X:Cx} {x n:Str} {R:Addr} {i:Nat} {tb:(St->XK)->TS} {ts:TS} {body suite:List Stmt} {b₀:Stmt} {np hpos pos:Pos}
end
structure b5x (k:Nat) (A:Around):Prop where
 dp:A.depth+3*k+5<recursionLimit
 un:A.units+16*k+200<cLine
structure FnU (P:Program) (w:World) (K:W.Frag) (mg:Str->Option Value) (base:Heap) (k:Nat) (f:Addr) (fd:FuncData) (ps:List Str) (sp:Sp):Prop where
 len:∀ vs H Q E,sp vs H Q E->vs.length=ps.length
 run:∀ (A:Around) (outer:List Env) (s:Shared) (H:Hp) (args:Args) (us:List Value) (vs:List V) (Q:VK) (E:XK),b5x k A->Env0 P w K mg base A outer s H->BindsTo s fd args (ps.zip us)->Vals vs us->sp vs H Q E →
  codeAny (model P w) A (.call (.ref f) args) (CR E4 outer P w H s Q E) s
section
variable {P:Program} {w:World} {K:W.Frag} {mg:Str->Option Value} {base:Heap}
theorem Fun.ok1 {x qual:Str} {st:Stmt} {f:Addr} {fd:FuncData} {N ps:List Str} {k:Nat} {sp:Sp} (F:Fun K x qual st f fd) (S:m6 N ps (i5 st)) (len:∀ vs H Q E,sp vs H Q E->vs.length=ps.length)
  (hbody:∀ (cdv:Value) (A:Around) (outer:List Env) (s:Shared) (H:Hp) (vs:List V) (Q:VK) (E:XK),Room k (A.deeper (envOfC qual (i5 st) s.heap.objs.size f cdv))->sp vs H Q E →
   ∃ t,PSs (M0 (CX1 P w) P w K mg base N qual (i5 st) f cdv A outer s H E) (v5 st) t/\t { nx:=λ _ H'=>Q .non H',rt:=Q } (Y6 N vs) H):FnOk P w K mg base (CX1 P w) (k+1) f fd ps sp:=by
 obtain ⟨oc,od,kV,doc,pm,an,cdv,ct,osl,rfl,lk,hcd⟩:=F.ex;exact a9H lk hcd S len λ A outer s H vs Q E hr hsp=>hbody cdv A outer s H vs Q E hr hsp
end
section
variable {X:Cx} {k:Nat} {f:Addr} {fd:FuncData} {ps:List Str} {sp:Sp} {x:Str} {p pos:Pos} {e:Expr} {es:List Expr} {t:TA}
end
section
variable {prog:Program} {w:World} {A:Around} {E:Value->Shared->Prop} {s:Shared}
theorem b1V {j tp:Addr} {i:Nat} {vs:Array Value} {x:Value} {Q:Value->Shared->Prop} (q1:IsTupIter s.heap j tp i) (q2:IsTup s.heap tp vs) (q3:vs[i]?=some x)
  (q:∀ h',IsTupIter h' j tp (i+1)->Heap.SameBut j s.heap h'->Q x { s with heap:=h' }):wpAny (model prog w) A (Builtin.SmallTypes.nextOf (.ref j)) Q E s:=by
 obtain ⟨oj,g1,g2,g3⟩:=id q1;obtain ⟨ot,g4,_,nt,g5⟩:=q2;unfold Builtin.SmallTypes.nextOf;refine wpAny_bind (wpAny_callSpecial?_slot (name:=Str.ofString "__next__") q1.typeIs slot_tupleiter_next (wpAny_call_entry slot_tupleiter_next q1.typeIs entry_tupleiter_next ?_ (args_tupleiter_next _)))
 show wpAny _ _ (field (.ref j) 0 >>= _) _ _ s
 refine wpAny_bind (wpAny_field g1 g3 (x:=.ref tp) rfl ?_)
 show wpAny _ _ (if (Value.ref tp==Value.none)=true then _ else _) _ _ s
 rw [if_neg (λ z=>by cases z)]
 show wpAny _ _ (field (.ref j) 1 >>= _) _ _ s
 refine wpAny_bind (wpAny_field g1 g3 (x:=.int i 0) rfl ?_)
 show wpAny _ _ (seqItems? (.ref tp) >>= _) _ _ s
 refine wpAny_bind (wpAny_seqItems g4 g5 ?_);simp only [bF,q3];refine wpAny_bind (wpAny_setField g1 g3 (by simp) (wpAny_pure ⟨x,rfl,wpAny_pure (q _ ?_ (Heap.SameBut.update ..))⟩));refine ⟨_,Heap.get?_update_self _ g1 (Obj.isFreed_of_fields (Obj.data_mapFields g3 _)),(Obj.cls_mapFields ..).trans g2,?_⟩;rw [Obj.data_mapFields g3];simp [rawInt]
theorem b3N {j tp:Addr} {i:Nat} {vs:Array Value} {Q:Value->Shared->Prop} (hh:A.handled=none) (q1:IsTupIter s.heap j tp i) (q2:IsTup s.heap tp vs) (q3:vs[i]?=none)
  (q:∀ h' e,Heap.ExtBut j s.heap h'->(∃ o,h'.get? e=some o/\o.cls=.type "StopIteration")->E (.ref e) { s with heap:=h' }):wpAny (model prog w) A (Builtin.SmallTypes.nextOf (.ref j)) Q E s:=by
 obtain ⟨oj,g1,g2,g3⟩:=id q1;obtain ⟨ot,g4,_,nt,g5⟩:=q2;unfold Builtin.SmallTypes.nextOf;refine wpAny_bind (wpAny_callSpecial?_slot (name:=Str.ofString "__next__") q1.typeIs slot_tupleiter_next (wpAny_call_entry slot_tupleiter_next q1.typeIs entry_tupleiter_next ?_ (args_tupleiter_next _)))
 show wpAny _ _ (field (.ref j) 0 >>= _) _ _ s
 refine wpAny_bind (wpAny_field g1 g3 (x:=.ref tp) rfl ?_)
 show wpAny _ _ (if (Value.ref tp==Value.none)=true then _ else _) _ _ s
 rw [if_neg (λ z=>by cases z)]
 show wpAny _ _ (field (.ref j) 1 >>= _) _ _ s
 refine wpAny_bind (wpAny_field g1 g3 (x:=.int i 0) rfl ?_)
 show wpAny _ _ (seqItems? (.ref tp) >>= _) _ _ s
 refine wpAny_bind (wpAny_seqItems g4 g5 ?_);simp only [bF,q3];refine wpAny_bind (wpAny_rule (wpAny_bind (wpAny_setField g1 g3 (by simp) ?_)))
 show wpAny _ _ (do let e <- newExc (.type "StopIteration") []; _) _ _ _
 simp only [newExc,newTuple];refine wpAny_bind (wpAny_bind (wpAny_newObj_type (wpAny_bind (m:=firstArgMember _ _) (wpAny_of_eq (a:=Value.none) (by first | rfl | (simp only [firstArgMember]; rfl)) (wpAny_newObj_type ?_ (by size_fits)))) (by size_fits)));simp only [raiseNew];refine wpAny_bind (wpAny_handled ?_);rw [show A.in1.handled=none from hh];exact wpAny_bind (wpAny_pure (wpAny_throw (q _ _ (((Heap.SameBut.update ..).extBut.push _).push _) ⟨_,Heap.get?_push_size _ rfl,rfl⟩)))
theorem IsTupIter.at' {h h':Heap} {a t:Addr} {i:Nat} (x:IsTupIter h a t i) (e:∀ o,h.get? a=some o->h'.get? a=some o):IsTupIter h' a t i:=let ⟨o,ho,r⟩:=x; ⟨o,e _ ho,r⟩
end
def IsB:Bool->Heap->Addr->Array Value->Prop
 | true,h,t,xs=>h.IsList t xs
 | false,h,t,xs=>IsTup h t xs
def ItB:Bool->Heap->Addr->Addr->Nat->Prop
 | true,h,j,t,k=>h.IsListIter j t k
 | false,h,j,t,k=>IsTupIter h j t k
def SqB:Bool->W.Frag->Hp->Addr->List V->Prop
 | true,K,H,a,xs=>SqL K H a xs
 | false,K,H,a,xs=>SqT K H a xs
def itN:Bool->String
 | true=>"list_iterator"
 | false=>"tuple_iterator"
section
variable {b:Bool} {h h':Heap} {j t c:Addr} {k:Nat} {xs:Array Value}
theorem ItB.at' (x:ItB b h j t k) (e:∀ o,h.get? j=some o->h'.get? j=some o):ItB b h' j t k:=by
 cases b
 ·exact IsTupIter.at' x e
 ·exact Heap.IsListIter.at x e
theorem ItB.extBut (x:ItB b h j t k) (hs:Heap.ExtBut c h h') (n:j≠c):ItB b h' j t k:=x.at' λ o e=>hs j o n e
theorem IsB.at' (x:IsB b h t xs) (e:∀ o,h.get? t=some o->h'.get? t=some o):IsB b h' t xs:=by
 cases b
 ·obtain ⟨o,ho,r⟩:=x; exact ⟨o,e o ho,r⟩
 ·obtain ⟨o,ho,r⟩:=x; exact ⟨o,e o ho,r⟩
theorem IsB.extBut (x:IsB b h t xs) (hs:Heap.ExtBut c h h') (n:t≠c):IsB b h' t xs:=x.at' λ o e=>hs t o n e
theorem IsB.push (x:IsB b h t xs) (o:Obj):IsB b (h.push o) t xs:=x.at' λ _ e=>Heap.get?_push_of_some _ e
theorem IsB.lt (x:IsB b h t xs):t<h.objs.size:=by
 cases b
 ·obtain ⟨o,ho,_⟩:=x; exact Heap.lt_size ho
 ·obtain ⟨o,ho,_⟩:=x; exact Heap.lt_size ho
theorem ItB.mk (e:h.get? j=some { cls:=.type (itN b),data:=.fields #[.ref t,.int 0 0] }):ItB b h j t 0:=by
 cases b
 ·exact ⟨_,e,rfl,rfl⟩
 ·exact ⟨_,e,rfl,rfl⟩
theorem ItB.obj (x:ItB b h j t k):∃ o,h.get? j=some o/\∃ vs,o.data=.fields vs:=by
 cases b
 ·obtain ⟨o,ho,_,d⟩:=x; exact ⟨o,ho,_,d⟩
 ·obtain ⟨o,ho,_,d⟩:=x; exact ⟨o,ho,_,d⟩
theorem Same.sqB {K:W.Frag} {H H':Hp} {a:Addr} {ys:List V} (e:Same H H') (x:SqB b K H a ys):SqB b K H' a ys:=by
 cases b
 ·exact e.tseq x
 ·exact e.seq x
theorem Inv.sqB {X:Cx} {pins:List (Addr×Obj)} {σ:St} {H:Hp} {s:Shared} {a:Addr} {ys:List V} (I:Inv X pins σ H s) (x:SqB b X.K H a ys):∃ its:List Value,Vals ys its/\IsB b s.heap a its.toArray/\ys.length<=sizeLine:=by
 cases b
 ·exact I.tuple x
 ·obtain ⟨i,r,p,z⟩:=I.list x
  exact ⟨i,r,p.isList,z⟩
theorem Inv.sqB_inj {X:Cx} {pins:List (Addr×Obj)} {σ:St} {H:Hp} {s:Shared} {a:Addr} {ys zs:List V} (I:Inv X pins σ H s) (x:SqB b X.K H a ys) (y:SqB b X.K H a zs):ys=zs:=by
 cases b
 ·exact I.tuple_inj x y
 ·exact I.list_inj x y
end
section
variable {prog:Program} {w:World} {A:Around} {E:Value->Shared->Prop} {s:Shared}
theorem a1g {b:Bool} {j tp:Addr} {i:Nat} {vs:Array Value} {x:Value} {Q:Value->Shared->Prop} (q1:ItB b s.heap j tp i) (q2:IsB b s.heap tp vs) (q3:vs[i]?=some x)
  (q:∀ h',ItB b h' j tp (i+1)->Heap.SameBut j s.heap h'->Q x { s with heap:=h' }):wpAny (model prog w) A (Builtin.SmallTypes.nextOf (.ref j)) Q E s:=by
 cases b
 ·exact b1V q1 q2 q3 q
 ·exact wpAny_nextOf_list_item q1 q2 q3 q
theorem a2q {b:Bool} {j tp:Addr} {i:Nat} {vs:Array Value} {Q:Value->Shared->Prop} (hh:A.handled=none) (q1:ItB b s.heap j tp i) (q2:IsB b s.heap tp vs) (q3:vs[i]?=none)
  (q:∀ h' e,Heap.ExtBut j s.heap h'->(∃ o,h'.get? e=some o/\o.cls=.type "StopIteration")->E (.ref e) { s with heap:=h' }):wpAny (model prog w) A (Builtin.SmallTypes.nextOf (.ref j)) Q E s:=by
 cases b
 ·exact b3N hh q1 q2 q3 q
 ·exact wpAny_nextOf_list_end hh q1 q2 q3 q
theorem a5k {b:Bool} {t:Addr} {xs:Array Value} {Q:Value->Shared->Prop} (m:IsB b s.heap t xs) (h:Q (.ref s.heap.objs.size) { s with heap:=s.heap.push { cls:=.type (itN b),data:=.fields #[.ref t,.int 0 0] } }):wpAny (model prog w) A (pyIter (.ref t)) Q E s:=by
 cases b
 ·exact iter_tuple m h
 ·exact wpAny_pyIter_list m h
theorem b1I {b1 b2:Bool} {z ti to j1 j2 t1 t2:Addr} {k1 k2:Nat} {xs ys:Array Value} {x y a b:Value} {Q:Value->Shared->Prop} (D:ZipApart z ti to j1 j2 t1 t2)
  (q0:IsZip s.heap z ti to .none) (p1:IsPair s.heap ti (.ref j1) (.ref j2)) (p2:IsPair s.heap to a b)
  (i1:ItB b1 s.heap j1 t1 k1) (i2:ItB b2 s.heap j2 t2 k2) (l1:IsB b1 s.heap t1 xs) (l2:IsB b2 s.heap t2 ys) (ex:xs[k1]?=some x) (ey:ys[k2]?=some y)
  (q:∀ h',IsZip h' z ti to (rawInt s.heap.objs.size)->IsPair h' to x y->ItB b1 h' j1 t1 (k1+1)->ItB b2 h' j2 t2 (k2+1)->IsPair h' s.heap.objs.size x y →
   (∀ c o,c≠z->c≠to->c≠j1->c≠j2->s.heap.get? c=some o->h'.get? c=some o)->Q (.ref s.heap.objs.size) { s with heap:=h' }) :
  wpAny (model prog w) A (Builtin.«zip.__next__» ⟨[.ref z],[]⟩) (λ fin s'=>∃ v,fin=.done (.ret v)/\Q v s') E s:=by
 show wpAny _ _ (field (.ref z) 2 >>= _) _ _ _
 refine wpAny_bind (wpAny_field q0 rfl (x:=.bool false) rfl (show wpAny _ _ (field (.ref z) 3 >>= _) _ _ _ from wpAny_bind (wpAny_field q0 rfl (x:=.ref ti) rfl (wpAny_bind (wpAny_seqItems p1 rfl ?_)))))
 show wpAny _ _ (do let free <- Builtin.SmallTypes.ownedTupleIsFree (.ref z); _) _ _ _
 unfold Builtin.SmallTypes.ownedTupleIsFree;refine wpAny_bind (wpAny_bind (wpAny_field q0 rfl (x:=.none) rfl (wpAny_pure ?_)));simp only [if_true];refine wpAny_bind (wpAny_rule (wpAny_bind (wpAny_field q0 rfl (x:=.ref to) rfl (wpAny_bind (wpAny_setField_rec q0 (by simp) λ u1 z1 s1=>?_)))));have z1':IsZip u1 z ti to .ellipsis:=z1;refine wpAny_bind ?_;simp only [kC,kD,gP,iM];refine wpAny_bind (wpAny_bind (wpAny_onRaise (show wpAny _ _ (Builtin.SmallTypes.nextOf (.ref j1) >>= _) _ _ _ from wpAny_bind (a1g (i1.extBut s1.extBut D.i1z) (l1.extBut s1.extBut D.l1z) ex λ u2 j1' s2=>wpAny_pure ?_))));have to2:IsPair u2 to a b:=s2.extBut _ _ D.TOi1 (s1.extBut _ _ D.TOz p2);refine wpAny_bind (wpAny_seqItems to2 rfl (wpAny_bind (wpAny_updateSeq_pair to2 λ u3 to3 s3=>wpAny_bind (wpAny_letGo (wpAny_pure ?_)))));have to3':IsPair u3 to x b:=to3;refine wpAny_bind (wpAny_bind (wpAny_onRaise (show wpAny _ _ (Builtin.SmallTypes.nextOf (.ref j2) >>= _) _ _ _ from wpAny_bind (a1g (((i2.extBut s1.extBut D.i2z).extBut s2.extBut D.i12.symm).extBut s3.extBut D.TOi2.symm)
  (((l2.extBut s1.extBut D.l2z).extBut s2.extBut D.l2i1).extBut s3.extBut D.l2TO) ey λ u4 j2' s4=>wpAny_pure ?_))))
 have to4:IsPair u4 to x b:=s4.extBut _ _ D.TOi2 to3';refine wpAny_bind (wpAny_seqItems to4 rfl (wpAny_bind (wpAny_updateSeq_pair to4 λ u5 to5 s5=>wpAny_bind (wpAny_letGo (wpAny_pure (wpAny_pure ?_))))));have to5':IsPair u5 to x y:=to5;refine wpAny_bind (wpAny_seqItems to5' rfl (wpAny_bind (wpAny_newTuple ?_)));have sz:u5.objs.size=s.heap.objs.size:=by rw [s5.1,s4.1,s3.1,s2.1,s1.1]
 have z5:IsZip u5 z ti to .ellipsis:=s5.extBut _ _ D.TOz.symm (s4.extBut _ _ D.i2z.symm (s3.extBut _ _ D.TOz.symm (s2.extBut _ _ D.i1z.symm z1')));have kp:∀ c o,c≠z->c≠to->c≠j1->c≠j2->s.heap.get? c=some o->u5.get? c=some o:=λ c o n1 n2 n3 n4 e=>s5.extBut _ _ n2 (s4.extBut _ _ n4 (s3.extBut _ _ n2 (s2.extBut _ _ n3 (s1.extBut _ _ n1 e))));have a1:ItB b1 u5 j1 t1 (k1+1):=((j1'.extBut s3.extBut D.TOi1.symm).extBut s4.extBut D.i12).extBut s5.extBut D.TOi1.symm;have a2:ItB b2 u5 j2 t2 (k2+1):=j2'.extBut s5.extBut D.TOi2.symm;have zl:z<u5.objs.size:=Heap.lt_size z5
 show wpAny _ _ (do let r <- Builtin.SmallTypes.ownedTupleHandOut (.ref z) (.ref u5.objs.size); _) _ _ _
 unfold Builtin.SmallTypes.ownedTupleHandOut;have z6:IsZip (u5.push { cls:=.type "tuple",data:=.seq #[x,y] }) z ti to .ellipsis:=Heap.get?_push_of_some _ z5;refine wpAny_bind (wpAny_bind (wpAny_setField_rec z6 (by simp) λ u7 z7 s7=>?_));have z7':IsZip u7 z ti to (rawInt u5.objs.size):=z7;refine wpAny_setField_rec z7' (by simp) λ u8 z8 s8=>?_;have z8':IsZip u8 z ti to (rawInt u5.objs.size):=z8;have up:∀ c o,c≠z->u5.get? c=some o->u8.get? c=some o:=λ c o n1 e=>s8.extBut _ _ n1 (s7.extBut _ _ n1 (Heap.get?_push_of_some _ e));have nt8:IsPair u8 u5.objs.size x y:=s8.extBut _ _ (dY zl) (s7.extBut _ _ (dY zl) (Heap.get?_push_size _ rfl));rw [sz] at z8' nt8;refine wpAny_pure ⟨_,rfl,?_⟩
 show Q (.ref u5.objs.size) _
 rw [sz];exact q u8 z8' (up _ _ D.TOz to5') (ItB.at' a1 λ o e=>up _ o D.i1z e) (ItB.at' a2 λ o e=>up _ o D.i2z e) nt8 λ c o n1 n2 n3 n4 e=>up c o n1 (kp c o n1 n2 n3 n4 e)
theorem b3n {b1 b2:Bool} {z ti to j1 j2 t1 t2:Addr} {k1 k2:Nat} {xs ys:Array Value} {a b:Value} {Q:iP->Shared->Prop} (hh:A.handled=none) (D:ZipApart z ti to j1 j2 t1 t2)
  (q0:IsZip s.heap z ti to .none) (p1:IsPair s.heap ti (.ref j1) (.ref j2)) (p2:IsPair s.heap to a b)
  (i1:ItB b1 s.heap j1 t1 k1) (i2:ItB b2 s.heap j2 t2 k2) (l1:IsB b1 s.heap t1 xs) (l2:IsB b2 s.heap t2 ys) (en:xs[k1]?=none\/ys[k2]?=none)
  (q:∀ h' e,(∀ c o,c≠z->c≠to->c≠j1->c≠j2->s.heap.get? c=some o->h'.get? c=some o)->(∃ o,h'.get? e=some o/\o.cls=.type "StopIteration")->E (.ref e) { s with heap:=h' }) :
  wpAny (model prog w) A (Builtin.«zip.__next__» ⟨[.ref z],[]⟩) Q E s:=by
 show wpAny _ _ (field (.ref z) 2 >>= _) _ _ _
 refine wpAny_bind (wpAny_field q0 rfl (x:=.bool false) rfl (show wpAny _ _ (field (.ref z) 3 >>= _) _ _ _ from wpAny_bind (wpAny_field q0 rfl (x:=.ref ti) rfl (wpAny_bind (wpAny_seqItems p1 rfl ?_)))))
 show wpAny _ _ (do let free <- Builtin.SmallTypes.ownedTupleIsFree (.ref z); _) _ _ _
 unfold Builtin.SmallTypes.ownedTupleIsFree;refine wpAny_bind (wpAny_bind (wpAny_field q0 rfl (x:=.none) rfl (wpAny_pure ?_)));simp only [if_true];refine wpAny_bind (wpAny_rule (wpAny_bind (wpAny_field q0 rfl (x:=.ref to) rfl (wpAny_bind (wpAny_setField_rec q0 (by simp) λ u1 z1 s1=>?_)))));have z1':IsZip u1 z ti to .ellipsis:=z1;refine wpAny_bind ?_;simp only [kC,kD,gP,iM]
 cases ex:xs[k1]? with
 | none =>
  refine wpAny_bind (wpAny_bind (wpAny_onRaise (show wpAny _ _ (Builtin.SmallTypes.nextOf (.ref j1) >>= _) _ _ _ from wpAny_bind (a2q hh (i1.extBut s1.extBut D.i1z) (l1.extBut s1.extBut D.l1z) ex λ u2 e s2 ⟨oe,e1,e2⟩=>?_))));have z2:IsZip u2 z ti to .ellipsis:=s2 _ _ D.i1z.symm z1';have ne:e≠z:=λ c=>by subst c; rw [z2] at e1; cases e1; simp at e2
  exact wpAny_setField_rec z2 (by simp) λ u3 _ s3=>q u3 e (λ c o n1 _ n3 _ m=>s3.extBut _ _ n1 (s2 _ _ n3 (s1.extBut _ _ n1 m))) ⟨oe,s3.extBut _ _ ne e1,e2⟩
 | some x =>
  have ey:ys[k2]?=none:=by
   rcases en with m | m
   ·rw [ex] at m; cases m
   ·exact m
  refine wpAny_bind (wpAny_bind (wpAny_onRaise (show wpAny _ _ (Builtin.SmallTypes.nextOf (.ref j1) >>= _) _ _ _ from wpAny_bind (a1g (i1.extBut s1.extBut D.i1z) (l1.extBut s1.extBut D.l1z) ex λ u2 j1' s2=>wpAny_pure ?_))));have to2:IsPair u2 to a b:=s2.extBut _ _ D.TOi1 (s1.extBut _ _ D.TOz p2);refine wpAny_bind (wpAny_seqItems to2 rfl (wpAny_bind (wpAny_updateSeq_pair to2 λ u3 to3 s3=>wpAny_bind (wpAny_letGo (wpAny_pure ?_)))));refine wpAny_bind (wpAny_bind (wpAny_onRaise (show wpAny _ _ (Builtin.SmallTypes.nextOf (.ref j2) >>= _) _ _ _ from wpAny_bind (a2q hh (((i2.extBut s1.extBut D.i2z).extBut s2.extBut D.i12.symm).extBut s3.extBut D.TOi2.symm)
   (((l2.extBut s1.extBut D.l2z).extBut s2.extBut D.l2i1).extBut s3.extBut D.l2TO) ey λ u4 e s4 ⟨oe,e1,e2⟩=>?_))))
  have z4:IsZip u4 z ti to .ellipsis:=s4 _ _ D.i2z.symm (s3.extBut _ _ D.TOz.symm (s2.extBut _ _ D.i1z.symm z1'));have ne:e≠z:=λ c=>by subst c; rw [z4] at e1; cases e1; simp at e2
  exact wpAny_setField_rec z4 (by simp) λ u5 _ s5=>q u5 e (λ c o n1 n2 n3 n4 m=>s5.extBut _ _ n1 (s4 _ _ n4 (s3.extBut _ _ n2 (s2.extBut _ _ n3 (s1.extBut _ _ n1 m))))) ⟨oe,s5.extBut _ _ ne e1,e2⟩
theorem b1v {b1 b2:Bool} {z ti to j1 j2 t1 t2:Addr} {k1 k2:Nat} {xs ys:Array Value} {x y a b:Value} {Q:Option Value->Shared->Prop} (D:ZipApart z ti to j1 j2 t1 t2)
  (q0:IsZip s.heap z ti to .none) (p1:IsPair s.heap ti (.ref j1) (.ref j2)) (p2:IsPair s.heap to a b)
  (i1:ItB b1 s.heap j1 t1 k1) (i2:ItB b2 s.heap j2 t2 k2) (l1:IsB b1 s.heap t1 xs) (l2:IsB b2 s.heap t2 ys) (ex:xs[k1]?=some x) (ey:ys[k2]?=some y)
  (q:∀ h',IsZip h' z ti to (rawInt s.heap.objs.size)->IsPair h' to x y->ItB b1 h' j1 t1 (k1+1)->ItB b2 h' j2 t2 (k2+1)->IsPair h' s.heap.objs.size x y →
   (∀ c o,c≠z->c≠to->c≠j1->c≠j2->s.heap.get? c=some o->h'.get? c=some o)->Q (some (.ref s.heap.objs.size)) { s with heap:=h' }) :
  wpAny (model prog w) A (pyNext (.ref z)) Q E s:=by
 have ty:s.TypeIs (.ref z) "zip":=⟨_,q0,rfl⟩;unfold pyNext;exact wpAny_bind (wpAny_attempt (wpAny_callSpecial?_slot (name:=Str.ofString "__next__") ty F.slot_zip_next (wpAny_call_entry F.slot_zip_next ty F.entry_zip_next
  (b1I D q0 p1 p2 i1 i2 l1 l2 ex ey λ h' b1 b2 b3 b4 b5 b6=>wpAny_pure (q h' b1 b2 b3 b4 b5 b6)) (F.args_zip_next_1 _))))
theorem b2o {b1 b2:Bool} {z ti to j1 j2 t1 t2:Addr} {k1 k2:Nat} {xs ys:Array Value} {a b:Value} {Q:Option Value->Shared->Prop} (hh:A.handled=none) (D:ZipApart z ti to j1 j2 t1 t2)
  (q0:IsZip s.heap z ti to .none) (p1:IsPair s.heap ti (.ref j1) (.ref j2)) (p2:IsPair s.heap to a b)
  (i1:ItB b1 s.heap j1 t1 k1) (i2:ItB b2 s.heap j2 t2 k2) (l1:IsB b1 s.heap t1 xs) (l2:IsB b2 s.heap t2 ys) (en:xs[k1]?=none\/ys[k2]?=none)
  (q:∀ h',(∀ c o,c≠z->c≠to->c≠j1->c≠j2->s.heap.get? c=some o->h'.get? c=some o)->Q none { s with heap:=h' }):wpAny (model prog w) A (pyNext (.ref z)) Q E s:=by
 have ty:s.TypeIs (.ref z) "zip":=⟨_,q0,rfl⟩;unfold pyNext;refine wpAny_bind (wpAny_attempt (wpAny_callSpecial?_slot (name:=Str.ofString "__next__") ty F.slot_zip_next (wpAny_call_entry F.slot_zip_next ty F.entry_zip_next
  (b3n hh D q0 p1 p2 i1 i2 l1 l2 en λ h' e kp ⟨o,e1,e2⟩=>wpAny_bind (wpAny_isInstance (T:="StopIteration") (b:=true) ⟨o,e1,e2⟩ isSubtype_stop (wpAny_pure (q _ kp)))) (F.args_zip_next_1 _))))
end
abbrev zg1 (b1:Bool) (h:Heap) (t1:Addr):Heap:=h.push { cls:=.type (itN b1),data:=.fields #[.ref t1,.int 0 0] }
abbrev zg2 (b1 b2:Bool) (h:Heap) (t1 t2:Addr):Heap:=(zg1 b1 h t1).push { cls:=.type (itN b2),data:=.fields #[.ref t2,.int 0 0] }
abbrev zg3 (b1 b2:Bool) (h:Heap) (t1 t2:Addr):Heap:=(zg2 b1 b2 h t1 t2).push { cls:=.type "tuple",data:=.seq #[.ref h.objs.size,.ref (zg1 b1 h t1).objs.size] }
abbrev zg4 (b1 b2:Bool) (h:Heap) (t1 t2:Addr):Heap:=(zg3 b1 b2 h t1 t2).push { cls:=.type "tuple",data:=.seq #[.none,.none] }
abbrev zg5 (b1 b2:Bool) (h:Heap) (t1 t2:Addr):Heap:=(zg4 b1 b2 h t1 t2).push { cls:=.type "zip",data:=.fields #[.none,.bool false,.bool false,.ref (zg2 b1 b2 h t1 t2).objs.size,.ref (zg3 b1 b2 h t1 t2).objs.size] }
theorem b4d (b1 b2:Bool) (t1 t2:Addr) (xs ys:Array Value) :
  Meets (Builtin.«zip.__new__» ⟨[.type "zip",.ref t1,.ref t2],[]⟩) (λ _ R s=>IsB b1 s.heap t1 xs/\IsB b2 s.heap t2 ys/\R (.ok (.ret (.ref (zg4 b1 b2 s.heap t1 t2).objs.size))) { s with heap:=zg5 b1 b2 s.heap t1 t2 }) :=
 .of_wp λ prog w A R s h=>by
  obtain ⟨hp,g,d,tk,os⟩:=s;obtain ⟨e1,e2,h⟩:=h;have hsub:=sub_zip;have m1:IsB b1 (Shared.heap ⟨hp,g,d,tk,os⟩) t1 xs:=e1;have m2:IsB b2 (Shared.heap ⟨hp.push { cls:=.type (itN b1),data:=.fields #[.ref t1,.int 0 0] },g,d,tk,os⟩) t2 ys:=IsB.push e2 _
  wp_walk using a5k m1,a5k m2
  exact ⟨_,rfl,h⟩
section
variable {prog:Program} {w:World} {A:Around} {E:Value->Shared->Prop} {s:Shared}
theorem b1n {b1 b2:Bool} {t1 t2:Addr} {xs ys:Array Value} {Q:Value->Shared->Prop} (l1:IsB b1 s.heap t1 xs) (l2:IsB b2 s.heap t2 ys)
  (q:∀ h',IsZip h' (s.heap.objs.size+4) (s.heap.objs.size+2) (s.heap.objs.size+3) .none->IsPair h' (s.heap.objs.size+2) (.ref s.heap.objs.size) (.ref (s.heap.objs.size+1))->IsPair h' (s.heap.objs.size+3) .none .none →
   ItB b1 h' s.heap.objs.size t1 0->ItB b2 h' (s.heap.objs.size+1) t2 0->(∀ c o,s.heap.get? c=some o->h'.get? c=some o)->Q (.ref (s.heap.objs.size+4)) { s with heap:=h' }) :
  wpAny (model prog w) A (call (.type "zip") [.ref t1,.ref t2]) Q E s:=by
 refine callType_new F.called_zip (by decide) (F.typeCall_zip_2 _ _) (F.newCall_zip_2 _ _) (λ ob=>F.args_object_init_3 ob _ _) F.entry_zip_new (b4d b1 b2 t1 t2 xs ys) ⟨l1,l2,?_⟩;have n1:(zg1 b1 s.heap t1).objs.size=s.heap.objs.size+1:=Heap.size_push ..;have n2:(zg2 b1 b2 s.heap t1 t2).objs.size=s.heap.objs.size+2:=by rw [Heap.size_push,n1]
 have n3:(zg3 b1 b2 s.heap t1 t2).objs.size=s.heap.objs.size+3:=by rw [Heap.size_push,n2]
 have n4:(zg4 b1 b2 s.heap t1 t2).objs.size=s.heap.objs.size+4:=by rw [Heap.size_push,n3]
 have p5:(zg5 b1 b2 s.heap t1 t2).get? (zg4 b1 b2 s.heap t1 t2).objs.size=some _:=Heap.get?_push_size _ rfl;have p4:(zg5 b1 b2 s.heap t1 t2).get? (zg3 b1 b2 s.heap t1 t2).objs.size=some _:=Heap.get?_push_of_some _ (Heap.get?_push_size _ rfl);have p3:(zg5 b1 b2 s.heap t1 t2).get? (zg2 b1 b2 s.heap t1 t2).objs.size=some _:=Heap.get?_push_of_some _ (Heap.get?_push_of_some _ (Heap.get?_push_size _ rfl));have p2:(zg5 b1 b2 s.heap t1 t2).get? (zg1 b1 s.heap t1).objs.size=some _:=Heap.get?_push_of_some _ (Heap.get?_push_of_some _ (Heap.get?_push_of_some _ (Heap.get?_push_size _ rfl)));have p1:(zg5 b1 b2 s.heap t1 t2).get? s.heap.objs.size=some _:=Heap.get?_push_of_some _ (Heap.get?_push_of_some _ (Heap.get?_push_of_some _ (Heap.get?_push_of_some _ (Heap.get?_push_size _ rfl))));rw [n2,n3,n4] at p5;rw [n1,n2] at p3;rw [n3] at p4;rw [n1] at p2
 show _/\_
 rw [n4];refine ⟨⟨_,p5,rfl⟩,q _ p5 p3 p4 (ItB.mk p1) (ItB.mk p2) λ c o m=>?_⟩;exact Heap.get?_push_of_some _ (Heap.get?_push_of_some _ (Heap.get?_push_of_some _ (Heap.get?_push_of_some _ (Heap.get?_push_of_some _ m))))
end
def Itg (b1 b2:Bool) (K:W.Frag) (l1 l2:Addr):It :=
  ⟨λ i H=>∃ xs ys x y,SqB b1 K H l1 xs/\SqB b2 K H l2 ys/\xs[i]?=some x/\ys[i]?=some y,
   λ i H x H'=>∃ p a b,H p=none/\x=.ref p/\H'=upd H p (.tup [a,b])/\∀ xs ys,SqB b1 K H l1 xs->SqB b2 K H l2 ys->xs[i]?=some a/\ys[i]?=some b,
   λ i H=>∃ xs ys,SqB b1 K H l1 xs/\SqB b2 K H l2 ys/\(xs.length<=i\/ys.length<=i)⟩
theorem b1l {b1 b2:Bool} {P:Program} {w:World} {K:W.Frag} {elts:List Expr} {x1:Nat} {pos:Pos} {z ti to j1 j2 l1 l2:Addr} (D:ZipApart z ti to j1 j2 l1 l2) :
  a6K P w K (.Tuple elts x1 pos) (Itg b1 b2 K l1 l2) [z,ti,to,j1,j2] z (λ i h=>IsZip h z ti to .none/\IsPair h ti (.ref j1) (.ref j2)/\(∃ a b,IsPair h to a b)/\ItB b1 h j1 l1 i/\ItB b2 h j2 l2 i) where
 mem:=by simp
 obj:=λ i h st b hb=>by
  obtain ⟨hz,hti,⟨a,c,hto⟩,h1,h2⟩:=st;obtain ⟨o1,e1,v1,d1⟩:=h1.obj;obtain ⟨o2,e2,v2,d2⟩:=h2.obj;simp only [aR,bY,or_false] at hb;rcases hb with rfl | rfl | rfl | rfl | rfl
  ·exact ⟨_,hz,λ v q=>by cases q⟩
  ·exact ⟨_,hti,λ v q=>by cases q⟩
  ·exact ⟨_,hto,λ v q=>by cases q⟩
  ·exact ⟨o1,e1,λ v q=>by rw [d1] at q; cases q⟩
  ·exact ⟨o2,e2,λ v q=>by rw [d2] at q; cases q⟩
 keep:=λ i h h' st k=>by
  obtain ⟨hz,hti,⟨a,c,hto⟩,h1,h2⟩:=st;exact ⟨k z (by simp) _ hz,k ti (by simp) _ hti,⟨a,c,k to (by simp) _ hto⟩,ItB.at' h1 λ o e=>k j1 (by simp) o e,ItB.at' h2 λ o e=>k j2 (by simp) o e⟩
 item:=by
  intro X hP hw hK hc i pins s σ H E I hf st hg;subst hP hw hK;obtain ⟨xs,ys,x,y,hq1,hq2,hx,hy⟩:=hg;obtain ⟨hz,hti,⟨a,c,hto⟩,h1,h2⟩:=st;obtain ⟨its1,rv1,p1,_⟩:=I.sqB hq1;obtain ⟨its2,rv2,p2,_⟩:=I.sqB hq2;obtain ⟨u1,hu1,ru1⟩:=rv1.get hx;obtain ⟨u2,hu2,ru2⟩:=rv2.get hy;refine b1v D hz hti hto h1 h2 p1 p2 (x:=u1) (y:=u2) (by simpa using hu1) (by simpa using hu2) λ h' a1 a2 a3 a4 a5 a7=>?_;refine ⟨_,rfl,wpAny_letOwnedTupleGo_zip (s:={ s with heap:=h' }) a1 λ h'' hz'' hs''=>?_⟩;have neT:∀ b∈[z,ti,to,j1,j2],b≠s.heap.objs.size:=λ b hb e=>by
   have:∃ o,s.heap.get? b=some o:=by
    obtain ⟨o1,e1,_⟩:=h1.obj;obtain ⟨o2,e2,_⟩:=h2.obj;simp only [aR,bY,or_false] at hb;rcases hb with rfl | rfl | rfl | rfl | rfl
    ·exact ⟨_,hz⟩
    ·exact ⟨_,hti⟩
    ·exact ⟨_,hto⟩
    ·exact ⟨_,e1⟩
    ·exact ⟨_,e2⟩
   obtain ⟨o,ho⟩:=this;exact absurd (Heap.lt_size ho) (by rw [e]; exact cA _)
  have kk:∀ b o,b ∉ [z,ti,to,j1,j2]->s.heap.get? b=some o->h''.get? b=some o:=λ b o hb e=>by
   simp only [aR,bY,or_false,not_or] at hb;exact hs''.extBut b o hb.1 (a7 b o hb.1 hb.2.2.1 hb.2.2.2.1 hb.2.2.2.2 e)
  have tti:h'.get? ti=_:=a7 ti _ D.TIz D.TITO D.TIi1 D.TIi2 hti;have st':IsZip h'' z ti to .none/\IsPair h'' ti (.ref j1) (.ref j2)/\(∃ a b,IsPair h'' to a b)/\ItB b1 h'' j1 l1 (i+1)/\ItB b2 h'' j2 l2 (i+1) :=
   ⟨hz'',hs''.extBut _ _ D.TIz tti,⟨_,_,hs''.extBut _ _ D.TOz a2⟩,a3.extBut hs''.extBut D.i1z,a4.extBut hs''.extBut D.i2z⟩
  have hoF:∀ b∈[z,ti,to,j1,j2],∃ o,h''.get? b=some o:=λ b hb=>by
   obtain ⟨q1,q2,⟨_,_,q3⟩,q4,q5⟩:=st';obtain ⟨o1,e1,_⟩:=q4.obj;obtain ⟨o2,e2,_⟩:=q5.obj;simp only [aR,bY,or_false] at hb;rcases hb with rfl | rfl | rfl | rfl | rfl
   ·exact ⟨_,q1⟩
   ·exact ⟨_,q2⟩
   ·exact ⟨_,q3⟩
   ·exact ⟨_,e1⟩
   ·exact ⟨_,e2⟩
  have zs:z≠s.heap.objs.size:=neT z (by simp);have tup:IsTup h'' s.heap.objs.size [u1,u2].toArray:=⟨_,hs''.extBut _ _ (aY zs) a5,rfl,0,rfl⟩;refine ⟨.ref s.heap.objs.size,upd H s.heap.objs.size (.tup [x,y]),I.turnedLaid (h':=h'') hf kk hoF (aH _) (by show 2<=sizeLine; decide) (.cons ru1 (.cons ru2 .nil)) tup,rfl,⟨_,x,y,I.fresh,rfl,rfl,λ xs' ys' q1 q2=>?_⟩,st',λ b hb=>?_⟩
  ·rw [I.sqB_inj q1 hq1,I.sqB_inj q2 hq2]; exact ⟨hx,hy⟩
  ·rw [i3 (neT b hb)]; exact (hf b hb).1
 done:=by
  intro X hP hw hK hc i pins s σ H E I hf st hg;subst hP hw hK;obtain ⟨xs,ys,hq1,hq2,hend⟩:=hg;obtain ⟨hz,hti,⟨a,c,hto⟩,h1,h2⟩:=st;obtain ⟨its1,rv1,p1,_⟩:=I.sqB hq1;obtain ⟨its2,rv2,p2,_⟩:=I.sqB hq2;have hl1:=rv1.length;have hl2:=rv2.length;refine b2o (I.ok.hd hc) D hz hti hto h1 h2 p1 p2 (by
   rcases hend with q | q
   ·exact .inl (by simp; omega)
   ·exact .inr (by simp; omega)) λ h' k=>⟨rfl,I.turnedAll hf λ b o hb e=>?_⟩
  simp only [aR,bY,or_false,not_or] at hb;exact k b o hb.1 hb.2.2.1 hb.2.2.2.1 hb.2.2.2.2 e
 self:=λ _ _ _ _ _ st h=>wpAny_pyIter_zip st.1 h
def iZg (b1 b2:Bool) (K:W.Frag) (ta:TA):TI:=λ σ H R=>ta σ H λ vs H1=>∃ l1 l2,vs=[.ref l1,.ref l2]/\(∃ xs,SqB b1 K H1 l1 xs)/\(∃ ys,SqB b2 K H1 l2 ys)/\R (Itg b1 b2 K l1 l2) H1
theorem a3i (b1 b2:Bool) (K:W.Frag) {X:Cx} {a b:Expr} {ta:TA} {p pos pos':Pos} {elts:List Expr} {x1:Nat} (hK:X.K=K) (hg:Gl X "zip") (hm:X.mg "zip"=none) (ha:PA X [a,b] ta) (hs:starEach [a,b] X.env=[(false,eval a X.env),(false,eval b X.env)]:=by rfl) (hs2:starEach [b] X.env=[(false,eval b X.env)]:=by rfl) :
  PI X (.Tuple elts x1 pos') (.Call (.Name "zip" p) [a,b] [] pos) (iZg b1 b2 K ta):=by
 subst hK;intro pins s σ H R I h;refine Call_ (a0C I hg hm boot_zip (gD (C6 (ha pos pins s σ H _ I h) λ us s1 ⟨vs,H1,I1,r1,q1⟩=>?_) (by rw [hs,hs2]) (by rw [hs2]; rfl)));obtain ⟨l1,l2,e,⟨xs,q1⟩,⟨ys,q2⟩,q⟩:=q1;subst e;obtain ⟨u1,u2,rfl,ru1,ru2⟩:=a8Z r1
 cases ru1
 cases ru2;obtain ⟨its1,rv1,p1,_⟩:=I1.sqB q1;obtain ⟨its2,rv2,p2,_⟩:=I1.sqB q2;refine b1n p1 p2 λ h' z1 z2 z3 z4 z5 k=>?_;have I2:Inv X pins σ H1 { s1 with heap:=h' }:=I1.kept (t':=s1.toks) k;refine wpAny_pyIter_zip z1 ?_;have D:ZipApart (s1.heap.objs.size+4) (s1.heap.objs.size+2) (s1.heap.objs.size+3) s1.heap.objs.size (s1.heap.objs.size+1) l1 l2:=b3a _ _ _ p1.lt p2.lt;refine ⟨s1.heap.objs.size+4,[s1.heap.objs.size+4,s1.heap.objs.size+2,s1.heap.objs.size+3,s1.heap.objs.size,s1.heap.objs.size+1],_,_,H1,rfl,I2,b1l D,⟨z1,z2,⟨_,_,z3⟩,z4,z5⟩,λ b hb=>?_,q⟩;have hb':s1.heap.objs.size<=b:=by
  simp only [aR,bY,or_false] at hb;rcases hb with rfl | rfl | rfl | rfl | rfl
  ·exact fO _ _
  ·exact fO _ _
  ·exact fO _ _
  ·exact aH _
  ·exact fO _ _
 exact I1.fpOk hb' (I1.hok.fresh hb')
section
variable {b1 b2:Bool} {xs ys:List V} {K:W.Frag} {l1 l2:Addr} {fr:List Nat} {te:TE} {σ:St} {H1:Hp} {p:Addr} {D:Hp->Prop}
theorem a4K (h1:SqB b1 K H1 l1 xs) (h2:SqB b2 K H1 l2 ys) (hp:H1 p=none) (hz:xs.length<sizeLine) (R:Nat->V->Hp->Prop) (hR:∀ i y H H',R i y H->(∀ b o,b≠p->H b=some o->H' b=some o)->R i y H')
  (step:∀ (i:Nat) x y H zs (N:VK),xs[i]?=some x->ys[i]?=some y->Same H1 H->H p=some (.lst zs)->(∀ v H3,Same H H3->R i v H3->N v H3)->te (((blkσ 2 fr σ).set 0 (some x)).set 1 (some y)) H N)
  (hd:∀ zs H,Same H1 H->H p=some (.lst zs)->zs.length=min xs.length ys.length->(∀ i z,zs[i]?=some z->R i z H)->D H):lcW 2 fr (a5m K 2 (V5 (O6 0) (V5 (O6 1) a6l))) te σ (Itg b1 b2 K l1 l2) H1 p D:=by
 refine ⟨λ i m zs H=>m=min xs.length ys.length - i/\i<=min xs.length ys.length/\Same H1 H/\H p=some (.lst zs)/\zs.length=i/\∀ j y,zs[j]?=some y->R j y H,⟨_,rfl,cB _,Same.new hp _,upd_same,rfl,λ j y e=>by simp at e⟩,?_⟩;rintro i m zs H ⟨rfl,hi,e,hH,len,pr⟩
 by_cases hlt:i<min xs.length ys.length
 ·have hx:i<xs.length:=by omega
  have hy:i<ys.length:=by omega
  refine .inr ⟨⟨xs,ys,xs[i],ys[i],e.sqB h1,e.sqB h2,aF hx,aF hy⟩,λ u H' y=>?_⟩;obtain ⟨q,a,b,hq,rfl,rfl,hab⟩:=y;obtain ⟨ha,hb⟩:=hab xs ys (e.sqB h1) (e.sqB h2);have s1:=Same.new hq (.tup [a,b]);refine ⟨q,_,rfl,SqT.of upd_same,rfl,_,_,rfl,_,_,rfl,rfl,?_,?_⟩
  ·refine ⟨by simp,λ k w ek=>?_⟩
   have:¬ k<2:=λ hk=>by
    unfold blkσ at ek;rw [bK (by simpa using hk),cV] at ek
    split at ek <;> cases ek
   rw [bV (by omega),bV (by omega)]; exact ek
  ·refine step i a b _ zs _ ha hb (e.trans s1) (s1 _ _ hH) λ v H3 s3 r3=>⟨s3 _ _ (s1 _ _ hH),by omega,min xs.length ys.length - (i+1),by omega,rfl,hlt,λ b' o q'=>?_,upd_same,by rw [aO,len]; rfl,λ j y ey=>?_⟩
   ·rw [i3 (i4 q' hp)]; exact s3 _ _ (s1 _ _ (e _ _ q'))
   ·have up:∀ b o,b≠p->H3 b=some o->upd H3 p (.lst (zs++[v])) b=some o:=λ b o hb q=>by rw [i3 hb]; exact q
    by_cases hj:j<zs.length
    ·rw [bK hj] at ey
     exact hR j y _ _ (pr j y ey) λ b o hb q=>up b o hb (s3 _ _ (s1 _ _ q))
    ·rw [bZ (by omega)] at ey
     have hj':j - zs.length=0:=by
      cases q:j - zs.length with
      | zero=>rfl
      | succ k=>rw [q] at ey; simp at ey
     rw [hj'] at ey;have:j=i:=by omega
     subst this;simp at ey;subst ey;exact hR j v _ _ r3 up
 ·have:i=min xs.length ys.length:=by omega
  subst this;exact .inl ⟨⟨xs,ys,e.sqB h1,e.sqB h2,by omega⟩,hd zs H e hH len pr⟩
theorem b0t (h1:SqB b1 K H1 l1 xs) (h2:SqB b2 K H1 l2 ys) (hp:H1 p=none) (hz:xs.length<sizeLine) (F:V->V->V)
  (step:∀ (i:Nat) x y H (N:VK),xs[i]?=some x->ys[i]?=some y->Same H1 H->N (F x y) H->te (((blkσ 2 fr σ).set 0 (some x)).set 1 (some y)) H N)
  (hd:∀ H,Same H1 H->H p=some (.lst (bB F xs ys))->D H):lcW 2 fr (a5m K 2 (V5 (O6 0) (V5 (O6 1) a6l))) te σ (Itg b1 b2 K l1 l2) H1 p D:=by
 refine a4K h1 h2 hp hz (λ i v _=>∀ x y,xs[i]?=some x->ys[i]?=some y->v=F x y) (λ _ _ _ _ r _=>r) (λ i x y H zs N hx hy e _ hN=>step i x y H N hx hy e (hN _ _ (Same.refl _) λ x' y' ex ey=>?_)) λ zs H e hH hl hr=>hd H e ?_
 ·rw [hx] at ex; rw [hy] at ey; cases ex; cases ey; rfl
 ·rw [hH]
  congr 2
  refine cK λ i=>?_
  by_cases hi:i<min xs.length ys.length
  ·have a1:i<zs.length:=by omega
   have a2:i<xs.length:=by omega
   have a3:i<ys.length:=by omega
   rw [aF a1,aF (by rw [eL]; exact hi),List.getElem_zipWith,hr i _ (aF a1) _ _ (aF a2) (aF a3)]
  ·rw [bH (by omega),bH (by rw [eL]; omega)]
theorem b3U {i1 i2:Nat} {tb:TS} {D:Ends} {H:Hp} (Pv:Nat->St->Hp->Prop) (h0:Pv 0 σ H) (hl:∀ i σ H,Pv i σ H->SqB b1 K H l1 xs/\SqB b2 K H l2 ys)
  (hs:∀ i x y σ H q,xs[i]?=some x->ys[i]?=some y->Pv i σ H->H q=none->tb { D with nx:=Pv (i+1),ct:=Pv (i+1),bk:=D.nx } ((σ.set i1 (some x)).set i2 (some y)) (upd H q (.tup [x,y]))) (hd:∀ σ H,Pv (min xs.length ys.length) σ H->D.nx σ H) :
  ∃ W:Nat->Nat->St->Hp->Prop,(∃ m,W 0 m σ H)/\∀ i m σ H,W i m σ H →
   ((Itg b1 b2 K l1 l2).stop i H/\D.nx σ H)\/((Itg b1 b2 K l1 l2).go i H/\∃ N:St->Hp->Prop,(∀ σ' H',N σ' H'->∃ m',m'<m/\W (i+1) m' σ' H')/\∀ x H',(Itg b1 b2 K l1 l2).yld i H x H'->a5m K 2 (V5 (O6 i1) (V5 (O6 i2) a6l)) x σ H' λ σ2 H2=>tb { D with nx:=N,ct:=N,bk:=D.nx } σ2 H2):=by
 refine ⟨λ i m σ H=>m=min xs.length ys.length - i/\i<=min xs.length ys.length/\Pv i σ H,⟨_,rfl,cB _,h0⟩,?_⟩;rintro i m σ H ⟨rfl,hi,p⟩;obtain ⟨q1,q2⟩:=hl i σ H p
 by_cases hlt:i<min xs.length ys.length
 ·have hx:i<xs.length:=by omega
  have hy:i<ys.length:=by omega
  refine .inr ⟨⟨xs,ys,xs[i],ys[i],q1,q2,aF hx,aF hy⟩,Pv (i+1),λ σ' H' p'=>⟨min xs.length ys.length - (i+1),by omega,rfl,hlt,p'⟩,λ u H' y=>?_⟩;obtain ⟨q,a,b,hq,rfl,rfl,hab⟩:=y;obtain ⟨ha,hb⟩:=hab xs ys q1 q2;exact ⟨q,_,rfl,SqT.of upd_same,rfl,_,_,rfl,_,_,rfl,rfl,hs i a b σ H q ha hb p hq⟩
 ·have:i=min xs.length ys.length:=by omega
  subst this;exact .inl ⟨⟨xs,ys,q1,q2,by omega⟩,hd σ H p⟩
end
def Ite (K:W.Frag) (l:Addr):It :=
  ⟨λ i H=>∃ xs x,SqL K H l xs/\xs[i]?=some x,
   λ i H x H'=>∃ p a,H p=none/\x=.ref p/\H'=upd H p (.tup [.int (i:Int),a])/\∀ xs,SqL K H l xs->xs[i]?=some a,
   λ i H=>∃ xs,SqL K H l xs/\xs.length<=i⟩
theorem a8x {P:Program} {w:World} {K:W.Frag} {elts:List Expr} {x1:Nat} {pos:Pos} {e it l:Addr} (hne:e≠it) (hle:l≠e) (hli:l≠it) :
  a6K P w K (.Tuple elts x1 pos) (Ite K l) [e,it] e (λ i h=>(∃ old,IsEnum h e it (i:Int) old)/\h.IsListIter it l i) where
 mem:=by simp
 obj:=λ i h st b hb=>by
  obtain ⟨⟨old,he⟩,⟨o1,e1,c1,d1⟩⟩:=st;simp only [aR,bY,or_false] at hb;rcases hb with rfl | rfl
  ·exact ⟨_,he,λ v q=>by cases q⟩
  ·exact ⟨o1,e1,λ v q=>by rw [d1] at q; cases q⟩
 keep:=λ i h h' st k=>by
  obtain ⟨⟨old,he⟩,h1⟩:=st;exact ⟨⟨old,k e (by simp) _ he⟩,h1.at λ o q=>k it (by simp) o q⟩
 item:=by
  intro X hP hw hK hc i pins s σ H E I hf st hg;subst hP hw hK;obtain ⟨xs,x,hq,hx⟩:=hg;obtain ⟨⟨old,he⟩,h1⟩:=st;obtain ⟨its,rv,p,_⟩:=I.list hq;obtain ⟨u,hu,ru⟩:=rv.get hx;refine wpAny_pyNext_enum_item he h1 p.isList (x:=u) (by simpa using hu) hne λ h' a1 a2 a3 a4 a5=>?_;refine ⟨_,rfl,wpAny_letOwnedTupleGo_enum (s:={ s with heap:=h',toks:=s.toks+1 }) a1 λ h'' he'' hs''=>?_⟩;have ie:s.heap.get? e=_:=he;obtain ⟨o1,ei,_⟩:=id h1;have neT:∀ b∈[e,it],b≠s.heap.objs.size:=λ b hb q=>by
   have:∃ o,s.heap.get? b=some o:=by
    simp only [aR,bY,or_false] at hb;rcases hb with rfl | rfl
    ·exact ⟨_,ie⟩
    ·exact ⟨_,ei⟩
   obtain ⟨o,ho⟩:=this;exact absurd (Heap.lt_size ho) (by rw [q]; exact cA _)
  have kk:∀ b o,b ∉ [e,it]->s.heap.get? b=some o->h''.get? b=some o:=λ b o hb q=>by
   simp only [aR,bY,or_false,not_or] at hb;exact hs''.extBut b o hb.1 (a5 b o hb.1 hb.2 q)
  have it'':h''.IsListIter it l (i+1):=a2.extBut hs''.extBut (aY hne);have hoF:∀ b∈[e,it],∃ o,h''.get? b=some o:=λ b hb=>by
   obtain ⟨o2,e2,_⟩:=it'';simp only [aR,bY,or_false] at hb;rcases hb with rfl | rfl
   ·exact ⟨_,he''⟩
   ·exact ⟨_,e2⟩
  have es:e≠s.heap.objs.size:=neT e (by simp);have tup:IsTup h'' s.heap.objs.size [Value.int (i:Int) s.toks,u].toArray:=⟨_,hs''.extBut _ _ (aY es) a3,rfl,0,rfl⟩;refine ⟨.ref s.heap.objs.size,upd H s.heap.objs.size (.tup [.int (i:Int),x]),(I.turnedLaid (h':=h'') hf kk hoF (aH _) (by show 2<=sizeLine; decide) (show Vals [.int (i:Int),x] [Value.int (i:Int) s.toks,u] from .cons ⟨_,rfl⟩ (.cons ru .nil)) tup).tok _,rfl,⟨_,x,I.fresh,rfl,rfl,λ xs' q1=>?_⟩,⟨⟨_,he''⟩,it''⟩,λ b hb=>?_⟩
  ·rw [I.list_inj q1 hq]; exact hx
  ·rw [i3 (neT b hb)]; exact (hf b hb).1
 done:=by
  intro X hP hw hK hc i pins s σ H E I hf st hg;subst hP hw hK;obtain ⟨xs,hq,hend⟩:=hg;obtain ⟨⟨old,he⟩,h1⟩:=st;obtain ⟨its,rv,p,_⟩:=I.list hq;have hl:=rv.length;refine wpAny_pyNext_enum_end (I.ok.hd hc) he h1 p.isList (by simp; omega) λ h' k=>⟨rfl,I.turnedAll hf λ b o hb q=>?_⟩;simp only [aR,bY,or_false,not_or] at hb;exact k b o hb.2 q
 self:=λ _ _ _ _ _ st h=>by
  obtain ⟨⟨old,he⟩,_⟩:=st;exact wpAny_pyIter_enum he h
def b4Q (K:W.Frag) (ta:TA):TI:=λ σ H R=>ta σ H λ vs H1=>∃ l,vs=[.ref l]/\(∃ xs,SqL K H1 l xs)/\R (Ite K l) H1
theorem a1f (K:W.Frag) {X:Cx} {a:Expr} {ta:TA} {p pos pos':Pos} {elts:List Expr} {x1:Nat} (hK:X.K=K) (hg:Gl X "enumerate") (hm:X.mg "enumerate"=none) (ha:PA X [a] ta) (hs:starEach [a] X.env=[(false,eval a X.env)]:=by rfl) (hs2:starEach ([]:List Expr) X.env=[]:=by rfl) :
  PI X (.Tuple elts x1 pos') (.Call (.Name "enumerate" p) [a] [] pos) (b4Q K ta):=by
 subst hK;intro pins s σ H R I h;refine Call_ (a0C I hg hm boot_enumerate (gD (C6 (ha pos pins s σ H _ I h) λ us s1 ⟨vs,H1,I1,r1,q1⟩=>?_) (by rw [hs,hs2]) (by rw [hs2]; rfl)));obtain ⟨l,e,⟨xs,q1⟩,q⟩:=q1;subst e;obtain ⟨u,rfl,ru⟩:=R9 r1
 cases ru;obtain ⟨its,rv,p,_⟩:=I1.list q1;have lt1:l<s1.heap.objs.size:=by obtain ⟨_,e,_⟩:=p.isList; exact Heap.lt_size e
 refine call_enumerate_list p.isList λ h' z1 z2 z3 k=>?_;have I2:Inv X pins σ H1 { s1 with heap:=h' }:=I1.kept (t':=s1.toks) k;refine wpAny_pyIter_enum z1 ?_;refine ⟨s1.heap.objs.size+1,[s1.heap.objs.size+1,s1.heap.objs.size],_,_,H1,rfl,I2,a8x (l:=l) (e:=s1.heap.objs.size+1) (it:=s1.heap.objs.size) (kF _) (bI (fM lt1)) (bI lt1),⟨⟨_,z1⟩,z2⟩,λ b hb=>?_,q⟩;have hb':s1.heap.objs.size<=b:=by
  simp only [aR,bY,or_false] at hb;rcases hb with rfl | rfl
  ·exact fK _
  ·exact aH _
 exact I1.fpOk hb' (I1.hok.fresh hb')
section
variable {xs ys:List V} {K:W.Frag} {l1 l2:Addr} {fr:List Nat} {te:TE} {σ:St} {H1:Hp} {p:Addr} {D:Hp->Prop}
theorem a0T {i1 i2:Nat} {tb:TS} {D:Ends} {H:Hp} (Pv:Nat->St->Hp->Prop) (h0:Pv 0 σ H) (hl:∀ i σ H,Pv i σ H->SqL K H l1 xs)
  (hs:∀ i x σ H q,xs[i]?=some x->Pv i σ H->H q=none->tb { D with nx:=Pv (i+1),ct:=Pv (i+1),bk:=D.nx } ((σ.set i1 (some (.int (i:Int)))).set i2 (some x)) (upd H q (.tup [.int (i:Int),x]))) (hd:∀ σ H,Pv xs.length σ H->D.nx σ H) :
  ∃ W:Nat->Nat->St->Hp->Prop,(∃ m,W 0 m σ H)/\∀ i m σ H,W i m σ H →
   ((Ite K l1).stop i H/\D.nx σ H)\/((Ite K l1).go i H/\∃ N:St->Hp->Prop,(∀ σ' H',N σ' H'->∃ m',m'<m/\W (i+1) m' σ' H')/\∀ x H',(Ite K l1).yld i H x H'->a5m K 2 (V5 (O6 i1) (V5 (O6 i2) a6l)) x σ H' λ σ2 H2=>tb { D with nx:=N,ct:=N,bk:=D.nx } σ2 H2):=by
 refine ⟨λ i m σ H=>m=xs.length - i/\i<=xs.length/\Pv i σ H,⟨_,rfl,cB _,h0⟩,?_⟩;rintro i m σ H ⟨rfl,hi,p⟩;have q1:=hl i σ H p
 by_cases hlt:i<xs.length
 ·refine .inr ⟨⟨xs,xs[i],q1,aF hlt⟩,Pv (i+1),λ σ' H' p'=>⟨xs.length - (i+1),by omega,rfl,hlt,p'⟩,λ u H' y=>?_⟩
  obtain ⟨q,a,hq,rfl,rfl,hab⟩:=y;have ha:=hab xs q1;exact ⟨q,_,rfl,SqT.of upd_same,rfl,_,_,rfl,_,_,rfl,rfl,hs i a σ H q ha p hq⟩
 ·have:i=xs.length:=by omega
  subst this;exact .inl ⟨⟨xs,q1,by omega⟩,hd σ H p⟩
end
theorem a9i {X:Cx} {tg iter:Expr} {w:Bool->TI} (h:∀ b,PI X tg iter (w b)):PI X tg iter (λ σ H R=>∃ b,w b σ H R):=λ pins s σ H R I ⟨b,q⟩=>h b pins s σ H R I q
end L2
namespace Fr
abbrev Q2:=Int×Int
def gI (a b:Int):Int:=(gS a b:Int)
def low (t b:Int):Q2:=(t / gI t b,b / gI t b)
def Q6 (f:Q2):Prop:=0<f.2/\gS f.1 f.2=1
theorem Z9 (a b:Int):0<=gI a b:=Int.natCast_nonneg _
theorem M8 (a b:Int):gI a b∣a:=Int.gcd_dvd_left ..
theorem B7 (a b:Int):gI a b∣b:=Int.gcd_dvd_right ..
theorem Z7 {a b:Int} (hb:0<b):0<gI a b:=by
 have h0:=Z9 a b
 by_cases z:gI a b=0
 ·have:=B7 a b
  rw [z,Int.zero_dvd] at this;omega
 ·omega
theorem b2T {a b:Int} (hb:0<b):gI a b<=b:=eY hb (B7 a b)
theorem a6T {c a b:Int} (h1:c∣a) (h2:c∣b):c∣gI a b:=Int.dvd_coe_gcd h1 h2
theorem a1G {a b:Int} (ha:0<=a) (hb:0<=b) (h1:a∣b) (h2:b∣a):a=b:=Int.dvd_antisymm ha hb h1 h2
theorem b1F (a b:Int):gI b (a % b)=gI a b:=by
 refine a1G (Z9 _ _) (Z9 _ _) (a6T ?_ (M8 _ _)) (a6T (B7 _ _) ?_)
 ·have h1:=M8 b (a % b)
  have h2:=B7 b (a % b);have:=Int.dvd_add (iQ (c:=a / b) h1) h2;rw [Int.mul_ediv_add_emod] at this;exact this
 ·have h1:=M8 a b
  have h2:=B7 a b;have:=Int.dvd_sub h1 (iQ (c:=a / b) h2);rw [Int.emod_def];exact this
theorem b1T (a:Int):gI a 0=a.natAbs:=by unfold gI; rw [Int.gcd_zero_right]
theorem T8 {t b:Int} (hb:0<b):0<(low t b).2:=by
 have h:=Z7 (a:=t) hb;obtain ⟨k,hk⟩:=B7 t b
 show 0<b / gI t b
 have e:b / gI t b=k:=by
  have:b / gI t b=(gI t b*k) / gI t b:=by rw [<- hk]
  rw [this,iR _ (by omega)]
 rw [e]
 by_cases z:0<k
 ·exact z
 ·have:=cF (aL h) (show 0 <= -k by omega)
  rw [cY] at this;omega
theorem J8 {t b:Int} (hb:0<b):t=gI t b*(low t b).1/\b=gI t b*(low t b).2 :=
 ⟨(iS (M8 t b)).symm,(iS (B7 t b)).symm⟩
theorem low_cross {t b:Int} (hb:0<b):(low t b).1*b=t*(low t b).2:=by
 obtain ⟨h1,h2⟩:=J8 (t:=t) hb;generalize gI t b=g at h1 h2;generalize low t b=f at h1 h2;rw [h1,h2]
 ac_rfl
theorem R8 {t b:Int} (hb:0<b):Q6 (low t b):=by
 refine ⟨T8 hb,?_⟩;obtain ⟨h1,h2⟩:=J8 (t:=t) hb;have hg:=Z7 (a:=t) hb;have q:gI t b*gI (low t b).1 (low t b).2∣gI t b*1:=by
  rw [dZ];refine a6T ?_ ?_
  ·have:=kH (gI t b) (M8 (low t b).1 (low t b).2)
   rw [<- h1] at this;exact this
  ·have:=kH (gI t b) (B7 (low t b).1 (low t b).2)
   rw [<- h2] at this;exact this
 have q2:gI (low t b).1 (low t b).2∣1:=Int.dvd_of_mul_dvd_mul_left (by omega) q;have q3:gI (low t b).1 (low t b).2=1:=a1G (Z9 _ _) (by decide) q2 (Int.one_dvd _);unfold gI at q3;omega
theorem a1Z {a b c:Int} (h:gS a b=1) (d:b∣a*c):b∣c:=by
 have h':Nat.Coprime b.natAbs a.natAbs:=by
  rw [Nat.coprime_comm]; exact h
 have d':b.natAbs∣a.natAbs*c.natAbs:=by rw [<- fP]; exact kJ.mpr d
 exact kJ.mp (h'.dvd_of_dvd_mul_left d')
theorem V9 {f g:Q2} (hf:Q6 f) (hg:Q6 g) (h:f.1*g.2=g.1*f.2):f=g:=by
 have d1:f.2∣g.2:=a1Z hf.2 ⟨g.1,by rw [h,aV]⟩;have d2:g.2∣f.2:=a1Z hg.2 ⟨f.1,by rw [<- h,aV]⟩;have e2:f.2=g.2:=a1G (aL hf.1) (aL hg.1) d1 d2;have e1:f.1=g.1:=by
  rw [e2] at h;exact gT (by have:=hg.1; omega) h
 exact kK e1 e2
theorem a2L {t b t' b':Int} (hb:0<b) (hb':0<b') (h:t*b'=t'*b):low t b=low t' b':=by
 refine V9 (R8 hb) (R8 hb') ?_;have c1:=low_cross (t:=t) hb;have c2:=low_cross (t:=t') hb';generalize low t b=x at c1 ⊢;generalize low t' b'=y at c2 ⊢;refine gT (a:=b*b') (by have:=cO hb hb'; omega) ?_
 calc x.1*y.2*(b*b')=(x.1*b)*(y.2*b'):=by ac_rfl
  _=(t*b')*(x.2*y.2):=by rw [c1]; ac_rfl
  _=(t'*y.2)*(b*x.2):=by rw [h]; ac_rfl
  _=(y.1*b')*(b*x.2):=by rw [c2]
  _=y.1*x.2*(b*b'):=by ac_rfl
theorem S8 {a m:Int} (ha:0<a) (hm:0<m) (h:m∣a):0<a / m/\m*(a / m)=a:=by
 have e:=iS h;refine ⟨?_,e⟩
 by_cases z:0<a / m
 ·exact z
 ·have:=cF (aL hm) (show 0 <= -(a / m) by omega)
  rw [cY] at this;omega
end Fr
namespace L2
open PySem PySem.Spec PyProof.Rows
abbrev a6g (X:Cx) (qual:Str) (scope:Scope) (f:Addr) (cd:Value) (C:Addr):Env:=W.envX qual scope C f cd (clo X.env scope.names [])
def a7v (X:Cx) (col:Str) (fr:List Nat) (qual:Str) (scope:Scope) (f:Addr) (cd:Value) (A':Around) (s₀:Shared) (H₀:Hp):Cx :=
  { X with N:=col::fr.map (λ j=>X.N.getD j ""),s₀:=s₀,H₀:=H₀,A:=A'.deeper (a6g X qual scope f cd s₀.heap.objs.size),env:=a6g X qual scope f cd s₀.heap.objs.size,outer:=X.stack,
           stack:=a6g X qual scope f cd s₀.heap.objs.size::X.stack,ex:=[],fn:=λ _=>false,pn:=[],xe:=λ _ _=>False }
section
variable {X:Cx} {pins:List (Addr×Obj)} {σ:St} {H:Hp} {s:Shared} {fr:List Nat} {scope:Scope} {col:Str} {qual:Str} {f:Addr} {cd:Value} {A':Around}
theorem Y8 {env:Env} {l:List (Str×NameKind)} {x:Str} {c:Addr} (e:(clo env l []).lookup x=some c):env.cells.lookup x=some c:=a1s (cs:=[]) (λ _ _ z=>by simp at z) e
theorem Inv.lam {h₁:Heap} {t':Nat} {v:V} {u:Value} (I:Inv X pins σ H s) (hA:A'.frames=some X.stack) (hh:A'.handled=X.A.handled) (hk:scope.kind=.function) (h:a1n X.env.scope scope X.N fr=true)
  (hcell:∀ x∈scope.names,x.2≠.cell) (hcol:scope.names.lookup col=some .local) (hns:h₁.Ns s.heap.objs.size λ x=>[(col,u)].reverse.lookup x) (hkeep:∀ b o,s.heap.get? b=some o->h₁.get? b=some o) (r:RelV v u) :
  Inv (a7v X col fr qual scope f cd A' s H) [] (some v::frv fr σ) H { s with heap:=h₁,toks:=t' } where
 ok:={
  mod:=I.ok.mod
  kind:=hk
  glob:=rfl
  blt:=rfl
  above:=aH _
  inj:=λ x y c e1 e2=>I.ok.inj x y c (Y8 e1) (Y8 e2)
  has:=λ x hx=>by
   have hx':scope.names.lookup x=some .cell\/scope.names.lookup x=some .free:=hx;rcases hx' with e | e
   ·exact absurd rfl (hcell _ (K9 e))
   ·exact a0m (W4 I h x (K9 e)) (K9 e)
  cab:=λ x c hx=>by cases (show false=true from hx)
  hd:=λ z=>by
   show A'.handled=none
   rw [hh];exact I.ok.hd z
  frames:=Around.frames_deeper hA
  stk:=.inr ⟨rfl,rfl⟩
  exf:=λ b hb=>by cases (show b∈([]:List Addr) from hb)
  bs:=I.bs
  bsz:=aZ I.ok.bsz I.sz
  noex:=λ b o _ hb=>by cases (show b∈([]:List Addr) from hb)
  exfs:=λ b hb=>by cases (show b∈([]:List Addr) from hb)
  funs:=I.stack
  frf:=I.stkFree }
 os:=rfl
 bare:=I.bare
 base:=Un.kept hkeep
 loc:=by
  refine ⟨_,hns,λ i x w e1 e2 _=>?_⟩
  cases i with
  | zero =>
   have hx:col=x:=aS e1;have hv:v=w:=aS (aS e2);subst hx;subst hv;exact ⟨u,r,.inl ⟨hcol,by simp [eN]⟩⟩
  | succ i =>
   have e1':(fr.map λ j=>X.N.getD j "")[i]?=some x:=e1;have e2':(fr.map λ j=>(σ[j]?).join)[i]?=some (some w):=e2;rw [aE] at e1' e2'
   cases q:fr[i]? with
   | none=>rw [q] at e1'; cases e1'
   | some j =>
    rw [q] at e1' e2';have hj:j∈fr:=aJ q;obtain ⟨hjl,hjc,hjf⟩:=b2G h j hj;have ex:X.N.getD j ""=x:=aS e1';have ev:(σ[j]?).join=some w:=aS e2';have hN:X.N[j]?=some x:=by
     rw [<- ex,aG,aF hjl]; rfl
    have hσ:σ[j]?=some (some w):=by
     cases r:σ[j]? with
     | none=>rw [r] at ev; cases ev
     | some y=>rw [r] at ev; exact congrArg some ev
    rw [ex] at hjc hjf;obtain ⟨m,_,hl⟩:=I.loc;obtain ⟨u',r',lk⟩:=hl j x w hN hσ (.inr (.inl hjc));refine ⟨u',r',?_⟩;have kc:Env.kindOf X.env x=some .cell:=hjc;rcases lk with ⟨k1,_⟩ | ⟨_,c,ec,o,ho',hd⟩
    ·rw [kc] at k1; cases k1
    ·obtain ⟨c',hc'⟩:=a0m (env:=X.env) (cs:=[]) ⟨c,ec⟩ (K9 hjf)
     have e3:=Y8 hc';rw [ec] at e3
     cases e3;exact .inr ⟨.inr hjf,c,hc',o,hkeep _ _ ho',hd⟩
 cell:=λ x c e=>by
  obtain ⟨v,o,ho',hd⟩:=I.cell x c (Y8 e);exact ⟨v,o,hkeep _ _ ho',hd⟩
 free:=I.hok.fresh (aH _)
 freeC:=λ x c e=>I.freeC x c (Y8 e)
 pin:=λ p hp=>by cases (show p∈([]:List (Addr×Obj)) from hp)
 hok:=I.hok.kept hkeep
 len:=by simp [frv,a7v]
def Quiet (X:Cx) (H:Hp) (s s':Shared):Prop:=∀ b o,s.heap.get? b=some o->H b=none->b≠X.env.locals->b ∉ X.fs->s'.heap.get? b=some o
theorem b0G {params:Arguments} {body:Expr} {pm ctv:Value} {c':Addr} {v k:V} {u:Value} {t:TE} {Q:Value->Shared->Prop} {E:Value->Shared->Prop} (I:Inv X pins σ H s) (hA:A'.frames=some X.stack) (hh:A'.handled=X.A.handled)
  (hroom:A'.depth<recursionLimit) (hk:scope.kind=.function) (h:a1n X.env.scope scope X.N fr=true)
  (hcell:∀ x∈scope.names,x.2≠.cell) (hcol:scope.names.lookup col=some .local) (hco:scope.isCoroutine=false) (hgen:scope.isGenerator=false)
  (hf:s.heap.get? f=some (W.kla_obj "<lambda>" qual params body scope (clo X.env scope.names []) pm c' ctv)) (hcd:s.heap.CodeRec (.ref c') qual)
  (hb:∀ u:Value,bindArgs (W.kla_fn "<lambda>" qual params body scope (clo X.env scope.names []) pm (.ref c') ctv) ⟨[u],[]⟩=pure [(col,u)])
  (hbody:PE (a7v X col fr qual scope f (.ref c') A' s H) body t) (r:RelV v u) (ht:t (some v::frv fr σ) H λ y H'=>y=k/\H'=H)
  (q:∀ y s',RelV k y->Inv X pins σ H s'->Quiet X H s s'->Q y s'):wpAny (model X.prog X.w) A' (call (.ref f) [u]) Q E s:=by
 refine wpAny_call (W.kla_callFunE hroom hf rfl hco hgen rfl hcd ?_);rw [hb u];refine wpAny_pure (wpAny_newFunctionEnv hcell (λ y hy=>?_) (λ h₁ hns hsb=>?_) hk)
 ·rw [bN.mp hy]; exact hcol
 ·have hk₁:∀ b o,s.heap.get? b=some o->h₁.get? b=some o:=λ b o e=>hsb.extBut b o (bI (Heap.lt_size e)) (Heap.get?_push_of_some _ e)
  refine ⟨I.nolimit.keeps hk₁,W.kla_codeExpr ?_⟩;have J:=I.lam (qual:=qual) (f:=f) (cd:=.ref c') (t':=s.toks+[(col,u)].length) hA hh hk h hcell hcol hns hk₁ r;refine wpAny_mono (hbody [] _ _ _ _ J ht) (λ y s' hy=>?_) λ e s' z=>cZ z;obtain ⟨w,H',J',rw',rfl,rfl⟩:=hy;have J2:Inv X pins σ H' s':=I.call' (ch:=[]) J'.os J'.base J'.hok J'.bare λ b hb=>by cases hb
  refine q y s' rw' J2 λ b o e n n1 n2=>?_;refine J'.base.keep b o e n (λ z=>?_) (by intro z; cases z);rcases aR.mp (I.stkSub b z) with w | w
  ·exact n1 w
  ·exact n2 w
end
def X5 (mg:Str->Option Value) (base:Heap):Prop:=∃ bm ob,mg "__builtins__"=some (.ref bm)/\bm≠builtinsNs/\base.get? bm=some ob/\ob.cls=.type "module"/\ob.dict=some builtinsNs/\ob.data=.plain
abbrev a3P (c:Addr) (qual:Str):HO:=.ext λ h=>h.CodeRec (.ref c) qual
def LamTab (P:Addr) (pos:Pos) (qual:Str) (H:Hp):Prop :=
 H P=some (.tbl #[])\/∃ c',H P=some (.tbl #[rawInt pos.line,rawInt pos.col,.ref c'])/\H c'=some (a3P c' qual)
def Same1 (P:Addr) (H H':Hp):Prop:=∀ b o,b≠P->H b=some o->H' b=some o
theorem LamTab.same {P:Addr} {pos:Pos} {qual:Str} {H H':Hp} (T:LamTab P pos qual H) (h:∀ b o,H b=some o->H' b=some o):LamTab P pos qual H':=by
 rcases T with e | ⟨c,e1,e2⟩
 ·exact .inl (h _ _ e)
 ·exact .inr ⟨c,h _ _ e1,h _ _ e2⟩
section
variable {X:Cx} {pins:List (Addr×Obj)} {σ:St} {H:Hp} {s:Shared} {fr:List Nat} {scope:Scope} {qual:Str} {c P:Addr} {params:Arguments} {body:Expr} {pos:Pos}
theorem b0m {K:Program} {w:World} {H:Hp} {h:Heap} {c:Addr} {o:Obj} (e:h.get? c=some o) (r:h.CodeRec (.ref c) qual):ObjOk K w H h c (a3P c qual) :=
 ⟨r,⟨o,e⟩,λ h1 h2 ⟨c',o',vs,t,z,g,q⟩ k=>by
  have z':c=c':=Value.ref.inj z;subst z';exact ⟨c,o',vs,t,rfl,k _ g,q⟩⟩
theorem Inv.grown {h':Heap} {t':Nat} {ps more:Array Value} {c':Addr} (I:Inv X pins σ H s) (hP:H P=some (.tbl ps)) (hx:Heap.ExtBut P s.heap h') (hge:s.heap.objs.size<=c') (hcr:h'.CodeRec (.ref c') qual)
  (htb:h'.get? P=some { cls:=.none,data:=.fields (ps++more) }):Inv X pins σ (upd (upd H P (.tbl (ps++more))) c' (a3P c' qual)) { s with heap:=h',toks:=t' }:=by
 have hPl:P<s.heap.objs.size:=I.hok.lt hP;have hPc:P≠c':=bI (bA hPl hge);have hcn:H c'=none:=I.hok.fresh hge;have atP:upd (upd H P (.tbl (ps++more))) c' (a3P c' qual) P=some (.tbl (ps++more)):=by rw [i3 hPc,upd_same]
 have nP:∀ b o,H b=some o->(∀ qs,o≠.tbl qs)->upd (upd H P (.tbl (ps++more))) c' (a3P c' qual) b=some o:=λ b o e n=>by
  rw [i3 (i4 e hcn),i3 (λ z=>by subst z; rw [e] at hP; exact n _ (aS hP))];exact e
 have neP:∀ b,H b=none->b≠P:=λ b n z=>by subst z; rw [hP] at n; cases n
 obtain ⟨cc,oc,vs,tt,z,gc,gr⟩:=id hcr;have z':c'=cc:=Value.ref.inj z;subst z';refine I.un ⟨λ b o e n _ _=>hx b o (neP b n) e,λ b o e n _ _=>⟨o.slots,hx b o (neP b n) e⟩,λ b o e n _=>?_,λ b o e _=>?_,λ b xs e=>nP b _ e (λ _=>nofun),λ b o u e=>nP b _ e (λ _=>nofun),λ b qs e=>?_⟩ λ b u e=>?_
 ·rw [i3 (bI (bA (Heap.lt_size e) hge)),i3 (neP b n)]; exact n
 ·by_cases hb:b=P
  ·subst hb; exact ⟨_,htb⟩
  ·exact ⟨o,hx b o hb e⟩
 ·by_cases hb:b=P
  ·subst hb
   rw [e] at hP
   cases hP;exact ⟨more,atP⟩
  ·refine ⟨#[],?_⟩
   rw [i3 (i4 e hcn),i3 hb,e]; simp
 ·by_cases hb:b=c'
  ·subst hb
   rw [upd_same] at e
   cases e;exact b0m gc hcr
  ·rw [i3 hb] at e
   by_cases hb2:b=P
   ·subst hb2
    rw [upd_same] at e
    cases e;exact htb
   ·rw [i3 hb2] at e
    refine (I.hok b u e).stay (λ d v hd g=>hx d v (λ z=>?_) g) (λ d g=>nP d _ g λ _=>nofun) λ d xs g=>nP d _ g λ _=>nofun;subst z;rcases hd with w | w
    ·exact hb2 w.symm
    ·rw [hP] at w; cases w
theorem b0a {Q:Value->Shared->Prop} {E:Value->Shared->Prop} (I:Inv X pins σ H s) (hcode:X.env.code=.ref c) (C:W.CodeHd X.base c P) (B:X5 X.mg X.base) (T:LamTab P pos (X.env.qual++"<lambda>") H)
  (h:a1n X.env.scope scope X.N fr=true) (hdef:defaultsOf params X.env=([],[]))
  (q:∀ f c' ctv pm H' s',Inv X ((f,W.kla_obj "<lambda>" (X.env.qual++"<lambda>") params body scope (clo X.env scope.names []) pm c' ctv)::pins) σ H' s'->LamTab P pos (X.env.qual++"<lambda>") H'->Same1 P H H' →
   H' c'=some (a3P c' (X.env.qual++"<lambda>"))->(∀ b,b<s.heap.objs.size->H b=none->H' b=none)->Q (.ref f) s') :
  wpAny (model X.prog X.w) X.A (eval (.Lambda params body scope pos) X.env) Q E s:=by
 have hcl:=E9 (W4 I h);have hg:s.heap.Ns mainGlobals X.mg:=I.mod.glob.keeps I.bk;obtain ⟨bm,ob,b1,b2,b3,b4,b5,b6⟩:=B;have Pg:∀ ps,s.heap.get? P=some (W.tabObj ps)->mainGlobals≠P:=λ ps e z=>by
  obtain ⟨o,es,ep,e1,hd,_⟩:=hg;rw [z,e] at e1; cases e1; cases hd
 have Pb:∀ ps,s.heap.get? P=some (W.tabObj ps)->bm≠P:=λ ps e z=>by
  have e1:=I.bk _ _ b3;rw [z,e] at e1; cases e1; cases b4
 have bg:bm≠mainGlobals:=λ z=>by
  obtain ⟨o,es,ep,e1,hd,_⟩:=I.mod.glob;rw [z,e1] at b3; cases b3; rw [hd] at b6; cases b6
 refine W.kla_eval hdef ?_;rcases T with T | ⟨c',T,Tc⟩
 ·have hP:s.heap.get? P=some (W.tabObj #[]):=I.hok P _ T
  refine W.kla_makeFunction (mg:=X.mg) hcl I.ok.glob hg hcode (C.keeps I.bk) hP trivial rfl (Pg _ hP) ⟨bm,ob,b1,b2,bg,Pb _ hP,I.bk _ _ b3,b4,b5,b6⟩ λ c' ctv h' tk hx hge hlt hrec htb=>?_;have J:=I.grown (t':=tk) (more:=#[rawInt pos.line,rawInt pos.col,.ref c']) T hx hge hrec htb;have hsz:s.heap.objs.size<=h'.objs.size:=aZ hge (dX hlt);have hPl:P<s.heap.objs.size:=I.hok.lt T;have J2:=J.kept (h':=h'.push (W.kla_obj "<lambda>" (X.env.qual++"<lambda>") params body scope (clo X.env scope.names []) ((X.mg "__name__").getD .none) c' ctv)) (t':=tk) λ b u e=>Heap.get?_push_of_some _ e;have hPc:P≠c':=bI (bA hPl hge);refine q _ c' ctv ((X.mg "__name__").getD .none) _ _ (J2.pins_of λ p hp=>?_) (.inr ⟨c',?_,upd_same⟩) (λ b o hb e=>?_) upd_same λ b hb e=>?_
  ·rcases aR.mp hp with rfl | hp
   ·refine ⟨Heap.get?_push_size _ rfl,J.hok.fresh (aH _),dY (bA I.lt hsz),I.nofs hsz,λ v=>nofun⟩
   ·exact J2.pin p (cN _ hp)
  ·rw [i3 hPc,upd_same]; rfl
  ·rw [i3 (i4 e (I.hok.fresh hge)),i3 hb]; exact e
  ·rw [i3 (bI (bA hb hge)),i3 (λ z=>by rw [z,T] at e; cases e)]; exact e
 ·have hP:s.heap.get? P=some (W.tabObj #[rawInt pos.line,rawInt pos.col,.ref c']):=I.hok P _ T
  have hf:codeAmong pos (#[rawInt pos.line,rawInt pos.col,Value.ref c']).toList=some (.ref c'):=by
   show codeAmong pos ([]++[rawInt pos.line,rawInt pos.col,Value.ref c'])=_
   exact codeAmong_snoc [] trivial rfl
  refine W.kla_makeFunctionHit (mg:=X.mg) hcl I.ok.glob hg hcode (C.keeps I.bk) hP trivial hf ⟨bm,ob,b1,b2,bg,Pb _ hP,I.bk _ _ b3,b4,b5,b6⟩ λ ctv h' tk hk hsz=>?_;have J:=I.kept (h':=h') (t':=tk) hk;have J2:=J.kept (h':=h'.push (W.kla_obj "<lambda>" (X.env.qual++"<lambda>") params body scope (clo X.env scope.names []) ((X.mg "__name__").getD .none) c' ctv)) (t':=tk) λ b u e=>Heap.get?_push_of_some _ e;refine q _ c' ctv ((X.mg "__name__").getD .none) _ _ (J2.pins_of λ p hp=>?_) (.inr ⟨c',T,Tc⟩) (λ b o hb e=>e) Tc λ b hb e=>e;rcases aR.mp hp with rfl | hp
  ·exact ⟨Heap.get?_push_size _ rfl,J.hok.fresh (aH _),dY (bA I.lt hsz),I.nofs hsz,λ v=>nofun⟩
  ·exact J2.pin p (cN _ hp)
end
section
variable {X:Cx} {pins:List (Addr×Obj)} {σ:St} {H:Hp} {l It S fq:Addr} {ns:List Int} {g:Int->Int} {R:Result->Shared->Prop}
theorem Quiet.fp {s s':Shared} {b:Addr} {o:Obj} (k:Quiet X H s s') (f:Y3 X pins H b) (e:s.heap.get? b=some o):s'.heap.get? b=some o:=k b o e f.1 f.2.1 f.2.2.1
theorem Inv.fpTurn {s:Shared} {h':Heap} {t':Nat} {b:Addr} (I:Inv X pins σ H s) (f:Y3 X pins H b) (k:∀ c o,c≠b->s.heap.get? c=some o->h'.get? c=some o):Inv X pins σ H { s with heap:=h',toks:=t' } :=
 I.turned k f.1 f.2.1 f.2.2.2.1 f.2.2.2.2.1 f.2.2.2.2.2
def b3u (ns:List Int) (g:Int->Int) (j:Nat) (cont:List Value):Prop :=
 (cont=[]/\j=0)\/∃ M vb kb,cont=[vb,kb]/\M∈ns/\RelV (.int M) vb/\RelV (.int (g M)) kb/\∀ a∈ns.take j,g M<=g a
abbrev a9P (X:Cx) (pins:List (Addr×Obj)) (σ:St) (H:Hp) (fq:Addr) (ns:List Int) (g:Int->Int):Prop :=
 ∀ n∈ns,∀ (u:Value) (s:Shared) (Q:Value->Shared->Prop) (E:Value->Shared->Prop),Inv X pins σ H s->RelV (.int n) u →
  (∀ y s',RelV (.int (g n)) y->Inv X pins σ H s'->Quiet X H s s'->Q y s')->wpAny (model X.prog X.w) X.A.in1 (call (.ref fq) [u]) Q E s
theorem b1K (hc:X.calm=true) (hl:SqL X.K H l (ns.map V.int)) (turn:a9P X pins σ H fq ns g) (fI:Y3 X pins H It) (fS:Y3 X pins H S) (hIS:It≠S) (hIl:l≠It)
  (hN:ns=[]->∀ s',Inv X pins σ H s'->R (.ok (.ret .none)) s') (hR:∀ M∈ns,(∀ a∈ns,g M<=g a)->∀ y s',RelV (.int M) y->Inv X pins σ H s'->R (.ok (.ret y)) s') :
  ∀ (r j:Nat) (s:Shared) (cont:List Value) (cn:Nat),ns.length - j=r->j<=ns.length->Inv X pins σ H s->s.heap.IsListIter It l j->s.heap.get? S=some (seqObj "list" cont.toArray cn)->b3u ns g j cont →
   codeAny (model X.prog X.w) X.A (.builtin "min.loop" ⟨[.ref It,.ref fq,.ref S],[("default",.none)]⟩) R s:=by
 have nm:(toString "min"++toString ".loop":String)="min.loop":=by decide
 have hh:∀ {s:Shared},Inv X pins σ H s->X.A.in1.handled=none:=λ I=>I.ok.hd hc;intro r
 induction r with
 | zero =>
  intro j s cont cn hr hj I hit hS hb;have hjn:j=ns.length:=by omega
  obtain ⟨its,rv,pl,hz⟩:=I.list hl;have W:=Walks.list (prog:=X.prog) (w:=X.w) (A:=X.A.in1) (hh I) It l hIl its.toArray;have hsz:its.toArray.size=ns.length:=by rw [bD,<- rv.length,aA]
  refine codeAny_builtin F.entry_min_loop ?_; rw [Around.under_plainId F.plain_min_loop _];refine wpAny_bind (wpAny_seqItems hS rfl ?_);rcases hb with ⟨rfl,rfl⟩ | ⟨M,vb,kb,rfl,hM,rM,rK,best⟩
  ·show wpAny _ X.A.in1 (tryCatch (pyNext (.ref It)) _ >>= _) _ _ _
   refine wpAny_bind (wpAny_tryCatch (W.done _ _ _ ⟨by rw [hsz,<- hjn]; exact hit,pl.isList⟩ λ h' tk' hk'=>?_));have J:=I.fpTurn (h':=h') (t':=tk') fI λ c o n e=>hk' c o (by simpa using n) e
   show wpAny _ X.A.in1 (rule _ >>= _) _ _ _
   exact wpAny_bind (wpAny_rule (wpAny_pure (hN (List.length_eq_zero_iff.mp hjn.symm) _ J)))
  ·show wpAny _ X.A.in1 (tryCatch (pyNext (.ref It)) _ >>= _) _ _ _
   refine wpAny_bind (wpAny_tryCatch (W.done _ _ _ ⟨by rw [hsz,<- hjn]; exact hit,pl.isList⟩ λ h' tk' hk'=>?_));have J:=I.fpTurn (h':=h') (t':=tk') fI λ c o n e=>hk' c o (by simpa using n) e;have hS':=hk' S _ (by simpa using hIS.symm) hS;have s1:=Heap.SameBut.update h' S (Obj.mapSeq λ _=>(#[]:Array Value))
   show wpAny _ X.A.in1 (updateSeq S (λ _=>#[]) >>= _) _ _ _
   refine wpAny_bind (wpAny_updateSeq hS' rfl (wpAny_bind (wpAny_letGo (wpAny_pure ?_))));exact hR M hM (λ a ha=>best a (by rw [hjn,List.take_length]; exact ha)) vb _ rM (J.fpTurn fS λ c o n e=>(s1.2 c n).trans e)
 | succ r ih =>
  intro j s cont cn hr hj I hit hS hb;have hlt:j<ns.length:=by omega
  obtain ⟨its,rv,pl,hz⟩:=I.list hl;have W:=Walks.list (prog:=X.prog) (w:=X.w) (A:=X.A.in1) (hh I) It l hIl its.toArray;have hsz:its.toArray.size=ns.length:=by rw [bD,<- rv.length,aA]
  refine codeAny_builtin F.entry_min_loop ?_; rw [Around.under_plainId F.plain_min_loop _];refine wpAny_bind (wpAny_seqItems hS rfl ?_);have go:∀ (old:List Value) (kx:Value->Sem (Option Value)) (B:Option Value->Sem iP) (Q:iP->Shared->Prop) (E:Value->Shared->Prop),
    (∀ v h' tk',RelV (.int ns[j]) v->Inv X pins σ H { s with heap:=h',toks:=tk' }->h'.IsListIter It l (j+1)->h'.get? S=some (seqObj "list" cont.toArray cn)->wpAny (model X.prog X.w) X.A.in1 (B (some v)) Q E { s with heap:=h',toks:=tk' }) →
    wpAny (model X.prog X.w) X.A.in1 (tryCatch (pyNext (.ref It)) kx >>= B) Q E s:=by
   intro old kx B Q E hB;refine wpAny_bind (wpAny_tryCatch (W.item j _ _ _ (by rw [hsz]; exact hlt) ⟨hit,pl.isList⟩ λ v h' tk' hP hst' hk'=>?_));have hv:(ns.map V.int)[j]?=some (V.int ns[j]):=by rw [aE,aF hlt]; rfl
   obtain ⟨u,hu,ru⟩:=rv.get hv;have hP':its[j]?=some v:=by simpa using hP
   rw [hu] at hP'
   cases hP';exact hB _ h' tk' ru (I.fpTurn fI λ c o n e=>hk' c o (by simpa using n) e) hst'.1 (hk' S _ (by simpa using hIS.symm) hS)
  have hn:ns[j]∈ns:=cD hlt;have tk1:∀ a∈ns.take (j+1),a∈ns.take j\/a=ns[j]:=λ a ha=>by
   rw [kB hlt] at ha;rcases aQ.mp ha with z | z
   ·exact .inl z
   ·exact .inr (bN.mp z)
  rcases hb with ⟨rfl,rfl⟩ | ⟨M,vb,kb,rfl,hM,rM,rK,best⟩
  ·show wpAny _ X.A.in1 (tryCatch (pyNext (.ref It)) _ >>= _) _ _ _
   refine go [] _ _ _ _ λ v h' tk' rv' J hit' hS'=>?_
   show wpAny _ X.A.in1 (tryCatch (holding [v] (call (.ref fq) [v])) _ >>= _) _ _ _
   refine wpAny_bind (wpAny_tryCatch (wpAny_holding (turn _ hn v _ _ _ J rv' λ y s2 ry J2 qu=>?_)));have hS2:=qu.fp fS hS';obtain ⟨oI,hoI,hoc,hod⟩:=hit';have hI2:=qu.fp fI hoI;have s1:=Heap.SameBut.update s2.heap S (Obj.mapSeq λ _=>#[v,y]);obtain ⟨c2,hc2⟩:∃ c2,(s2.heap.update S (Obj.mapSeq λ _=>#[v,y])).get? S=some (seqObj "list" #[v,y] c2):=⟨_,get?_update_seq hS2 λ _=>#[v,y]⟩
   show wpAny _ X.A.in1 (updateSeq S (λ _=>#[v,y]) >>= _) _ _ _
   refine wpAny_bind (wpAny_updateSeq hS2 rfl ?_);rw [nm];refine wpAny_pure ⟨plainId_quiet F.plain_min_loop _,ih (0+1) _ [v,y] c2 (by omega) hlt (J2.fpTurn fS λ c o n e=>(s1.2 c n).trans e) ⟨oI,(s1.2 It hIS).trans hI2,hoc,hod⟩ hc2 (.inr ⟨ns[0],v,y,rfl,hn,rv',ry,λ a ha=>?_⟩)⟩;rcases tk1 a ha with z | z
   ·simp at z
   ·rw [z]; exact bL _
  ·show wpAny _ X.A.in1 (tryCatch (pyNext (.ref It)) _ >>= _) _ _ _
   refine go [] _ _ _ _ λ v h' tk' rv' J hit' hS'=>?_
   show wpAny _ X.A.in1 (tryCatch (holding [v] (call (.ref fq) [v])) _ >>= _) _ _ _
   refine wpAny_bind (wpAny_tryCatch (wpAny_holding (turn _ hn v _ _ _ J rv' λ y s2 ry J2 qu=>?_)));have hS2:=qu.fp fS hS';obtain ⟨oI,hoI,hoc,hod⟩:=hit';have hI2:=qu.fp fI hoI;obtain ⟨t2,rfl⟩:=ry;obtain ⟨tb,rfl⟩:=rK
   show wpAny _ X.A.in1 (tryCatch (holding [v,.int (g ns[j]) t2] (richCompare .Lt (.int (g ns[j]) t2) (.int (g M) tb) >>= _)) _ >>= _) _ _ _
   refine wpAny_bind (wpAny_tryCatch (wpAny_holding (wpAny_bind (CmpOf.ints_lt (prog:=X.prog) (w:=X.w) (A:=X.A.in1) (P:=λ i v=>∃ t,v=.int ([g ns[j],g M].getD i 0) t) (λ i=>[g ns[j],g M].getD i 0) (λ i v h=>h) 0 1 _ _ _ _ _ ⟨t2,rfl⟩ ⟨tb,rfl⟩ ?_))));refine wpAny_bind (wpAny_holding (wpAny_truthy_bool (wpAny_bind (wpAny_letGo (wpAny_pure ?_)))));have e01:(λ i j_1=>decide ([g ns[j],g M].getD i 0<[g ns[j],g M].getD j_1 0)) 0 1=decide (g ns[j]<g M):=rfl;rw [e01]
   by_cases hb':g ns[j]<g M
   ·have s1:=Heap.SameBut.update s2.heap S (Obj.mapSeq λ _=>#[v,.int (g ns[j]) t2])
    obtain ⟨c2,hc2⟩:∃ c2,(s2.heap.update S (Obj.mapSeq λ _=>#[v,.int (g ns[j]) t2])).get? S=some (seqObj "list" #[v,.int (g ns[j]) t2] c2):=⟨_,get?_update_seq hS2 λ _=>#[v,.int (g ns[j]) t2]⟩;simp only [hb',decide_true,if_true];refine wpAny_bind (wpAny_updateSeq hS2 rfl (wpAny_bind (wpAny_letGo ?_)));rw [nm];refine wpAny_pure ⟨plainId_quiet F.plain_min_loop _,ih (j+1) _ [v,.int (g ns[j]) t2] c2 (by omega) hlt (J2.fpTurn fS λ c o n e=>(s1.2 c n).trans e) ⟨oI,(s1.2 It hIS).trans hI2,hoc,hod⟩ hc2 (.inr ⟨ns[j],v,_,rfl,hn,rv',⟨t2,rfl⟩,λ a ha=>?_⟩)⟩;rcases tk1 a ha with z | z
    ·have:=best a z; omega
    ·rw [z]; exact bL _
   ·simp only [hb',decide_false,jZ,if_false]
    refine wpAny_bind (wpAny_letGo ?_);rw [nm];refine wpAny_pure ⟨plainId_quiet F.plain_min_loop _,ih (j+1) _ [vb,.int (g M) tb] cn (by omega) hlt J2 ⟨oI,hI2,hoc,hod⟩ hS2 (.inr ⟨M,vb,_,rfl,hM,rM,⟨tb,rfl⟩,λ a ha=>?_⟩)⟩;rcases tk1 a ha with z | z
    ·exact best a z
    ·rw [z]; omega
theorem b1k {s:Shared} {Q:Value->Shared->Prop} {E:Value->Shared->Prop} (hc:X.calm=true) (I:Inv X pins σ H s) (hl:SqL X.K H l (ns.map V.int)) (turn:a9P X pins σ H fq ns g)
  (hN:ns=[]->∀ s',Inv X pins σ H s'->Q .none s') (hR:∀ M∈ns,(∀ a∈ns,g M<=g a)->∀ y s',RelV (.int M) y->Inv X pins σ H s'->Q y s') :
  wpAny (model X.prog X.w) X.A (call (.builtin "min") [.ref l] [("key",.ref fq),("default",.none)]) Q E s:=by
 have nm:(toString "min"++toString ".loop":String)="min.loop":=by decide
 have ha:argsOk "min" ⟨[.ref l],[("key",.ref fq),("default",.none)]⟩:=by unfold argsOk; rfl
 obtain ⟨its,rv,pl,hz⟩:=I.list hl;have hlt:l<s.heap.objs.size:=by obtain ⟨_,e,_⟩:=pl.isList; exact Heap.lt_size e
 refine kmk_tree F.kind_min F.plain_min F.entry_min ha ?_
 show wpAny _ X.A.in1 (Builtin.Builtins.bindParams "min" ["key","default"] 0 ⟨[],[("key",.ref fq),("default",.none)]⟩ >>= _) _ _ s
 refine wpAny_bind (wpAny_of_eq (show Builtin.Builtins.bindParams "min" ["key","default"] 0 ⟨[],[("key",.ref fq),("default",.none)]⟩=pure [some (.ref fq),some .none] from rfl) (wpAny_bind (wpAny_pure ?_)));refine wpAny_bind (wpAny_pyIter_list pl.isList (wpAny_bind (wpAny_newList ?_ (cB _))));rw [nm];have I1:=I.kept (h':=s.heap.push { cls:=.type "list_iterator",data:=.fields #[.ref l,.int 0 0] }) (t':=s.toks) λ b u e=>Heap.get?_push_of_some _ e;have I2:=I1.kept (h':=(s.heap.push { cls:=.type "list_iterator",data:=.fields #[.ref l,.int 0 0] }).push (seqObj "list" #[] 0)) (t':=s.toks) λ b u e=>Heap.get?_push_of_some _ e;have hS:(s.heap.push { cls:=.type "list_iterator",data:=.fields #[.ref l,.int 0 0] }).objs.size=s.heap.objs.size+1:=size_push' ..;have fI:Y3 X pins H s.heap.objs.size:=I.fpOk (aH _) (I.hok.fresh (aH _));have fS:Y3 X pins H (s.heap.push { cls:=.type "list_iterator",data:=.fields #[.ref l,.int 0 0] }).objs.size:=I.fpOk (by rw [hS]; omega) (I.hok.fresh (by rw [hS]; omega));refine wpAny_pure ⟨plainId_quiet F.plain_min_loop _,b1K hc hl turn fI fS (bI (by rw [hS]; exact eW _)) (bI hlt) hN hR _ 0 _ [] 0 rfl (cB _) I2 ⟨_,Heap.get?_push_of_some _ (Heap.get?_push_size _ rfl),rfl,rfl⟩ (Heap.get?_push_size _ rfl) (.inl ⟨rfl,rfl⟩)⟩
end
theorem SqL.same1 {K:W.Frag} {P:Addr} {pos:Pos} {qual:Str} {H H':Hp} {a:Addr} {xs:List V} (T:LamTab P pos qual H) (e:Same1 P H H') (h:SqL K H a xs):SqL K H' a xs:=by
 have ne:∀ o,H a=some o->(∀ ps,o≠.tbl ps)->a≠P:=λ o q n z=>by
  subst z;rcases T with t | ⟨c,t,_⟩
  ·rw [q] at t; exact n _ (aS t)
  ·rw [q] at t; exact n _ (aS t)
 rcases h with (h | ⟨o,h⟩) | h
 ·exact .inl (.inl (e _ _ (ne _ h λ _=>nofun) h))
 ·exact .inl (.inr ⟨o,e _ _ (ne _ h λ _=>nofun) h⟩)
 ·exact .inr h
def b1D (K:W.Frag) (P:Addr) (lpos:Pos) (qual:Str) (fr:List Nat) (t:TA) (tb:TE):TE:=λ σ H Q=>t σ H λ vs H1=>∃ (l:Addr) (ns:List Int) (g:Int->Int),vs=[.ref l]/\SqL K H1 l (ns.map V.int)/\LamTab P lpos qual H1 ∧
 ∀ H2,Same1 P H1 H2->LamTab P lpos qual H2->(∀ n∈ns,tb (some (.int n)::frv fr σ) H2 λ y H'=>y=.int (g n)/\H'=H2)/\(ns=[]->Q .non H2)/\∀ M∈ns,(∀ a∈ns,g M<=g a)->Q (.int M) H2
section
variable {X:Cx} {e body:Expr} {es:List Expr} {t:TA} {tb:TE} {fr:List Nat} {scope:Scope} {col:Str} {c P:Addr} {params:Arguments} {p pos lpos kp1 kp2 cp:Pos} {cj:Nat}
theorem a8X (hc:X.calm=true) (hr:Room 2 X.A) (hg:Gl X "min") (hm:X.mg "min"=none) (hcode:X.env.code=.ref c) (C:W.CodeHd X.base c P) (B:X5 X.mg X.base) (hlc:a1n X.env.scope scope X.N fr=true) (hk:scope.kind=.function)
  (hcell:∀ x∈scope.names,x.2≠.cell) (hcol:scope.names.lookup col=some .local) (hco:scope.isCoroutine=false) (hgen:scope.isGenerator=false)
  (hb:∀ (pm ctv:Value) (c':Addr) (u:Value),bindArgs (W.kla_fn "<lambda>" (X.env.qual++"<lambda>") params body scope (clo X.env scope.names []) pm (.ref c') ctv) ⟨[u],[]⟩=pure [(col,u)])
  (ha:PA X [e] t) (hbody:∀ (f:Addr) (cd:Value) (s:Shared) (H:Hp),PE (a7v X col fr (X.env.qual++"<lambda>") scope f cd X.A.in1 s H) body tb) (hdef:defaultsOf params X.env=([],[]):=by rfl)
  (he:backTo pos (starEach [e] X.env)=(false,eval e X.env)::backTo pos (starEach [] X.env):=by rfl) (hpl:(backTo pos (starEach [e] X.env)).any (·.1)=false:=by rfl) :
  PE X (.Call (.Name "min" p) [e] [⟨some "key",.Lambda params body scope lpos,kp1⟩,⟨some "default",.Constant .none cj cp,kp2⟩] pos) (b1D X.K P lpos (X.env.qual++"<lambda>") fr t tb):=by
 intro pins s σ H Q I h;refine wpAny_Call_Name_kw (a0C I hg hm (u:=.builtin "min") rfl ?_);refine mY (C6 (ha pos pins s σ H _ I h) λ us s1 ⟨vs,H1,I1,r,l,ns,g,ev,hl,T,q⟩=>?_) he hpl;subst ev;obtain ⟨u,rfl,ru⟩:=R9 r
 cases ru
 show wpAny _ _ (evalAll [(do let v <- eval (.Lambda params body scope lpos) X.env; standAt pos; pure v),(do let v <- eval (.Constant .none cj cp) X.env; standAt pos; pure v)]) _ _ s1
 refine wpAny_evalAll_cons (wpAny_bind (b0a I1 hcode C B T hlc hdef λ f c' ctv pm H2 s2 I2 T2 e2 Hc' _=>wpAny_bind (wpAny_standAt (wpAny_pure ?_))));refine wpAny_evalAll_cons (wpAny_bind (Constant_none (wpAny_bind (wpAny_standAt (wpAny_pure (wpAny_evalAll_nil ?_))))));obtain ⟨q1,q2,q3⟩:=q H2 e2 T2;have hl2:=hl.same1 T e2;have drop:∀ {po:Addr×Obj} {s'},Inv X (po::pins) σ H2 s'->Inv X pins σ H2 s':=λ J=>J.pins_of λ p hp=>J.pin p (cN _ (bS _ hp));have hd':X.A.in1.depth<recursionLimit:=by
  have z:X.A.in1.depth+3*1+5<recursionLimit:=hr.in1.dp;omega
 refine b1k (g:=g) hc I2 hl2 (λ n hn u s3 Q3 E3 I3 ru k3=>?_) (λ en s3 I3=>⟨.non,H2,drop I3,rfl,q2 en⟩) λ M hM hmin y s3 ry I3=>⟨.int M,H2,drop I3,ry,q3 M hM hmin⟩;obtain ⟨cr,_,_⟩:=I3.hok c' _ Hc';exact b0G (k:=.int (g n)) I3 I3.ok.frames rfl hd' hk hlc hcell hcol hco hgen (I3.pin _ (cN _ cE)).1 cr (hb pm ctv c') (hbody f (.ref c') s3 H2) ru (q1 n hn) k3
end
section
variable {X:Cx} {os:List Str} {fr:List Nat} {scope:Scope} {elt tg iter:Expr} {pos:Pos} {wi:TI} {g:TG} {te:TE}
theorem b3K {c:Expr} {tc:TT} {i:Nat} {x:Str} {pos' spos:Pos} (os:List Str) (fr:List Nat) (hN:X.N.Nodup) (hi':X.N[i]?=some x) (hx:X.env.scope.names.lookup x=some .local)
  (hc:X.calm=true) (hi:PI X tg iter wi) (hg:∀ C fp s₀ H₀,PG (blk X os fr scope C fp s₀ H₀) tg g) (ht:∀ C fp s₀ H₀,PT (blk X os fr scope C fp s₀ H₀) c tc) (he:∀ C fp s₀ H₀,PE (blk X os fr scope C fp s₀ H₀) elt te)
  (hsw:swapsWith (.ListComp elt [⟨tg,iter,[c],0⟩] scope pos) (some (.Name x pos')) spos.line X.env=pure true:=by rfl)
  (hk:scope.kind=.function:=by rfl) (hok:a1n X.env.scope scope X.N fr=true:=by rfl) (hs:∀ x,foldedSetIterable iter X.env x=pure x:=by intro _; rfl) :
  PS X (.Assign [.Name x pos'] (.ListComp elt [⟨tg,iter,[c],0⟩] scope pos) spos) (a8M (b4K os.length fr wi g tc te) (O6 i)):=by
 intro pins s σ H D I h;unfold a8M at h;rw [exec_Assign_Name_used _ _ _ _ hsw];refine wpAny_bind (wpAny_standAt (wpAny_bind ?_))
 show wpAny _ X.A (do let _ <- comprehension (.ListComp elt [⟨tg,iter,[c],0⟩] scope pos) scope X.env _ (newList []) false (eval iter X.env) (some (assign (.Name x pos') X.env))) _ _ s
 refine wpAny_bind (wpAny_mono (wpAny_comprehension_free (use:=some (assign (.Name x pos') X.env)) (Q:=λ _ s'=>SP X pins D .next s') rfl hs (E9 (W4 I hok)) hk (λ x hx hl=>by have:=(T0 hok x hx).1; rw [hl] at this; exact this)
  (C6 (hi pins s σ H _ I h) λ v s1 h1=>C6 h1 λ itv s2 h2=>?_)) (λ _ s' hq=>wpAny_pure (wpAny_pure hq)) λ _ _ e=>e)
 refine a1i (os:=os) (D:=λ p H'=>D.nx (σ.set i (some (.ref p))) H') (RR:=λ acc C=>compPost (model X.prog X.w) X.A X.xe (some (assign (.Name x pos') X.env)) (λ _ s'=>SP X pins D .next s') acc C) hc hg (λ _ _ _ _=>a5X (ht _ _ _ _)) he hk hok h2 ?_;intro p C s3 H3 s' H' I3 eC hn I' ⟨m,hm⟩ q
 show wpAny _ X.A (assign (.Name x pos') X.env (.ref p)) _ _ _
 refine wpAny_assign_Name (a1J (v:=.ref p) I' hN hi' (.inl hx) rfl (λ s'' I'' ⟨a,hsa,ha⟩=>?_) (.inr hx));have hCa:C≠a:=by
  rcases ha with e | e
  ·rw [e]; exact dY (by rw [<- eC]; exact I3.lt)
  ·obtain ⟨v,z⟩:=I3.cell x a e
   exact dY (by rw [<- eC]; exact z.lt)
 exact ⟨m,hm.sameBut hsa hCa,λ h' hs'=>⟨_,H',I3.letgo I'' hn (by omega) hs',q⟩⟩
theorem a5e (K:W.Frag) {e:Expr} {f:Str} {ta:TE} (h:X.K=K) (he:PE X e ta) (hb:attributeBase e f X.env (eval e X.env)=eval e X.env):PE X (.Attribute e f pos) (b5e K ta f):=by subst h; exact x6 he hb
end
section
variable {fr:List Nat} {tc:TT} {σ:St} {J:It} {H1:Hp} {p:Addr} {D:Hp->Prop} {xs:List V}
theorem b2i (hJ:a8q J H1 xs) (hp:H1 p=none) (hz:xs.length<sizeLine) (F:V->Bool)
  (step:∀ (i:Nat) x H (N:Bool->Hp->Prop),xs[i]?=some x->Same H1 H->N (F x) H->tc ((blkσ 1 fr σ).set 0 (some x)) H N)
  (hd:D (upd H1 p (.lst (xs.filter F)))):lcI 1 fr (O6 0) tc (a8j 0) σ J H1 p D:=by
 refine ⟨λ i m ys H=>m=xs.length - i/\i<=xs.length/\ys=(xs.take i).filter F/\H=upd H1 p (.lst ys),⟨xs.length,by simp,cB _,by simp,rfl⟩,?_⟩;rintro i m ys H ⟨rfl,hi,rfl,rfl⟩;have e:=Same.new (o:=.lst ((xs.take i).filter F)) hp
 by_cases hlt:i<xs.length
 ·refine .inr ⟨hJ.go i _ e hlt,λ x H' y=>?_⟩
  obtain ⟨rfl,hx⟩:=hJ.yld i _ x H' e hlt y;have tk:(xs.take (i+1)).filter F=(xs.take i).filter F++[x].filter F:=by rw [gR,hx,gU]; rfl
  refine ⟨Wk.set (by decide),step i x _ _ hx e ?_⟩
  cases hq:F x with
  | false =>
   rw [if_neg bX];refine ⟨xs.length - (i+1),by omega,rfl,hlt,?_,rfl⟩;rw [tk]; simp [hq]
  | true =>
   rw [if_pos rfl];refine ⟨x,?_,upd_same,?_,xs.length - (i+1),by omega,rfl,hlt,?_,a2A⟩
   ·show ((blkσ 1 fr σ).set 0 (some x))[0]?=some (some x)
    rw [cM (by simp [blkσ])]
   ·have h1:=eO F (xs.take i)
    rw [bU] at h1;omega
   ·rw [tk]; simp [hq]
 ·have:i=xs.length:=by omega
  subst this;refine .inl ⟨hJ.stop _ e,?_⟩;rw [eE (aH _)]; exact hd
end
section
variable {P:Program} {w:World} {K:W.Frag} {mg:Str->Option Value} {base:Heap}
theorem Fun.okC {x qual:Str} {st:Stmt} {f c:Addr} {fd:FuncData} {N ps:List Str} {k:Nat} {sp:Sp} (F:Fun K x qual st f fd) (hc:fd.code=.ref c) (S:m6 N ps (i5 st)) (len:∀ vs H Q E,sp vs H Q E->vs.length=ps.length)
  (hbody:∀ (A:Around) (outer:List Env) (s:Shared) (H:Hp) (vs:List V) (Q:VK) (E:XK),Room k (A.deeper (envOfC qual (i5 st) s.heap.objs.size f (.ref c)))->sp vs H Q E →
   ∃ t,PSs (M0 E4 P w K mg base N qual (i5 st) f (.ref c) A outer s H E).nox (v5 st) t/\t { nx:=λ _ H'=>Q .non H',rt:=Q } (Y6 N vs) H):FnOk P w K mg base E4 (k+1) f fd ps sp:=by
 obtain ⟨oc,od,kV,doc,pm,an,cdv,ct,osl,rfl,lk,hcd⟩:=F.ex;have e:cdv=.ref c:=hc;subst e;refine a9H lk hcd S len λ A outer s H vs Q E hr hsp=>?_;obtain ⟨t,h,q⟩:=hbody A outer s H vs Q E hr hsp;exact ⟨t,h.nox,q⟩
end
end L2
namespace L2
open PySem
section
variable {xs ys:List V} {K:W.Frag} {l1 l2:Addr} {fr:List Nat} {te:TE} {σ:St} {H1:Hp} {p:Addr} {D:Hp->Prop}
end
theorem P0 {G0:St->Hp->Prop} {σ:St} {H:Hp} (h:∀ G:St->Hp->Prop,G=G0->G σ H):G0 σ H:=h G0 rfl
section
variable {X:Cx} {st:Stmt} {rest:List Stmt} {t u:TS}
def b6l (t u:TS):TS:=λ D σ H=>∃ M:St->Hp->Prop,t { D with nx:=M } σ H/\∀ σ' H',M σ' H'->u D σ' H'
theorem m8 (h1:PS X st t) (h2:PSs X rest u):PSs X (st::rest) (b6l t u):=by
 intro pins s σ H D I ⟨M,h,hM⟩;refine wpAny_execs_cons (C6 (h1 pins s σ H { D with nx:=M } I h) λ f s1 q=>?_)
 cases f with
 | next =>
  obtain ⟨σ',H',I',q⟩:=q;exact h2 pins s1 σ' H' D I' (hM _ _ q)
 | ret v=>exact q
 | brk=>exact q
 | cont=>exact q
end
end L2
namespace Rim
open PySem L2
theorem a3r (xs:List V) (k:Nat) (h:k<=xs.length):M1 xs none (some (k:Int))=xs.take k:=by
 unfold M1;rw [HT.sIx_none,HT.sIx_nat,iT]
 congr 1
 omega
theorem a5q (xs:List V) (k:Nat) (h:k<=xs.length):M1 xs (some (k:Int)) none=xs.drop k:=by
 unfold M1;rw [HT.sIx_none,HT.sIx_nat,eZ h];exact eE (by rw [cW]; exact aH _)
end Rim
namespace L2
open PySem PySem.Spec PyProof.Rows
section
variable {X:Cx}
theorem a1Q:O8 X (.type "range") (λ vs H Q=>∃ j:Int,vs=[.int j]/\∀ p,H p=none->Q (.ref p) (upd H p (.rng 0 j))):=by
 intro pins s σ H vs us Q I r h;obtain ⟨j,rfl,q⟩:=h;obtain ⟨u,rfl,t,rfl⟩:=R9 r;refine call_range_1 ⟨.ref s.heap.objs.size,_,I.laid (o:=.rng 0 j) (λ b u e=>Heap.get?_push_of_some _ e) (aH _) ⟨_,_,_,Heap.get?_push_size _ rfl⟩,rfl,q _ (I.hok.fresh (aH _))⟩
theorem a8y:O8 X (.type "range") (λ vs H Q=>∃ i j:Int,vs=[.int i,.int j]/\∀ p,H p=none->Q (.ref p) (upd H p (.rng i j))):=by
 intro pins s σ H vs us Q I r h;obtain ⟨i,j,rfl,q⟩:=h;obtain ⟨u,v,rfl,⟨t,rfl⟩,t',rfl⟩:=a8Z r;refine call_range_2 ⟨.ref s.heap.objs.size,_,I.laid (o:=.rng i j) (λ b u e=>Heap.get?_push_of_some _ e) (aH _) ⟨_,_,_,Heap.get?_push_size _ rfl⟩,rfl,q _ (I.hok.fresh (aH _))⟩
theorem a3F:∀ (n:Nat) (acc:List Value) (F:Nat->Int),acc.length=n->(∀ j v,acc[j]?=some v->∃ t,v=Value.int (F j) t)->Vals ((aD n).map λ i=>V.int (F i)) acc
 | 0,[],_,_,_=>.nil
 | n+1,a::acc,F,hl,h=>by
  rw [kL,bJ,aM];refine .cons (h 0 a rfl) ?_;exact a3F n acc (λ i=>F (i+1)) (by simpa using hl) λ j v e=>h (j+1) v (by simpa using e)
theorem Q0 (hc:X.calm=true):O8 X (.type "list") (λ vs H Q=>∃ (p:Addr) (lo:Int) (n:Nat),vs=[.ref p]/\H p=some (.rng lo (lo+n))/\-(2 ^ 60)<=lo/\lo<2 ^ 60/\n<=1000/\∀ l,H l=none->Q (.ref l) (upd H l (.lst ((aD n).map λ (i:Nat)=>V.int (lo+(i:Int)))))):=by
 intro pins s σ H vs us Q I r h;obtain ⟨p,lo,n,rfl,hp,h1,h2,hn,q⟩:=h;obtain ⟨u,rfl,ru⟩:=R9 r
 cases ru;obtain ⟨t,u,v,e⟩:=I.hok p _ hp;have hsz:Builtin.Range.rangeSize lo (lo+n) 1=n:=by rw [rangeSize_one]; split <;> omega
 refine call_list_range (I.ok.hd hc) e (small_one (by omega) (by omega) (by omega) (by omega)) hsz (by omega) λ h' tk acc' c' hk hS hacc=>?_;have hv:Vals ((aD n).map λ (i:Nat)=>V.int (lo+(i:Int))) acc'.toList:=a3F n acc'.toList (λ i=>lo+(i:Int)) (by simpa using hacc.1) λ j v e=>by
  obtain ⟨t,et⟩:=hacc.2 j v (by simpa using e);exact ⟨t,by rw [et,dZ]⟩
 have h9:n<=sizeLine:=aZ hn (by decide);refine ⟨.ref s.heap.objs.size,_,I.laid (o:=.lst ((aD n).map λ (i:Nat)=>V.int (lo+(i:Int)))) (t':=tk) hk (aH _) ⟨by simpa using h9,acc'.toList,c',hv,by simpa using hS⟩,rfl,q _ (I.hok.fresh (aH _))⟩
end
end L2
namespace Lp
abbrev C9:=Nat->Int
def tl (v:C9):C9:=λ i=>v (i+1)
def W9 (a:Int) (u:C9) (b:Int) (v:C9):C9:=λ i=>a*u i+b*v i
def Q5 (D:List C9->Int):List C9->List C9->Int
 | _,[]=>0
 | pre,c::rest=>c 0*D ((pre++rest).map tl) - Q5 D (pre++[c]) rest
def C3:Nat->List C9->Int
 | 0,_=>1
 | n+1,cols=>Q5 (C3 n) [] cols
def Lin (n:Nat) (D:List C9->Int):Prop:=∀ (a:Int) (u:C9) (b:Int) (v:C9) (xs ys:List C9),xs.length+ys.length+1=n->D (xs++W9 a u b v::ys)=a*D (xs++u::ys)+b*D (xs++v::ys)
theorem a7Y (a:Int) (u:C9) (b:Int) (v:C9):tl (W9 a u b v)=W9 a (tl u) b (tl v):=rfl
theorem b4w (a b x y p q:Int) (c:Int):c*(a*x+b*y) - (a*p+b*q)=a*(c*x - p)+b*(c*y - q):=by
 rw [fQ,fR,fR];have e1:c*(a*x)=a*(c*x):=by rw [<- aW,aV c a,aW]
 have e2:c*(b*y)=b*(c*y):=by rw [<- aW,aV c b,aW]
 rw [e1,e2];lia
theorem a7d {n:Nat} {D:List C9->Int} (h:Lin n D) (a:Int) (u:C9) (b:Int) (v:C9):∀ (rest p1 p2:List C9),p1.length+p2.length+rest.length=n →
  Q5 D (p1++W9 a u b v::p2) rest=a*Q5 D (p1++u::p2) rest+b*Q5 D (p1++v::p2) rest
 | [],p1,p2,_=>by simp [Q5]
 | c::rest,p1,p2,hl=>by
  have hl':p1.length+p2.length+(rest.length+1)=n:=hl;have ih:=a7d h a u b v rest p1 (p2++[c]) (by rw [aO,dN]; lia);have h0:=h a (tl u) b (tl v) (p1.map tl) ((p2++rest).map tl) (by rw [aA,aA,aO]; lia);unfold Q5;simp only [cX,dA,bC,bJ,a7Y] at h0 ih ⊢;rw [h0,ih];exact b4w ..
theorem b6h (a b x y p q D:Int):(a*x+b*y)*D - (a*p+b*q)=a*(x*D - p)+b*(y*D - q):=by
 rw [cL,fR,fR,aW,aW];lia
theorem a5A {n:Nat} {D:List C9->Int} (h:Lin n D) (a:Int) (u:C9) (b:Int) (v:C9):∀ (r1 pre r2:List C9),pre.length+r1.length+r2.length=n →
  Q5 D pre (r1++W9 a u b v::r2)=a*Q5 D pre (r1++u::r2)+b*Q5 D pre (r1++v::r2)
 | [],pre,r2,hl=>by
  have hp:=a7d h a u b v r2 pre [] (by simp only [gH] at hl ⊢; lia);simp only [eX];unfold Q5;rw [hp];exact b6h ..
 | c::r1,pre,r2,hl=>by
  have hl':pre.length+(r1.length+1)+r2.length=n:=hl;have ih:=a5A h a u b v r1 (pre++[c]) r2 (by rw [aO,dN]; lia);have h0:=h a (tl u) b (tl v) ((pre++r1).map tl) (r2.map tl) (by rw [aA,aA,aO]; lia);simp only [dA];unfold Q5;simp only [cX,dA,bC,bJ,a7Y] at h0 ih ⊢;rw [h0,ih];exact b4w ..
theorem a4u:∀ n,Lin n (C3 n)
 | 0=>λ a u b v xs ys h=>by lia
 | n+1=>λ a u b v xs ys h=>a5A (a4u n) a u b v xs [] ys (by simp only [gH]; lia)
def Adj (n:Nat) (D:List C9->Int):Prop:=∀ (u:C9) (xs ys:List C9),xs.length+ys.length+2=n->D (xs++u::u::ys)=0
theorem a7x {n:Nat} {D:List C9->Int} (h:Adj n D) (u:C9):∀ (rest p1 p2:List C9),p1.length+p2.length+rest.length+1=n->Q5 D (p1++u::u::p2) rest=0
 | [],_,_,_=>rfl
 | c::rest,p1,p2,hl=>by
  have hl':p1.length+p2.length+(rest.length+1)+1=n:=hl;have ih:=a7x h u rest p1 (p2++[c]) (by rw [aO,dN]; lia);have h0:=h (tl u) (p1.map tl) ((p2++rest).map tl) (by rw [aA,aA,aO]; lia);unfold Q5;simp only [cX,dA,bC,bJ] at h0 ih ⊢;rw [h0,ih];lia
theorem a5n {n:Nat} {D:List C9->Int} (h:Adj n D) (u:C9):∀ (r1 pre r2:List C9),pre.length+r1.length+r2.length+1=n->Q5 D pre (r1++u::u::r2)=0
 | [],pre,r2,hl=>by
  have hp:=a7x h u r2 pre [] (by simp only [gH] at hl ⊢; lia);simp only [eX];unfold Q5;unfold Q5;simp only [cX,dA,eX] at hp ⊢;rw [hp];lia
 | c::r1,pre,r2,hl=>by
  have hl':pre.length+(r1.length+1)+r2.length+1=n:=hl;have ih:=a5n h u r1 (pre++[c]) r2 (by rw [aO,dN]; lia);have h0:=h (tl u) ((pre++r1).map tl) (r2.map tl) (by rw [aA,aA,aO]; lia);simp only [dA];unfold Q5;simp only [cX,dA,bC,bJ] at h0 ih ⊢;rw [h0,ih];lia
theorem a4R:∀ n,Adj n (C3 n)
 | 0=>λ u xs ys h=>by lia
 | n+1=>λ u xs ys h=>a5n (a4R n) u xs [] ys (by simp only [gH]; lia)
def U7 (k:Nat):C9:=λ i=>if i=k then 1 else 0
theorem a9q {D:List C9->Int}:∀ (rest pre:List C9),(∀ c∈rest,c 0=0)->Q5 D pre rest=0
 | [],_,_=>rfl
 | c::rest,pre,h=>by
  unfold Q5;rw [h c cE,a9q rest (pre++[c]) λ x hx=>h x (bS _ hx)];lia
theorem a0X:∀ n,C3 n ((aD n).map U7)=1
 | 0=>rfl
 | n+1=>by
  show Q5 (C3 n) [] ((aD (n+1)).map U7)=1
  rw [kL,bJ,aM];unfold Q5;rw [a9q _ _ (λ c hc=>by
   obtain ⟨k,_,rfl⟩:=aK.mp hc;rfl)]
  have e:([]++(aD n).map (U7 ∘ Nat.succ)).map tl=(aD n).map U7:=by
   rw [eX,aM];refine cP λ k _=>?_
   funext i
   show (if i+1=k+1 then (1:Int) else 0)=if i=k then 1 else 0
   by_cases c:i=k
   ·rw [if_pos (by lia),if_pos c]
   ·rw [if_neg (by lia),if_neg c]
  rw [e,a0X n];rfl
def bnd (M:Nat):Nat->Nat
 | 0=>1
 | n+1=>(n+1)*(M*bnd M n)
def Fits (M n:Nat) (v:C9):Prop:=∀ i,i<n->(v i).natAbs<=M
theorem a7K {D:List C9->Int} {M n B:Nat} (hD:∀ cols,cols.length=n->(∀ c∈cols,Fits M n c)->(D cols).natAbs<=B):∀ (rest pre:List C9),pre.length+rest.length=n+1->(∀ c∈pre,Fits M (n+1) c)->(∀ c∈rest,Fits M (n+1) c)->(Q5 D pre rest).natAbs<=rest.length*(M*B)
 | [],_,_,_,_=>by simp [Q5]
 | c::rest,pre,hl,hp,hr=>by
  have hl':pre.length+(rest.length+1)=n+1:=hl;have h1:=a7K hD rest (pre++[c]) (by rw [aO,dN]; lia) (λ x hx=>(aQ.mp hx).elim (hp x) λ z=>by rw [bN.mp z]; exact hr c cE) λ x hx=>hr x (bS _ hx);have h2:=hD ((pre++rest).map tl) (by rw [aA,aO]; lia) λ x hx=>by
   obtain ⟨y,hy,rfl⟩:=aK.mp hx;intro i hi;rcases aQ.mp hy with z | z
   ·exact hp y z (i+1) (by lia)
   ·exact hr y (bS _ z) (i+1) (by lia)
  have h3:=hr c cE 0 (by lia);unfold Q5;rw [dM,gM];have h4:(c 0*D ((pre++rest).map tl)).natAbs<=M*B:=by rw [fP]; exact Nat.mul_le_mul h3 h2
  have h5:=Int.natAbs_sub_le (c 0*D ((pre++rest).map tl)) (Q5 D (pre++[c]) rest);lia
theorem a4n {M:Nat}:∀ (n:Nat) (cols:List C9),cols.length=n->(∀ c∈cols,Fits M n c)->(C3 n cols).natAbs<=bnd M n
 | 0,_,_,_=>aH 1
 | n+1,cols,hl,hf=>by
  have:=a7K (a4n (M:=M) n) cols [] (by simpa using hl) (λ c hc=>by cases hc) hf;rw [hl] at this;exact this
theorem a5g {α:Type} {C:List α} {i:Nat} {u:α} (h:C[i]?=some u):C=C.take i++u::C.drop (i+1):=by
 obtain ⟨hi,rfl⟩:=aU.mp h;rw [<- List.drop_eq_getElem_cons hi,List.take_append_drop]
theorem b0F (n:Nat) (u v:C9) (xs ys:List C9) (hl:xs.length+ys.length+2=n):C3 n (xs++u::v::ys) = - C3 n (xs++v::u::ys):=by
 have L:=a4u n;have A:=a4R n;have h0:=A (W9 1 u 1 v) xs ys hl;have h1:=L 1 u 1 v xs (W9 1 u 1 v::ys) (by simp only [dM]; lia);have h2:=L 1 u 1 v (xs++[u]) ys (by simp only [aO,dN]; lia);have h3:=L 1 u 1 v (xs++[v]) ys (by simp only [aO,dN]; lia);have h4:=A u xs ys hl;have h5:=A v xs ys hl;simp only [cX,dA,eX] at h2 h3;lia
theorem a7R (n:Nat) (u:C9):∀ (zs xs ys:List C9),xs.length+zs.length+ys.length+2=n->C3 n (xs++u::(zs++u::ys))=0
 | [],xs,ys,hl=>a4R n u xs ys (by simp only [gH] at hl; lia)
 | z::zs,xs,ys,hl=>by
  have hl':xs.length+(zs.length+1)+ys.length+2=n:=hl;rw [dA,b0F n u z xs (zs++u::ys) (by simp only [aO,dM]; lia)];have:=a7R n u zs (xs++[z]) ys (by rw [aO,dN]; lia);simp only [cX,dA,eX] at this;lia
theorem a7A {n:Nat} {C:List C9} {i k:Nat} {u:C9} (hl:C.length=n) (hik:i<k) (h1:C[i]?=some u) (h2:C[k]?=some u):C3 n C=0:=by
 have e1:=a5g h1;have hk:k<C.length:=(aU.mp h2).1;have h3:(C.drop (i+1))[k - (i+1)]?=some u:=by rw [gW,show i+1+(k - (i+1))=k by lia]; exact h2
 have e2:=a5g h3;rw [e1,e2];refine a7R n u _ _ _ ?_;simp only [bU,cW];lia
theorem Z3 {n:Nat} {C:List C9} {i k:Nat} {u:C9} (hl:C.length=n) (hik:i≠k) (h1:C[i]?=some u) (h2:C[k]?=some u):C3 n C=0:=by
 rcases kM hik with h | h
 ·exact a7A hl h h1 h2
 ·exact a7A hl h h2 h1
theorem a1I {α:Type} {C:List α} {k:Nat} (h:k<C.length) (u:α):C.set k u=C.take k++u::C.drop (k+1):=by
 rw [List.set_eq_take_append_cons_drop,if_pos h]
theorem W3 {n:Nat} {C:List C9} {k:Nat} (hl:C.length=n) (hk:k<n) (a:Int) (u:C9) (b:Int) (v:C9):C3 n (C.set k (W9 a u b v))=a*C3 n (C.set k u)+b*C3 n (C.set k v):=by
 have hk':k<C.length:=by lia
 rw [a1I hk',a1I hk',a1I hk'];refine a4u n a u b v _ _ ?_;simp only [bU,cW];lia
theorem a4N {n:Nat} {C:List C9} {i k:Nat} (hl:C.length=n) (hi:i<n) (hk:k<n) (hik:i≠k) (u:C9):C3 n ((C.set i u).set k u)=0:=by
 refine Z3 (i:=i) (k:=k) (u:=u) (by rw [cJ,cJ]; exact hl) hik ?_ ?_
 ·rw [bV (aY hik),cM (by lia)]
 ·rw [cM (by rw [cJ]; lia)]
theorem a5S {n:Nat} {C:List C9} {i k:Nat} (hl:C.length=n) (hi:i<n) (hk:k<n) (hik:i≠k) (u v:C9):C3 n ((C.set i u).set k v) = - C3 n ((C.set i v).set k u):=by
 have h0:=a4N hl hi hk hik (W9 1 u 1 v);have h1:=W3 (C:=C.set i (W9 1 u 1 v)) (by rw [cJ]; exact hl) hk 1 u 1 v;have h2:=W3 (C:=C.set k u) (by rw [cJ]; exact hl) hi 1 u 1 v;have h3:=W3 (C:=C.set k v) (by rw [cJ]; exact hl) hi 1 u 1 v;have h4:=a4N hl hi hk hik u;have h5:=a4N hl hi hk hik v;rw [fH _ _ (aY hik),fH _ _ (aY hik),fH _ _ (aY hik)] at h2 h3;lia
def sumTo (g:Nat->Int):Nat->Int
 | 0=>0
 | n+1=>sumTo g n+g n
theorem sum_congr {g h:Nat->Int}:∀ {n:Nat},(∀ k,k<n->g k=h k)->sumTo g n=sumTo h n
 | 0,_=>rfl
 | n+1,e=>by
  show sumTo g n+g n=sumTo h n+h n
  rw [sum_congr λ k hk=>e k (by lia),e n (by lia)]
theorem sum_zero {g:Nat->Int} {n:Nat} (h:∀ k,k<n->g k=0):sumTo g n=0:=by
 induction n with
 | zero=>rfl
 | succ n ih =>
  show sumTo g n+g n=0
  rw [ih λ k hk=>h k (by lia),h n (by lia)];rfl
theorem sum_one {g:Nat->Int} {n r:Nat} (hr:r<n) (h:∀ k,k<n->k≠r->g k=0):sumTo g n=g r:=by
 induction n with
 | zero=>lia
 | succ n ih =>
  show sumTo g n+g n=g r
  by_cases c:r=n
  ·subst c
   rw [sum_zero λ k hk=>h k (by lia) (by lia)];lia
  ·rw [ih (by lia) λ k hk hn=>h k (by lia) hn,h n (by lia) (by lia)]
   lia
theorem T7 {g h:Nat->Int}:∀ n:Nat,sumTo (λ k=>g k+h k) n=sumTo g n+sumTo h n
 | 0=>rfl
 | n+1=>by
  show sumTo (λ k=>g k+h k) n+(g n+h n)=sumTo g n+g n+(sumTo h n+h n)
  rw [T7 n];lia
theorem A5 {g:Nat->Int} (a:Int):∀ n:Nat,sumTo (λ k=>a*g k) n=a*sumTo g n
 | 0=>(bM a).symm
 | n+1=>by
  show sumTo (λ k=>a*g k) n+a*g n=a*(sumTo g n+g n)
  rw [A5 a n,fQ]
theorem b1m {g:Nat->Int} {n r i:Nat} (hr:r<n) (hi:i<n) (hne:r≠i) (h:∀ k,k<n->k≠r->k≠i->g k=0):sumTo g n=g r+g i:=by
 have e:sumTo g n=sumTo (λ k=>(if k=r then g k else 0)+(if k=i then g k else 0)) n:=sum_congr λ k hk=>by
  by_cases c1:k=r
  ·rw [if_pos c1,if_neg (by lia)]; lia
  ·by_cases c2:k=i
   ·rw [if_neg c1,if_pos c2]; lia
   ·rw [if_neg c1,if_neg c2,h k hk c1 c2]; lia
 rw [e,T7,sum_one hr λ k _ hn=>if_neg hn,sum_one hi λ k _ hn=>if_neg hn,if_pos rfl,if_pos rfl]
theorem a2s {n:Nat} {C:List C9} {k:Nat} (hl:C.length=n) (hk:k<n) (t:Nat->Int) (W:Nat->C9):∀ m:Nat,C3 n (C.set k (λ x=>sumTo (λ j=>t j*W j x) m))=sumTo (λ j=>t j*C3 n (C.set k (W j))) m
 | 0=>by
  have h:=W3 hl hk 0 (λ _=>0) 0 (λ _=>0);have e:W9 0 (λ _=>0) 0 (λ _=>0)=(λ x:Nat=>sumTo (λ j=>t j*W j x) 0):=by funext x; simp [W9,sumTo]
  rw [e] at h;rw [h];simp [sumTo]
 | m+1=>by
  have h:=W3 hl hk 1 (λ x=>sumTo (λ j=>t j*W j x) m) (t m) (W m);have e:W9 1 (λ x=>sumTo (λ j=>t j*W j x) m) (t m) (W m)=(λ x:Nat=>sumTo (λ j=>t j*W j x) (m+1)):=by funext x; simp [W9,sumTo]
  rw [e,a2s hl hk t W m] at h;rw [h]
  show 1*sumTo _ m+_=sumTo _ m+_
  rw [dP]
def zv:C9:=λ _=>0
def a6a (n:Nat) (B:List C9) (u:C9):Prop:=∀ x,C3 n B*u x=sumTo (λ k=>C3 n (B.set k u)*(B.getD k zv) x) n
theorem a4m {B:List C9} {k:Nat} (h:k<B.length):B[k]?=some (B.getD k zv):=by rw [aG,aF h]; rfl
theorem S7 {B:List C9} {k:Nat} (h:k<B.length):B.set k (B.getD k zv)=B:=by
 have e:B.getD k zv=B[k]:=by rw [aG,aF h]; rfl
 rw [e,List.set_getElem_self]
theorem plu {n:Nat} {B:List C9} {r i:Nat} (hl:B.length=n) (hr:r<n) (hi:i<n) (hne:i≠r) {u:C9} (v:C9) (hc:a6a n B u) :
  C3 n B*C3 n ((B.set r u).set i v)=C3 n (B.set r u)*C3 n (B.set i v) - C3 n (B.set i u)*C3 n (B.set r v):=by
 have hl':(B.set i v).length=n:=by rw [cJ]; exact hl
 have e1:C3 n ((B.set i v).set r (W9 (C3 n B) u 0 u))=C3 n B*C3 n ((B.set i v).set r u):=by
  rw [W3 hl' hr]; lia
 have e2:W9 (C3 n B) u 0 u=(λ x:Nat=>sumTo (λ k=>C3 n (B.set k u)*(B.getD k zv) x) n):=by
  funext x
  rw [<- hc x];unfold W9;lia
 rw [e2,a2s hl' hr (λ k=>C3 n (B.set k u)) (λ k=>B.getD k zv) n] at e1;rw [fH _ _ (aY hne),<- e1];rw [b1m hr hi (aY hne) λ k hk n1 n2=>?_]
 ·have a1:(B.set i v).set r (B.getD r zv)=B.set i v:=by rw [fH _ _ hne,S7 (by lia)]
  have a2:C3 n ((B.set i v).set r (B.getD i zv)) = - C3 n (B.set r v):=by
   rw [a5S hl hi hr hne,S7 (by lia)]
  show C3 n (B.set r u)*C3 n ((B.set i v).set r (B.getD r zv))+C3 n (B.set i u)*C3 n ((B.set i v).set r (B.getD i zv))=_
  rw [a1,a2,cY];lia
 ·have:C3 n ((B.set i v).set r (B.getD k zv))=0:=by
   refine Z3 (i:=k) (k:=r) (u:=B.getD k zv) (by rw [cJ,cJ]; exact hl) n1 ?_ ?_
   ·rw [bV (aY n1),bV (aY n2)]; exact a4m (by lia)
   ·rw [cM (by rw [cJ]; lia)]
  show C3 n (B.set k u)*C3 n ((B.set i v).set r (B.getD k zv))=0
  rw [this,bM]
theorem b3r {d a b:Int} (hd:d≠0) (h:d*a=d*b):a=b:=Int.eq_of_mul_eq_mul_left hd h
theorem a4g {n:Nat} {B:List C9} {r:Nat} (hl:B.length=n) (hr:r<n) {u v:C9} (hd:C3 n B≠0) (hu:a6a n B u) (hv:a6a n B v):a6a n (B.set r u) v:=by
 intro x;refine b3r hd ?_;have e:∀ k,k<n->C3 n B*(C3 n ((B.set r u).set k v)*((B.set r u).getD k zv) x) =
   C3 n (B.set r u)*(C3 n (B.set k v)*(B.getD k zv) x)+(if k=r then C3 n B*(C3 n (B.set r v)*u x) else 0) - C3 n (B.set r v)*(C3 n (B.set k u)*(B.getD k zv) x):=λ k hk=>by
  by_cases c:k=r
  ·subst c
   rw [if_pos rfl,kO];have g:(B.set k u).getD k zv=u:=by rw [aG,cM (by lia)]; rfl
   rw [g];have:C3 n (B.set k u)*(C3 n (B.set k v)*B.getD k zv x)=C3 n (B.set k v)*(C3 n (B.set k u)*B.getD k zv x):=by rw [<- aW,<- aW,aV (C3 n (B.set k u))]
   lia
  ·rw [if_neg c]
   have g:(B.set r u).getD k zv=B.getD k zv:=by rw [aG,bV (aY c),<- aG]
   rw [g,<- aW,plu hl hr hk c v hu,gX,aW,aW];have:C3 n (B.set k u)*(C3 n (B.set r v)*B.getD k zv x)=C3 n (B.set r v)*(C3 n (B.set k u)*B.getD k zv x):=by rw [<- aW,<- aW,aV (C3 n (B.set k u))]
   lia
 have s1:C3 n B*sumTo (λ k=>C3 n ((B.set r u).set k v)*((B.set r u).getD k zv) x) n =
   sumTo (λ k=>C3 n (B.set r u)*(C3 n (B.set k v)*(B.getD k zv) x)+(if k=r then C3 n B*(C3 n (B.set r v)*u x) else 0)+(- C3 n (B.set r v))*(C3 n (B.set k u)*(B.getD k zv) x)) n:=by
  rw [<- A5];refine sum_congr λ k hk=>?_;rw [e k hk,eM];lia
 rw [s1,T7,T7,A5,A5,<- hv x,<- hu x,sum_one hr λ k _ hn=>if_neg hn,if_pos rfl,eM];have a1:C3 n B*(C3 n (B.set r u)*v x)=C3 n (B.set r u)*(C3 n B*v x):=by rw [<- aW,<- aW,aV (C3 n B)]
 have a2:C3 n B*(C3 n (B.set r v)*u x)=C3 n (B.set r v)*(C3 n B*u x):=by rw [<- aW,<- aW,aV (C3 n B)]
 lia
theorem a8z {n:Nat} {B:List C9} {r:Nat} (hl:B.length=n) (hr:r<n):a6a n B (B.getD r zv):=by
 intro x;rw [sum_one hr λ k hk hn=>?_]
 ·rw [S7 (by lia)]
 ·have:C3 n (B.set k (B.getD r zv))=0:=by
   refine Z3 (i:=r) (k:=k) (u:=B.getD r zv) (by rw [cJ]; exact hl) (aY hn) ?_ ?_
   ·rw [bV hn]; exact a4m (by lia)
   ·rw [cM (by lia)]
  rw [this,dG]
theorem b5a {n:Nat} {B:List C9} (hl:B.length=n) (hd:C3 n B≠0) {t:Nat->Int} (h:∀ x,sumTo (λ k=>t k*(B.getD k zv) x) n=0) {i:Nat} (hi:i<n):t i=0:=by
 have h1:=a2s (C:=B) hl hi t (λ k=>B.getD k zv) n;have e:(λ x:Nat=>sumTo (λ k=>t k*(B.getD k zv) x) n)=zv:=by funext x; rw [h x]; rfl
 rw [e] at h1;have h0:C3 n (B.set i zv)=0:=by
  have:=W3 hl hi 0 zv 0 zv;have e:W9 0 zv 0 zv=zv:=by funext x; simp [W9,zv]
  rw [e] at this;lia
 rw [h0,sum_one hi λ k hk hn=>?_,S7 (by lia)] at h1
 ·exact (fT.mp h1.symm).resolve_right hd
 ·have:C3 n (B.set i (B.getD k zv))=0:=by
   refine Z3 (i:=k) (k:=i) (u:=B.getD k zv) (by rw [cJ]; exact hl) hn ?_ ?_
   ·rw [bV (aY hn)]; exact a4m (by lia)
   ·rw [cM (by lia)]
  rw [this,bM]
structure Bo where
 d:Int
 T:Nat->Nat->Int
 ins:Nat->Nat
 outs:Nat->Nat
def upN (g:Nat->Nat) (k v:Nat):Nat->Nat:=λ i=>if i=k then v else g i
theorem x9 {g:Nat->Nat} {k v:Nat}:upN g k v k=v:=if_pos rfl
theorem y6 {g:Nat->Nat} {k v i:Nat} (h:i≠k):upN g k v i=g i:=if_neg h
def piv (S:Bo) (r c:Nat):Bo where
 d:=S.T r c
 T:=λ i j=>if i=r then (if j=c then S.d else S.T r j) else (if j=c then - S.T i c else (S.T i j*S.T r c - S.T i c*S.T r j) / S.d)
 ins:=upN S.ins r (S.outs c)
 outs:=upN S.outs c (S.ins r)
def Bs (m:Nat) (V:Nat->C9) (ins:Nat->Nat):List C9:=(aD (m+1)).map λ i=>V (ins i)
theorem a1K (m:Nat) (V:Nat->C9) (ins:Nat->Nat):(Bs m V ins).length=m+1:=by unfold Bs; rw [aA,cQ]
theorem a7W {m:Nat} {V:Nat->C9} {ins:Nat->Nat} {i:Nat} (h:i<m+1):(Bs m V ins).getD i zv=V (ins i):=by
 unfold Bs;rw [aG,aE,bQ h];rfl
theorem b0f {m:Nat} {V:Nat->C9} {ins:Nat->Nat} {r v:Nat} (h:r<m+1):Bs m V (upN ins r v)=(Bs m V ins).set r (V v):=by
 refine cK λ i=>?_;unfold Bs
 by_cases c:i=r
 ·subst c
  rw [cM (by rw [aA,cQ]; exact h),aE,bQ h]
  show some (V (upN ins i v i))=_
  rw [x9]
 ·rw [bV (aY c),aE,aE]
  by_cases hi:i<m+1
  ·rw [bQ hi]
   show some (V (upN ins r v i))=some (V (ins i))
   rw [y6 c]
  ·rw [bH (by rw [cQ]; lia)]
   rfl
structure Wf (m q:Nat) (V:Nat->C9) (S:Bo):Prop where
 hd:S.d=C3 (m+1) (Bs m V S.ins)
 hT:∀ i j,i<m+1->j<q+1->S.T i j=C3 (m+1) ((Bs m V S.ins).set i (V (S.outs j)))
 cr:∀ j,j<q+1->a6a (m+1) (Bs m V S.ins) (V (S.outs j))
 pos:0<S.d
 feas:∀ i,i<m->0<=S.T i q
 im:S.ins m=q+m
 oq:S.outs q=q+m+1
 ib:∀ i,i<m->S.ins i<q+m
 ob:∀ j,j<q->S.outs j<q+m
 ii:∀ i k,i<m->k<m->S.ins i=S.ins k->i=k
 oo:∀ j k,j<q->k<q->S.outs j=S.outs k->j=k
 io:∀ i j,i<m->j<q->S.ins i≠S.outs j
 all:∀ v,v<q+m->(∃ i,i<m/\S.ins i=v)\/(∃ j,j<q/\S.outs j=v)
section
variable {m q:Nat} {V:Nat->C9} {S:Bo}
theorem Wf.exact (W:Wf m q V S) {r c i j:Nat} (hr:r<m) (hc:c<q) (hi:i<m+1) (hj:j<q+1) (hne:i≠r) :
  S.T i j*S.T r c - S.T i c*S.T r j=S.d*C3 (m+1) (((Bs m V S.ins).set r (V (S.outs c))).set i (V (S.outs j))):=by
 have h:=plu (a1K m V S.ins) (show r<m+1 by lia) hi hne (V (S.outs j)) (W.cr c (by lia));rw [W.hd,h,W.hT i j hi hj,W.hT r c (by lia) (by lia),W.hT i c hi (by lia),W.hT r j (by lia) hj];rw [aV (C3 (m+1) ((Bs m V S.ins).set i (V (S.outs j))))]
theorem Wf.pivT (W:Wf m q V S) {r c i j:Nat} (hr:r<m) (hc:c<q) (hi:i<m+1) (hj:j<q+1):(piv S r c).T i j=C3 (m+1) ((Bs m V (piv S r c).ins).set i (V ((piv S r c).outs j))):=by
 have hl:=a1K m V S.ins
 show (if i=r then (if j=c then S.d else S.T r j) else (if j=c then - S.T i c else (S.T i j*S.T r c - S.T i c*S.T r j) / S.d))=C3 (m+1) ((Bs m V (upN S.ins r (S.outs c))).set i (V (upN S.outs c (S.ins r) j)))
 rw [b0f (by lia)]
 by_cases c1:i=r
 ·subst c1
  rw [if_pos rfl,kO]
  by_cases c2:j=c
  ·subst c2
   rw [if_pos rfl,x9,W.hd,<- a7W (V:=V) (ins:=S.ins) hi,S7 (by lia)]
  ·rw [if_neg c2,y6 c2]
   exact W.hT i j hi hj
 ·rw [if_neg c1]
  by_cases c2:j=c
  ·subst c2
   rw [if_pos rfl,x9,a5S hl (by lia) hi (aY c1),<- a7W (V:=V) (ins:=S.ins) (show r<m+1 by lia),S7 (by lia),W.hT i j hi hj]
  ·rw [if_neg c2,y6 c2,W.exact hr hc hi hj c1]
   exact iR _ (by have:=W.pos; lia)
theorem Wf.mulT (W:Wf m q V S) {r c i j:Nat} (hr:r<m) (hc:c<q) (hi:i<m+1) (hj:j<q+1) (hne:i≠r) (hjc:j≠c):S.d*(piv S r c).T i j=S.T i j*S.T r c - S.T i c*S.T r j:=by
 have e:=W.pivT hr hc hi hj;have h:=W.exact hr hc hi hj hne;have e2:Bs m V (piv S r c).ins=(Bs m V S.ins).set r (V (S.outs c)):=b0f (by lia);have e3:(piv S r c).outs j=S.outs j:=y6 hjc;rw [e2,e3] at e;rw [h,e]
theorem Wf.pivot (W:Wf m q V S) {r c:Nat} (hr:r<m) (hc:c<q) (hp:0<S.T r c) (hq:∀ i,i<m->0<S.T i c->S.T r q*S.T i c<=S.T i q*S.T r c):Wf m q V (piv S r c):=by
 have hl:=a1K m V S.ins;have hd0:C3 (m+1) (Bs m V S.ins)≠0:=by have:=W.pos; rw [W.hd] at this; lia
 have hB:Bs m V (piv S r c).ins=(Bs m V S.ins).set r (V (S.outs c)):=b0f (by lia);refine ⟨?_,λ i j hi hj=>W.pivT hr hc hi hj,λ j hj=>?_,hp,λ i hi=>?_,?_,?_,λ i hi=>?_,λ j hj=>?_,λ i k hi hk e=>?_,λ j k hj hk e=>?_,λ i j hi hj e=>?_,λ v hv=>?_⟩
 ·rw [hB]; exact W.hT r c (by lia) (by lia)
 ·rw [hB]
  by_cases c2:j=c
  ·subst c2
   show a6a _ _ (V (upN S.outs j (S.ins r) j))
   rw [x9];have h:=a8z hl (show r<m+1 by lia);rw [a7W (by lia)] at h;exact a4g hl (by lia) hd0 (W.cr j hj) h
  ·show a6a _ _ (V (upN S.outs c (S.ins r) j))
   rw [y6 c2];exact a4g hl (by lia) hd0 (W.cr c (by lia)) (W.cr j hj)
 ·by_cases c1:i=r
  ·subst c1
   show 0<=(if i=i then (if q=c then S.d else S.T i q) else _)
   rw [if_pos rfl,if_neg (by lia)];exact W.feas i hi
  ·have e:=W.mulT hr hc (show i<m+1 by lia) (show q<q+1 by lia) c1 (show q≠c by lia)
   have f1:=W.feas i hi;have f2:=W.feas r hr;have hpos:=W.pos;have nn:0<=S.T i q*S.T r c - S.T i c*S.T r q:=by
    have a1:0<=S.T i q*S.T r c:=cF f1 (aL hp)
    by_cases z:0<S.T i c
    ·have:=hq i hi z
     rw [aV (S.T i c)];lia
    ·have a2:0 <= - (S.T i c)*S.T r q:=cF (by lia) f2
     rw [eM] at a2;lia
   rw [<- e] at nn
   by_cases z:0<=(piv S r c).T i q
   ·exact z
   ·have:=cO hpos (show 0 < - (piv S r c).T i q by lia)
    rw [cY] at this;lia
 ·show upN S.ins r (S.outs c) m=q+m
  rw [y6 (by lia)]; exact W.im
 ·show upN S.outs c (S.ins r) q=q+m+1
  rw [y6 (by lia)]; exact W.oq
 ·show upN S.ins r (S.outs c) i<q+m
  by_cases c1:i=r
  ·rw [c1,x9]; exact W.ob c hc
  ·rw [y6 c1]; exact W.ib i hi
 ·show upN S.outs c (S.ins r) j<q+m
  by_cases c1:j=c
  ·rw [c1,x9]; exact W.ib r hr
  ·rw [y6 c1]; exact W.ob j hj
 ·replace e:upN S.ins r (S.outs c) i=upN S.ins r (S.outs c) k:=e
  by_cases c1:i=r
  ·by_cases c2:k=r
   ·lia
   ·rw [c1,x9,y6 c2] at e
    exact absurd e.symm (W.io k c hk hc)
  ·by_cases c2:k=r
   ·rw [c2,x9,y6 c1] at e
    exact absurd e (W.io i c hi hc)
   ·rw [y6 c1,y6 c2] at e
    exact W.ii i k hi hk e
 ·replace e:upN S.outs c (S.ins r) j=upN S.outs c (S.ins r) k:=e
  by_cases c1:j=c
  ·by_cases c2:k=c
   ·lia
   ·rw [c1,x9,y6 c2] at e
    exact absurd e (W.io r k hr hk)
  ·by_cases c2:k=c
   ·rw [c2,x9,y6 c1] at e
    exact absurd e.symm (W.io r j hr hj)
   ·rw [y6 c1,y6 c2] at e
    exact W.oo j k hj hk e
 ·replace e:upN S.ins r (S.outs c) i=upN S.outs c (S.ins r) j:=e
  by_cases c1:i=r
  ·by_cases c2:j=c
   ·rw [c1,c2,x9,x9] at e
    exact absurd e.symm (W.io r c hr hc)
   ·rw [c1,x9,y6 c2] at e
    exact c2 (W.oo c j hc hj e).symm
  ·by_cases c2:j=c
   ·rw [c2,x9,y6 c1] at e
    exact c1 (W.ii i r hi hr e)
   ·rw [y6 c1,y6 c2] at e
    exact W.io i j hi hj e
 ·show (∃ i,i<m/\upN S.ins r (S.outs c) i=v)\/(∃ j,j<q/\upN S.outs c (S.ins r) j=v)
  rcases W.all v hv with ⟨i,hi,e⟩ | ⟨j,hj,e⟩
  ·by_cases c1:i=r
   ·exact .inr ⟨c,hc,by rw [x9,<- c1]; exact e⟩
   ·exact .inl ⟨i,hi,by rw [y6 c1]; exact e⟩
  ·by_cases c1:j=c
   ·exact .inl ⟨r,hr,by rw [x9,<- c1]; exact e⟩
   ·exact .inr ⟨j,hj,by rw [y6 c1]; exact e⟩
def Ker (m q:Nat) (V:Nat->C9) (S:Bo) (z:Nat->Int):Prop:=∀ x,sumTo (λ k=>z (S.ins k)*V (S.ins k) x) (m+1)+sumTo (λ j=>z (S.outs j)*V (S.outs j) x) (q+1)=0
theorem a7l {g h:Nat->Int} {n r:Nat} (hr:r<n) (e:∀ k,k<n->k≠r->g k=h k):sumTo g n=sumTo h n+(g r - h r):=by
 have e1:sumTo g n=sumTo (λ k=>h k+(if k=r then g k - h k else 0)) n:=sum_congr λ k hk=>by
  by_cases c:k=r
  ·rw [if_pos c]; lia
  ·rw [if_neg c,e k hk c]; lia
 rw [e1,T7,sum_one hr λ k _ hn=>if_neg hn,if_pos rfl]
theorem Ker.piv {r c:Nat} (hr:r<m) (hc:c<q) {z:Nat->Int}:Ker m q V (piv S r c) z ↔ Ker m q V S z:=by
  have e:∀ x,sumTo (λ k=>z ((Lp.piv S r c).ins k)*V ((Lp.piv S r c).ins k) x) (m+1)+sumTo (λ j=>z ((Lp.piv S r c).outs j)*V ((Lp.piv S r c).outs j) x) (q+1)
     =sumTo (λ k=>z (S.ins k)*V (S.ins k) x) (m+1)+sumTo (λ j=>z (S.outs j)*V (S.outs j) x) (q+1):=λ x=>by
    have h1:=a7l (g:=λ k=>z ((Lp.piv S r c).ins k)*V ((Lp.piv S r c).ins k) x) (h:=λ k=>z (S.ins k)*V (S.ins k) x) (n:=m+1) (r:=r) (by lia) λ k hk hn=>by
      show z (upN S.ins r (S.outs c) k)*V (upN S.ins r (S.outs c) k) x=_
      rw [y6 hn]
    have h2:=a7l (g:=λ j=>z ((Lp.piv S r c).outs j)*V ((Lp.piv S r c).outs j) x) (h:=λ j=>z (S.outs j)*V (S.outs j) x) (n:=q+1) (r:=c) (by lia) λ k hk hn=>by
      show z (upN S.outs c (S.ins r) k)*V (upN S.outs c (S.ins r) k) x=_
      rw [y6 hn]
    rw [h1,h2]
    show _+(z (upN S.ins r (S.outs c) r)*V (upN S.ins r (S.outs c) r) x - _)+(_+(z (upN S.outs c (S.ins r) c)*V (upN S.outs c (S.ins r) c) x - _))=_
    rw [x9,x9];lia
  exact ⟨λ h x=>(e x).symm.trans (h x),λ h x=>(e x).trans (h x)⟩
def a3A (q:Nat) (S:Bo) (z:Nat->Int) (i:Nat):Int:=S.d*z (S.ins i)+sumTo (λ j=>S.T i j*z (S.outs j)) (q+1)
theorem Y5 {g:Nat->Nat->Int} (n:Nat):∀ k:Nat,sumTo (λ i=>sumTo (λ j=>g i j) k) n=sumTo (λ j=>sumTo (λ i=>g i j) n) k
 | 0=>sum_zero λ _ _=>rfl
 | k+1=>by
  show sumTo (λ i=>sumTo (λ j=>g i j) k+g i k) n=sumTo (λ j=>sumTo (λ i=>g i j) n) k+sumTo (λ i=>g i k) n
  rw [T7,Y5 n k]
theorem Wf.rows (W:Wf m q V S) (z:Nat->Int) (x:Nat):S.d*(sumTo (λ k=>z (S.ins k)*V (S.ins k) x) (m+1)+sumTo (λ j=>z (S.outs j)*V (S.outs j) x) (q+1))=sumTo (λ k=>a3A q S z k*((Bs m V S.ins).getD k zv) x) (m+1):=by
 have e1:S.d*sumTo (λ j=>z (S.outs j)*V (S.outs j) x) (q+1)=sumTo (λ k=>sumTo (λ j=>S.T k j*z (S.outs j)) (q+1)*((Bs m V S.ins).getD k zv) x) (m+1):=by
  rw [<- A5];have h1:∀ j,j<q+1->S.d*(z (S.outs j)*V (S.outs j) x)=sumTo (λ k=>S.T k j*z (S.outs j)*((Bs m V S.ins).getD k zv) x) (m+1):=λ j hj=>by
   have h:=W.cr j hj x;rw [<- W.hd] at h;rw [aV (z (S.outs j)),<- aW,h,aV,<- A5];refine sum_congr λ k hk=>?_;rw [W.hT k j hk hj,<- aW,aV (z (S.outs j))]
  rw [sum_congr h1,<- Y5];refine sum_congr λ k hk=>?_;rw [aV (sumTo _ _),<- A5];exact sum_congr λ j _=>aV _ _
 rw [fQ,e1,<- A5,<- T7];refine sum_congr λ k hk=>?_
 show _=(S.d*z (S.ins k)+_)*_
 rw [cL,a7W hk,aW]
theorem Wf.row_of (W:Wf m q V S) {z:Nat->Int} (h:Ker m q V S z) {i:Nat} (hi:i<m+1):a3A q S z i=0:=by
 refine b5a (a1K m V S.ins) (by have:=W.pos; rw [W.hd] at this; lia) (λ x=>?_) hi;rw [<- W.rows z x,h x,bM]
theorem Wf.ker_of (W:Wf m q V S) {z:Nat->Int} (h:∀ i,i<m+1->a3A q S z i=0):Ker m q V S z:=λ x=>by
 have e:=W.rows z x;have e0:sumTo (λ k=>a3A q S z k*((Bs m V S.ins).getD k zv) x) (m+1)=0:=sum_zero λ k hk=>by rw [h k hk,dG]
 rw [e0] at e;exact (fT.mp e).resolve_left (by have:=W.pos; lia)
end
structure Choice (m q:Nat) (S:Bo) (r c:Nat):Prop where
 hc:c<q
 neg:S.T m c<0
 minc:∀ j,j<q->S.T m j<0->S.outs c<=S.outs j
 hr:r<m
 pos:0<S.T r c
 ratio:∀ i,i<m->0<S.T i c->S.T r q*S.T i c<=S.T i q*S.T r c
 tie:∀ i,i<m->0<S.T i c->S.T r q*S.T i c=S.T i q*S.T r c->S.ins r<=S.ins i
theorem a7E {g:Nat->Int}:∀ {n:Nat},sumTo g n<0->∃ k,k<n/\g k<0
 | 0,h=>absurd h (by show ¬ (0:Int)<0; lia)
 | n+1,h=>by
  have h':sumTo g n+g n<0:=h
  by_cases c:g n<0
  ·exact ⟨n,by lia,c⟩
  ·obtain ⟨k,hk,hg⟩:=a7E (g:=g) (n:=n) (by lia)
   exact ⟨k,by lia,hg⟩
section
variable {m q:Nat} {V:Nat->C9} {S S':Bo}
theorem Wf.inj (W:Wf m q V S) {i k:Nat} (hi:i<m+1) (hk:k<m+1) (e:S.ins i=S.ins k):i=k:=by
 by_cases c1:i=m
 ·by_cases c2:k=m
  ·lia
  ·have:=W.ib k (by lia)
   rw [c1,W.im] at e;lia
 ·by_cases c2:k=m
  ·have:=W.ib i (by lia)
   rw [c2,W.im] at e;lia
  ·exact W.ii i k (by lia) (by lia) e
theorem Wf.apart (W:Wf m q V S) {i j:Nat} (hi:i<m+1) (hj:j<q+1):S.ins i≠S.outs j:=by
 intro e;have hI:S.ins i<=q+m:=by
  by_cases c1:i=m
  ·rw [c1,W.im]; exact aH _
  ·have:=W.ib i (by lia); lia
 by_cases c2:j=q
 ·rw [c2,W.oq] at e; lia
 ·have:=W.ob j (by lia)
  by_cases c1:i=m
  ·rw [c1,W.im] at e; lia
  ·exact W.io i j (by lia) (by lia) e
theorem Wf.injo (W:Wf m q V S) {j k:Nat} (hj:j<q+1) (hk:k<q+1) (e:S.outs j=S.outs k):j=k:=by
 by_cases c1:j=q
 ·by_cases c2:k=q
  ·lia
  ·have:=W.ob k (by lia)
   rw [c1,W.oq] at e;lia
 ·by_cases c2:k=q
  ·have:=W.ob j (by lia)
   rw [c2,W.oq] at e;lia
  ·exact W.oo j k (by lia) (by lia) e
def ray (m:Nat) (S:Bo) (c:Nat) (v:Nat):Int:=if v=S.outs c then S.d else sumTo (λ i=>if S.ins i=v then - S.T i c else 0) (m+1)
theorem Wf.ray_in (W:Wf m q V S) {c k:Nat} (hc:c<q+1) (hk:k<m+1):ray m S c (S.ins k) = - S.T k c:=by
 unfold ray;rw [if_neg (W.apart hk hc),sum_one hk λ i hi hn=>if_neg λ e=>hn (W.inj hi hk e),if_pos rfl]
theorem Wf.ray_out (W:Wf m q V S) {c j:Nat} (hc:c<q+1) (hj:j<q+1) (hn:j≠c):ray m S c (S.outs j)=0:=by
 unfold ray;rw [if_neg λ e=>hn (W.injo hj hc e)];exact sum_zero λ i hi=>if_neg (W.apart hi hj)
theorem Wf.ray_c {c:Nat}:ray m S c (S.outs c)=S.d:=if_pos rfl
theorem Wf.ray_ker (W:Wf m q V S) {c:Nat} (hc:c<q+1):Ker m q V S (ray m S c):=W.ker_of λ i hi=>by
 unfold a3A;rw [W.ray_in hc hi,sum_one hc λ j hj hn=>by rw [W.ray_out hc hj hn,bM],Wf.ray_c,cY,aV];lia
theorem b2Q (W:Wf m q V S) (W':Wf m q V S') (hk:∀ z,Ker m q V S z->Ker m q V S' z) {r c r' c':Nat} (C:Choice m q S r c) (C':Choice m q S' r' c') (ht:S.ins r=S'.outs c') (hst:S.outs c<S.ins r)
  (stat:∀ v,S.ins r<v->(∃ i,i<m/\S.ins i=v)->∃ i,i<m/\S'.ins i=v) (zero:∀ k j,k<m->j<q->S.ins k=S'.outs j->S.T k q=0):False:=by
 have hc1:c<q+1:=by have:=C.hc; lia
 have R:=W'.row_of (hk _ (W.ray_ker hc1)) (show m<m+1 by lia);have zobj:ray m S c (S'.ins m) = - S.T m c:=by rw [W'.im,<- W.im]; exact W.ray_in hc1 (by lia)
 have zcon:ray m S c (S'.outs q)=0:=by rw [W'.oq,<- W.oq]; exact W.ray_out hc1 (by lia) (by have:=C.hc; lia)
 unfold a3A at R
 replace R:S'.d*ray m S c (S'.ins m)+(sumTo (λ j=>S'.T m j*ray m S c (S'.outs j)) q+S'.T m q*ray m S c (S'.outs q))=0:=R
 rw [zobj,zcon,bM,cY] at R;have hneg:0<S'.d*(- S.T m c):=cO W'.pos (by have:=C.neg; lia);rw [cY] at hneg;obtain ⟨j,hj,hg⟩:=a7E (g:=λ j=>S'.T m j*ray m S c (S'.outs j)) (n:=q) (by lia)
 replace hg:S'.T m j*ray m S c (S'.outs j)<0:=hg
 rcases W.all (S'.outs j) (W'.ob j hj) with ⟨k,hk1,e⟩ | ⟨j2,hj2,e⟩
 ·rw [<- e,W.ray_in hc1 (by lia)] at hg
  rcases iU (S'.outs j) (S.ins r) with h | h | h
  ·have h1:0<=S'.T m j:=by
    by_cases z:S'.T m j<0
    ·have:=C'.minc j hj z
     lia
    ·lia
   have h2:0<S.T k c:=by
    by_cases z:0<S.T k c
    ·exact z
    ·have:=cF h1 (show 0 <= - S.T k c by lia)
     lia
   have h3:=zero k j hk1 hj e;have h4:=C.ratio k hk1 h2;rw [h3,dG] at h4;have h5:0<=S.T r q*S.T k c:=cF (W.feas r C.hr) (aL h2);have h6:=C.tie k hk1 h2 (by rw [h3,dG]; omega);lia
  ·have e1:j=c':=W'.oo j c' hj C'.hc (by rw [h,ht])
   have e2:k=r:=W.ii k r hk1 C.hr (by rw [e,h]);rw [e1,e2] at hg;have:=cO (show 0 < - S'.T m c' by have:=C'.neg; lia) C.pos;rw [eM] at this;rw [cY] at hg;lia
  ·obtain ⟨i,hi,e3⟩:=stat _ h ⟨k,hk1,e⟩
   exact W'.io i j hi hj e3
 ·by_cases c2:j2=c
  ·rw [<- e,c2,Wf.ray_c] at hg
   have h1:S'.T m j<0:=by
    by_cases z:S'.T m j<0
    ·exact z
    ·have:=cF (show 0<=S'.T m j by lia) (aL W.pos)
     lia
   have:=C'.minc j hj h1;rw [c2] at e;lia
  ·rw [<- e,W.ray_out hc1 (by lia) c2,bM] at hg
   lia
def Zr (m q:Nat) (S:Bo) (v:Nat):Prop:=∀ i,i<m->S.ins i=v->S.T i q=0
def Bas (m:Nat) (S:Bo) (v:Nat):Prop:=∃ i,i<m/\S.ins i=v
theorem Bas.piv (W:Wf m q V S) {r c v:Nat} (hr:r<m) (hc:c<q) (h1:v≠S.ins r) (h2:v≠S.outs c):Bas m (Lp.piv S r c) v ↔ Bas m S v:=by
 constructor
 ·rintro ⟨i,hi,e⟩
  replace e:upN S.ins r (S.outs c) i=v:=e
  by_cases z:i=r
  ·rw [z,x9] at e; exact absurd e.symm h2
  ·rw [y6 z] at e; exact ⟨i,hi,e⟩
 ·rintro ⟨i,hi,e⟩
  have z:i≠r:=λ z=>h1 (by rw [<- e,z]);exact ⟨i,hi,(y6 z).trans e⟩
theorem Zr.piv (W:Wf m q V S) {r c:Nat} (C:Choice m q S r c) (h0:S.T r q=0) (v:Nat):Zr m q (Lp.piv S r c) v ↔ Zr m q S v:=by
 have key:∀ i,i<m->i≠r->((Lp.piv S r c).T i q=0 ↔ S.T i q=0):=λ i hi hn=>by
  have e:=W.mulT C.hr C.hc (show i<m+1 by lia) (show q<q+1 by lia) hn (show q≠c by have:=C.hc; lia);rw [h0,bM,Int.sub_zero] at e;constructor
  ·intro z
   rw [z,bM] at e;exact (fT.mp e.symm).resolve_right (by have:=C.pos; lia)
  ·intro z
   rw [z,dG] at e;exact (fT.mp e).resolve_left (by have:=W.pos; lia)
 have kr:(Lp.piv S r c).T r q=0:=by
  show (if r=r then (if q=c then S.d else S.T r q) else _)=0
  rw [if_pos rfl,if_neg (by have:=C.hc; lia)]; exact h0
 constructor
 ·intro h i hi e
  by_cases z:i=r
  ·rw [z]; exact h0
  ·exact (key i hi z).mp (h i hi ((y6 z).trans e))
 ·intro h i hi e
  by_cases z:i=r
  ·rw [z]; exact kr
  ·exact (key i hi z).mpr (h i hi ((y6 z).symm.trans e))
end
structure Seq (m q:Nat) (V:Nat->C9) (S:Nat->Bo) (R C:Nat->Nat):Prop where
 w:Wf m q V (S 0)
 ch:∀ k,Choice m q (S k) (R k) (C k)
 st:∀ k,S (k+1)=piv (S k) (R k) (C k)
section
variable {m q:Nat} {V:Nat->C9} {S:Nat->Bo} {R C:Nat->Nat}
theorem Seq.wf (Q:Seq m q V S R C):∀ k,Wf m q V (S k)
 | 0=>Q.w
 | k+1=>by rw [Q.st k]; exact (Q.wf k).pivot (Q.ch k).hr (Q.ch k).hc (Q.ch k).pos (Q.ch k).ratio
theorem Seq.ker (Q:Seq m q V S R C) (z:Nat->Int) (a:Nat):∀ n,Ker m q V (S (a+n)) z ↔ Ker m q V (S a) z
 | 0=>gY
 | n+1=>by
  show Ker m q V (S (a+n+1)) z ↔ _
  rw [Q.st,Ker.piv (Q.ch _).hr (Q.ch _).hc];exact Q.ker z a n
def Dg (q:Nat) (S:Nat->Bo) (R:Nat->Nat) (k:Nat):Prop:=(S k).T (R k) q=0
theorem Seq.zr (Q:Seq m q V S R C) (v a:Nat):∀ n,(∀ k,a<=k->k<a+n->Dg q S R k)->(Zr m q (S (a+n)) v ↔ Zr m q (S a) v)
 | 0,_=>gY
 | n+1,h=>by
  show Zr m q (S (a+n+1)) v ↔ _
  rw [Q.st,Zr.piv (Q.wf _) (Q.ch _) (h (a+n) (by lia) (by lia))];exact Q.zr v a n λ k h1 h2=>h k h1 (by lia)
def a5y (S:Nat->Bo) (R C:Nat->Nat) (k v:Nat):Prop:=v=(S k).ins (R k)\/v=(S k).outs (C k)
theorem Seq.bas (Q:Seq m q V S R C) (v a:Nat):∀ n,(∀ k,a<=k->k<a+n->¬ a5y S R C k v)->(Bas m (S (a+n)) v ↔ Bas m (S a) v)
 | 0,_=>gY
 | n+1,h=>by
  have hp:=h (a+n) (by lia) (by lia)
  show Bas m (S (a+n+1)) v ↔ _
  rw [Q.st,Bas.piv (Q.wf _) (Q.ch _).hr (Q.ch _).hc (λ z=>hp (.inl z)) λ z=>hp (.inr z)];exact Q.bas v a n λ k h1 h2=>h k h1 (by lia)
theorem Seq.once (Q:Seq m q V S R C) {a b t:Nat} (hd:∀ k,a<=k->k<b->Dg q S R k) (ht:∀ k,a<=k->k<b->∀ v,a5y S R C k v->v<=t):∀ (g k0 k1:Nat),k1=k0+1+g->a<=k0->k1<b->a5y S R C k0 t->a5y S R C k1 t->False:=by
 intro g
 induction g using Nat.strongRecOn with
 | _ g ih =>
  intro k0 k1 hk ha hb p0 p1
  by_cases hm:∃ k,k0<k/\k<k1/\a5y S R C k t
  ·obtain ⟨k,h1,h2,h3⟩:=hm
   exact ih (k - k0 - 1) (by lia) k0 k (by lia) ha (by lia) p0 h3
  have W0:=Q.wf k0;have W1:=Q.wf k1;have C0:=Q.ch k0;have C1:=Q.ch k1;have bmid:Bas m (S k1) t ↔ Bas m (S (k0+1)) t:=by
   have:=Q.bas t (k0+1) g λ k h1 h2=>λ z=>hm ⟨k,by lia,by lia,z⟩;rw [show k0+1+g=k1 by lia] at this;exact this
  have stat:∀ v,t<v->(Bas m (S k1) v ↔ Bas m (S k0) v):=λ v hv=>by
   have:=Q.bas v k0 (g+1) λ k h1 h2=>λ z=>by have:=ht k (by lia) (by lia) v z; lia
   rw [show k0+(g+1)=k1 by lia] at this;exact this
  have ker:∀ z,Ker m q V (S k1) z ↔ Ker m q V (S k0) z:=λ z=>by
   have:=Q.ker z k0 (g+1);rw [show k0+(g+1)=k1 by lia] at this;exact this
  have zrr:∀ v,Zr m q (S k1) v ↔ Zr m q (S k0) v:=λ v=>by
   have:=Q.zr v k0 (g+1) λ k h1 h2=>hd k (by lia) (by lia);rw [show k0+(g+1)=k1 by lia] at this;exact this
  rcases p0 with e0 | e0
  ·-- it goes out at k0,so it comes in at k1
   have nb:¬ Bas m (S (k0+1)) t:=by
    rintro ⟨i,hi,e⟩;rw [Q.st k0] at e
    replace e:upN (S k0).ins (R k0) ((S k0).outs (C k0)) i=t:=e
    by_cases z:i=R k0
    ·rw [z,x9,e0] at e
     exact W0.io _ _ C0.hr C0.hc e.symm
    ·rw [y6 z,e0] at e
     exact z (W0.ii i (R k0) hi C0.hr e)
   rcases p1 with e1 | e1
   ·exact nb (bmid.mp ⟨_,C1.hr,e1.symm⟩)
   ·have hst:(S k0).outs (C k0)<(S k0).ins (R k0):=by
     have h1:=ht k0 ha (by lia) _ (.inr rfl);rw [e0] at h1;have:=W0.io (R k0) (C k0) C0.hr C0.hc;lia
    refine b2Q W0 W1 (λ z h=>(ker z).mpr h) C0 C1 (by rw [<- e0,<- e1]) hst (λ v hv hb'=>(stat v (by rw [e0]; exact hv)).mpr hb') λ k j hk1 hj e=>?_;refine ((zrr ((S k0).ins k)).mp λ i hi e2=>?_) k hk1 rfl;rw [e] at e2;exact absurd e2 (W1.io i j hi hj)
  ·-- it comes in at k0,so it goes out at k1
   have ba:Bas m (S (k0+1)) t:=⟨R k0,C0.hr,by rw [Q.st k0]; show upN (S k0).ins (R k0) ((S k0).outs (C k0)) (R k0)=t; rw [x9]; exact e0.symm⟩;rcases p1 with e1 | e1
   ·have hst:(S k1).outs (C k1)<(S k1).ins (R k1):=by
     have h1:=ht k1 (by lia) hb _ (.inr rfl);rw [e1] at h1;have:=W1.io (R k1) (C k1) C1.hr C1.hc;lia
    refine b2Q W1 W0 (λ z h=>(ker z).mp h) C1 C0 (by rw [<- e0,<- e1]) hst (λ v hv hb'=>(stat v (by rw [e1]; exact hv)).mp hb') λ k j hk1 hj e=>?_;refine ((zrr ((S k1).ins k)).mpr λ i hi e2=>?_) k hk1 rfl;rw [e] at e2;exact absurd e2 (W0.io i j hi hj)
   ·obtain ⟨i,hi,e⟩:=bmid.mpr ba
    rw [e1] at e;exact W1.io i (C k1) hi C1.hc e
theorem Seq.short (Q:Seq m q V S R C):∀ (t a b:Nat),a<=b->(∀ k,a<=k->k<b->Dg q S R k)->(∀ k,a<=k->k<b->∀ v,a5y S R C k v->v<t)->b+1<=a+2 ^ t
 | 0,a,b,hab,hd,hp=>by
  by_cases c:a<b
  ·have:=hp a (aH _) c _ (.inl rfl)
   lia
  ·rw [Nat.pow_zero]; lia
 | t+1,a,b,hab,hd,hp=>by
  rw [kP]
  by_cases h:∃ k,a<=k/\k<b/\a5y S R C k t
  ·obtain ⟨k,h1,h2,h3⟩:=h
   have once:=Q.once hd (t:=t) λ k h1 h2 v hv=>by have:=hp k h1 h2 v hv; lia
   have i1:=Q.short t a k h1 (λ j j1 j2=>hd j j1 (by lia)) λ j j1 j2 v hv=>by
    have:=hp j j1 (by lia) v hv
    by_cases z:v=t
    ·subst z
     exact (once (k - j - 1) j k (by lia) j1 h2 hv h3).elim
    ·lia
   have i2:=Q.short t (k+1) b (by lia) (λ j j1 j2=>hd j (by lia) j2) λ j j1 j2 v hv=>by
    have:=hp j (by lia) j2 v hv
    by_cases z:v=t
    ·subst z
     exact (once (j - k - 1) k j (by lia) h1 j2 h3 hv).elim
    ·lia
   lia
  ·have:=Q.short t a b hab hd λ j j1 j2 v hv=>by
    have h4:=hp j j1 j2 v hv
    by_cases z:v=t
    ·subst z; exact absurd ⟨j,j1,j2,hv⟩ h
    ·lia
   have:0<2 ^ t:=Nat.two_pow_pos t;lia
end
section
variable {m q:Nat} {V:Nat->C9} {S:Bo}
theorem Wf.bndB {M:Nat} (hM:∀ v,Fits M (m+1) (V v)):∀ c∈Bs m V S.ins,Fits M (m+1) c:=λ c hc=>by
 obtain ⟨i,_,rfl⟩:=aK.mp hc;exact hM _
theorem Wf.bndd (W:Wf m q V S) {M:Nat} (hM:∀ v,Fits M (m+1) (V v)):S.d.natAbs<=bnd M (m+1):=by
 rw [W.hd];exact a4n (m+1) _ (a1K m V S.ins) (Wf.bndB hM)
theorem Wf.bndT (W:Wf m q V S) {M:Nat} (hM:∀ v,Fits M (m+1) (V v)) {i j:Nat} (hi:i<m+1) (hj:j<q+1):(S.T i j).natAbs<=bnd M (m+1):=by
 rw [W.hT i j hi hj];refine a4n (m+1) _ (by rw [cJ]; exact a1K m V S.ins) λ c hc=>?_;rcases gZ hc with h | h
 ·exact Wf.bndB hM c h
 ·rw [h]; exact hM _
def phi (m q:Nat) (M:Int) (S:Bo):Int:=M*M*S.T m q / S.d
theorem Wf.gain (W:Wf m q V S) {r c:Nat} (C:Choice m q S r c) {M:Int} (h1:S.d<=M) (h2:S.T r c<=M):phi m q M S+(if S.T r q=0 then 0 else 1)<=phi m q M (piv S r c):=by
 have hcq:c<q:=C.hc;have hrm:r<m:=C.hr;have e:=W.mulT hrm hcq (show m<m+1 by lia) (show q<q+1 by lia) (show m≠r by lia) (show q≠c by lia);have hp:=C.pos;have hd:=W.pos;have hn:=C.neg;have hf:=W.feas r hrm;unfold phi
 show _<=M*M*(piv S r c).T m q / S.T r c
 generalize (piv S r c).T m q=N' at *;generalize S.T m q=N at *;generalize S.T r c=p at *;generalize S.d=d at *;generalize S.T m c=g at *;generalize S.T r q=b at *;rw [Int.le_ediv_iff_mul_le hp];have hfl:M*M*N / d*d<=M*M*N:=Int.ediv_mul_le _ (by lia);generalize M*M*N / d=f at *;have hM:0<M:=by lia
 have hMM:d*p<=M*M:=kQ h1 h2 (aL hp) (aL hM);have key:(f+(if b=0 then 0 else 1))*p*d<=M*M*N'*d:=by
  have a1:M*M*N'*d=M*M*N*p+M*M*(-(g*b)):=by
   have:N'*d=N*p - g*b:=by rw [aV N' d]; exact e
   rw [aW (M*M),this,fR,aW (M*M),cY];lia
  have a2:f*d*p<=M*M*N*p:=cI hfl (aL hp);have a3:f*p*d=f*d*p:=by rw [aW,aV p d,<- aW]
  by_cases c0:b=0
  ·rw [if_pos c0,dO,a1,a3,c0]
   simp only [bM,Int.neg_zero,dO];exact a2
  ·rw [if_neg c0]
   have a4:1 <= -(g*b):=by
    have:=cO (show 0 < -g by lia) (show 0<b by lia);rw [eM] at this;lia
   have a5:M*M*1<=M*M*(-(g*b)):=eP a4 (cF (aL hM) (aL hM));rw [cL,cL,dP,a3,a1];rw [aV d p] at hMM;lia
 exact fA key hd
theorem Wf.phi_le (W:Wf m q V S) {M:Int} (h1:S.T m q<=M) (h0:0<M):phi m q M S<=M*M*M:=by
 unfold phi;refine Int.ediv_le_of_le_mul W.pos ?_;have a1:M*M*S.T m q<=M*M*M:=eP h1 (cF (aL h0) (aL h0));have a2:M*M*M*1<=M*M*M*S.d:=eP (by have:=W.pos; lia) (cF (cF (aL h0) (aL h0)) (aL h0));lia
end
section
variable {m q:Nat} {V:Nat->C9} {S:Nat->Bo} {R C:Nat->Nat}
theorem Seq.part_lt (Q:Seq m q V S R C) (k v:Nat) (h:a5y S R C k v):v<q+m:=by
 rcases h with h | h
 ·rw [h]; exact (Q.wf k).ib _ (Q.ch k).hr
 ·rw [h]; exact (Q.wf k).ob _ (Q.ch k).hc
theorem Seq.never (Q:Seq m q V S R C) {M:Nat} (hM:∀ v,Fits M (m+1) (V v)):False:=by
 obtain ⟨B,hB⟩:∃ B:Int,B=(bnd M (m+1):Int):=⟨_,rfl⟩;have bT:∀ k i j,i<m+1->j<q+1->(S k).T i j<=B:=λ k i j hi hj=>by
  have:=(Q.wf k).bndT hM hi hj;lia
 have bd:∀ k,(S k).d<=B:=λ k=>by
  have:=(Q.wf k).bndd hM;lia
 have B0:0<B:=by have:=bd 0; have:=(Q.wf 0).pos; lia
 have up:∀ k,phi m q B (S k)+(if (S k).T (R k) q=0 then 0 else 1)<=phi m q B (S (k+1)):=λ k=>by
  rw [Q.st k];exact (Q.wf k).gain (Q.ch k) (bd k) (bT k _ _ (by have:=(Q.ch k).hr; lia) (by have:=(Q.ch k).hc; lia))
 have mono:∀ n k,phi m q B (S k)<=phi m q B (S (k+n)):=λ n=>by
  induction n with
  | zero=>intro k; exact bL _
  | succ n ih =>
   intro k;have h1:=ih k;have h2:=up (k+n);have h3:phi m q B (S (k+n))<=phi m q B (S (k+n+1)):=by
    split at h2 <;> lia
   exact fU h1 h3
 have V6:∀ k,phi m q B (S k)<=B*B*B:=λ k=>(Q.wf k).phi_le (bT k m q (by lia) (by lia)) B0;have gap:∀ (g:Nat) (k:Nat),B*B*B - phi m q B (S k)<=(g:Int)->False:=by
  intro g
  induction g with
  | zero =>
   intro k hk;have:∃ j,k<=j/\j<k+2 ^ (q+m)/\¬ Dg q S R j:=by
    refine fV λ hn=>?_;have:=Q.short (q+m) k (k+2 ^ (q+m)) (fO _ _) (λ j h1 h2=>fV λ z=>hn ⟨j,h1,h2,z⟩) λ j _ _ v hv=>Q.part_lt j v hv;lia
   obtain ⟨j,h1,h2,h3⟩:=this;have u:=up j;rw [if_neg (show ¬ (S j).T (R j) q=0 from h3)] at u;have m1:=mono (j - k) k;rw [show k+(j - k)=j by lia] at m1;have:=V6 (j+1);lia
  | succ g ih =>
   intro k hk;have:∃ j,k<=j/\j<k+2 ^ (q+m)/\¬ Dg q S R j:=by
    refine fV λ hn=>?_;have:=Q.short (q+m) k (k+2 ^ (q+m)) (fO _ _) (λ j h1 h2=>fV λ z=>hn ⟨j,h1,h2,z⟩) λ j _ _ v hv=>Q.part_lt j v hv;lia
   obtain ⟨j,h1,h2,h3⟩:=this;have u:=up j;rw [if_neg (show ¬ (S j).T (R j) q=0 from h3)] at u;have m1:=mono (j - k) k;rw [show k+(j - k)=j by lia] at m1;exact ih (j+1) (by lia)
 exact gap (B*B*B - phi m q B (S 0)).toNat 0 (by lia)
end
inductive Ends (m q:Nat):Bo->Nat->Prop
 | stop {S:Bo}:(¬ ∃ r c,Choice m q S r c)->Ends m q S 0
 | go {S:Bo} {r c k:Nat}:Choice m q S r c->Ends m q (piv S r c) k->Ends m q S (k+1)
theorem Choice.uniq {m q:Nat} {V:Nat->C9} {S:Bo} (W:Wf m q V S) {r c r' c':Nat} (h:Choice m q S r c) (h':Choice m q S r' c'):r=r'/\c=c':=by
 have ec:c=c':=W.oo c c' h.hc h'.hc (kR (h.minc c' h'.hc h'.neg) (h'.minc c h.hc h.neg));subst ec;have e1:=h.ratio r' h'.hr h'.pos;have e2:=h'.ratio r h.hr h.pos;have e:S.T r q*S.T r' c=S.T r' q*S.T r c:=by lia
 exact ⟨W.ii r r' h.hr h'.hr (kR (h.tie r' h'.hr h'.pos e) (h'.tie r h.hr h.pos e.symm)),rfl⟩
theorem Ends.next {m q:Nat} {V:Nat->C9} {S:Bo} (W:Wf m q V S) {k r c:Nat} (h:Ends m q S k) (C:Choice m q S r c):∃ j,j<k/\Ends m q (piv S r c) j:=by
 cases h with
 | stop hn=>exact absurd ⟨r,c,C⟩ hn
 | go C' h' =>
  obtain ⟨rfl,rfl⟩:=C.uniq W C';exact ⟨_,eW _,h'⟩
theorem Wf.ends {m q:Nat} {V:Nat->C9} {M:Nat} (hM:∀ v,Fits M (m+1) (V v)) {S:Bo} (W:Wf m q V S):∃ k,Ends m q S k:=by
 refine fV λ hn=>?_;have ch:∀ S',Wf m q V S'->(¬ ∃ k,Ends m q S' k)->∃ p:Nat×Nat,Choice m q S' p.1 p.2:=λ S' _ h'=>by
  refine fV λ z=>h' ⟨0,.stop λ ⟨r,c,C⟩=>z ⟨(r,c),C⟩⟩
 let St:={ S':Bo // Wf m q V S'/\¬ ∃ k,Ends m q S' k }
 let pk:(X:St)->Nat×Nat:=λ X=>(ch X.1 X.2.1 X.2.2).choose
 have pc:∀ X:St,Choice m q X.1 (pk X).1 (pk X).2:=λ X=>(ch X.1 X.2.1 X.2.2).choose_spec
 let nx:St->St:=λ X=>⟨piv X.1 (pk X).1 (pk X).2,X.2.1.pivot (pc X).hr (pc X).hc (pc X).pos (pc X).ratio,λ ⟨k,e⟩=>X.2.2 ⟨k+1,.go (pc X) e⟩⟩
 let sq:Nat->St:=λ k=>Nat.rec ⟨S,W,hn⟩ (λ _ X=>nx X) k
 exact Seq.never (S:=λ k=>(sq k).1) (R:=λ k=>(pk (sq k)).1) (C:=λ k=>(pk (sq k)).2) ⟨W,λ k=>pc (sq k),λ k=>rfl⟩ hM
def Vv (m q:Nat) (A:Nat->Nat->Int) (b c:Nat->Int):Nat->C9:=λ v x =>
 if v<q then (if x<m then A x v else if x=m then - c v else 0) else if v<q+m+1 then (if x=v - q then 1 else 0) else (if x<m then b x else 0)
def S0 (m q:Nat) (A:Nat->Nat->Int) (b c:Nat->Int):Bo where
 d:=1
 T:=λ i j=>if j<q then (if i<m then A i j else - c j) else (if i<m then b i else 0)
 ins:=λ i=>q+i
 outs:=λ j=>if j<q then j else q+m+1
section
variable {m q:Nat} {A:Nat->Nat->Int} {b c:Nat->Int}
theorem b3j {v x:Nat} (h:v<q):Vv m q A b c v x=if x<m then A x v else if x=m then - c v else 0:=by unfold Vv; rw [if_pos h]
theorem b4R {i:Nat} (h:i<m+1):Vv m q A b c (q+i)=U7 i:=by
 funext x
 unfold Vv U7;rw [if_neg (by lia),if_pos (by lia),show q+i - q=i by lia]
theorem b4u {x:Nat}:Vv m q A b c (q+m+1) x=if x<m then b x else 0:=by unfold Vv; rw [if_neg (by lia),if_neg (by lia)]
theorem b2N {v x:Nat} (h:m<x):Vv m q A b c v x=0:=by
 unfold Vv
 by_cases h1:v<q
 ·rw [if_pos h1,if_neg (by lia),if_neg (by lia)]
 ·rw [if_neg h1]
  by_cases h2:v<q+m+1
  ·rw [if_pos h2,if_neg (by lia)]
  ·rw [if_neg h2,if_neg (by lia)]
theorem Bs0:Bs m (Vv m q A b c) (S0 m q A b c).ins=(aD (m+1)).map U7:=by
 unfold Bs;exact cP λ i hi=>b4R (bO.mp hi)
theorem a5Z {n k:Nat} (h:k<n):((aD n).map U7).getD k zv=U7 k:=by rw [aG,aE,bQ h]; rfl
theorem a4e {n:Nat} {u:C9} (hu:∀ x,n<=x->u x=0) (x:Nat):sumTo (λ k=>u k*U7 k x) n=u x:=by
 by_cases h:x<n
 ·rw [sum_one h λ k _ hn=>by show u k*(if x=k then 1 else 0)=0; rw [if_neg (aY hn),bM]]
  show u x*(if x=x then 1 else 0)=u x
  rw [if_pos rfl,dZ]
 ·rw [hu x (by lia)]
  refine sum_zero λ k hk=>?_
  show u k*(if x=k then 1 else 0)=0
  rw [if_neg (by lia),bM]
theorem a1m {n i:Nat} (hi:i<n) {u:C9} (hu:∀ x,n<=x->u x=0):C3 n (((aD n).map U7).set i u)=u i:=by
 have hl:((aD n).map U7).length=n:=by rw [aA,cQ]
 have h:=a2s hl hi u U7 n;have e:(λ x:Nat=>sumTo (λ k=>u k*U7 k x) n)=u:=by funext x; exact a4e hu x
 rw [e,sum_one hi λ k hk hn=>?_] at h
 ·rw [h,<- a5Z hi,S7 (by lia),a0X,dZ]
 ·have:C3 n (((aD n).map U7).set i (U7 k))=0:=by
   refine Z3 (i:=k) (k:=i) (u:=U7 k) (by rw [cJ]; exact hl) hn ?_ ?_
   ·rw [bV (aY hn),aE,bQ hk]; rfl
   ·rw [cM (by lia)]
  rw [this,bM]
theorem wf0 (hb:∀ i,i<m->0<=b i):Wf m q (Vv m q A b c) (S0 m q A b c):=by
 have far:∀ v x,m+1<=x->Vv m q A b c v x=0:=λ v x h=>b2N (by lia);refine ⟨?_,λ i j hi hj=>?_,λ j hj x=>?_,Int.one_pos,λ i hi=>?_,rfl,?_,λ i hi=>?_,λ j hj=>?_,λ i k hi hk e=>?_,λ j k hj hk e=>?_,λ i j hi hj e=>?_,λ v hv=>?_⟩
 ·rw [Bs0,a0X]; rfl
 ·rw [Bs0,a1m hi (far _)]
  show (if j<q then (if i<m then A i j else - c j) else (if i<m then b i else 0))=Vv m q A b c (if j<q then j else q+m+1) i
  by_cases h:j<q
  ·rw [if_pos h,if_pos h,b3j h]
   by_cases h2:i<m
   ·rw [if_pos h2,if_pos h2]
   ·rw [if_neg h2,if_neg h2,if_pos (by lia)]
  ·rw [if_neg h,if_neg h,b4u]
 ·rw [Bs0,a0X,dP]
  have e:sumTo (λ k=>C3 (m+1) (((aD (m+1)).map U7).set k (Vv m q A b c ((S0 m q A b c).outs j)))*(((aD (m+1)).map U7).getD k zv) x) (m+1)=sumTo (λ k=>Vv m q A b c ((S0 m q A b c).outs j) k*U7 k x) (m+1) :=
   sum_congr λ k hk=>by rw [a1m hk (far _),a5Z hk]
  rw [e,a4e (far _)]
 ·show 0<=(if q<q then _ else (if i<m then b i else 0))
  rw [if_neg (cA _),if_pos hi]; exact hb i hi
 ·show (if q<q then q else q+m+1)=q+m+1
  rw [if_neg (cA _)]
 ·show q+i<q+m; lia
 ·show (if j<q then j else q+m+1)<q+m
  rw [if_pos hj]; lia
 ·replace e:q+i=q+k:=e
  lia
 ·replace e:(if j<q then j else q+m+1)=(if k<q then k else q+m+1):=e
  rw [if_pos hj,if_pos hk] at e;exact e
 ·replace e:q+i=(if j<q then j else q+m+1):=e
  rw [if_pos hj] at e;lia
 ·by_cases h:v<q
  ·exact .inr ⟨v,h,if_pos h⟩
  ·exact .inl ⟨v - q,by lia,by show q+(v - q)=v; lia⟩
theorem ker0 {z:Nat->Int}:Ker m q (Vv m q A b c) (S0 m q A b c) z ↔ (∀ i,i<m->z (q+i)+sumTo (λ j=>A i j*z j) q+b i*z (q+m+1)=0)/\z (q+m)=sumTo (λ j=>c j*z j) q:=by
  have e:∀ x,sumTo (λ k=>z ((S0 m q A b c).ins k)*Vv m q A b c ((S0 m q A b c).ins k) x) (m+1)+sumTo (λ j=>z ((S0 m q A b c).outs j)*Vv m q A b c ((S0 m q A b c).outs j) x) (q+1)
     =(if x<m+1 then z (q+x) else 0)+(sumTo (λ j=>z j*Vv m q A b c j x) q+z (q+m+1)*(if x<m then b x else 0)):=λ x=>by
    have e1:sumTo (λ k=>z ((S0 m q A b c).ins k)*Vv m q A b c ((S0 m q A b c).ins k) x) (m+1)=if x<m+1 then z (q+x) else 0:=by
      have:sumTo (λ k=>z ((S0 m q A b c).ins k)*Vv m q A b c ((S0 m q A b c).ins k) x) (m+1)=sumTo (λ k=>z (q+k)*U7 k x) (m+1):=sum_congr λ k hk=>by
        show z (q+k)*Vv m q A b c (q+k) x=_
        rw [b4R hk]
      rw [this]
      by_cases h:x<m+1
      . rw [if_pos h,sum_one h λ k _ hn=>by show z (q+k)*(if x=k then 1 else 0)=0; rw [if_neg (aY hn),bM]]
        show z (q+x)*(if x=x then 1 else 0)=_
        rw [if_pos rfl,dZ]
      . rw [if_neg h]
        refine sum_zero λ k hk=>?_
        show z (q+k)*(if x=k then 1 else 0)=0
        rw [if_neg (by lia),bM]
    have e2:sumTo (λ j=>z ((S0 m q A b c).outs j)*Vv m q A b c ((S0 m q A b c).outs j) x) (q+1)=sumTo (λ j=>z j*Vv m q A b c j x) q+z (q+m+1)*(if x<m then b x else 0):=by
      show sumTo (λ j=>z (if j<q then j else q+m+1)*Vv m q A b c (if j<q then j else q+m+1) x) q+z (if q<q then q else q+m+1)*Vv m q A b c (if q<q then q else q+m+1) x=_
      rw [if_neg (cA _),b4u];have:sumTo (λ j=>z (if j<q then j else q+m+1)*Vv m q A b c (if j<q then j else q+m+1) x) q=sumTo (λ j=>z j*Vv m q A b c j x) q:=sum_congr λ j hj=>by rw [if_pos hj]
      rw [this]
    rw [e1,e2]
  have am:∀ i,i<m->sumTo (λ j=>z j*Vv m q A b c j i) q=sumTo (λ j=>A i j*z j) q:=λ i hi=>sum_congr λ j hj=>by rw [b3j hj,if_pos hi,aV]
  have ob:sumTo (λ j=>z j*Vv m q A b c j m) q = - sumTo (λ j=>c j*z j) q:=by
    rw [show - sumTo (λ j=>c j*z j) q=(-1)*sumTo (λ j=>c j*z j) q by lia,<- A5];refine sum_congr λ j hj=>?_;rw [b3j hj,if_neg (cA _),if_pos rfl,cY,aV];lia
  constructor
  . intro h
    refine ⟨λ i hi=>?_,?_⟩
    . have:=h i
      rw [e i,if_pos (by lia),if_pos hi,am i hi,aV (z (q+m+1))] at this;lia
    . have:=h m
      rw [e m,if_pos (by lia),if_neg (cA _),ob,bM] at this;lia
  . rintro ⟨h1,h2⟩ x
    rw [e x]
    by_cases c1:x<m
    . have:=h1 x c1
      rw [if_pos (by lia),if_pos c1,am x c1,aV (z (q+m+1))];lia
    . by_cases c2:x=m
      . subst c2
        rw [if_pos (by lia),if_neg (cA _),ob,bM];lia
      . rw [if_neg (by lia),if_neg c1,bM,sum_zero λ j hj=>by rw [b2N (by lia),bM]]
        rfl
end
def valIn (m:Nat) (S:Bo) (q v:Nat):Int:=sumTo (λ i=>if S.ins i=v then S.T i q else 0) m
def valOut (m q:Nat) (S:Bo) (v:Nat):Int:=sumTo (λ j=>if S.outs j=v then S.T m j else 0) q
theorem a6x {g:Nat->Int}:∀ {n:Nat},(∀ k,k<n->0<=g k)->0<=sumTo g n
 | 0,_=>bL 0
 | n+1,h=>by
  have h1:=a6x (g:=g) (n:=n) λ k hk=>h k (by lia);have h2:=h n (by lia)
  show 0<=sumTo g n+g n
  lia
section
variable {m q:Nat} {A:Nat->Nat->Int} {b c:Nat->Int} {S:Bo}
structure Of (m q:Nat) (A:Nat->Nat->Int) (b c:Nat->Int) (S:Bo):Prop where
 w:Wf m q (Vv m q A b c) S
 k:∀ z,Ker m q (Vv m q A b c) S z ↔ Ker m q (Vv m q A b c) (S0 m q A b c) z
theorem of0 (hb:∀ i,i<m->0<=b i):Of m q A b c (S0 m q A b c):=⟨wf0 hb,λ _=>gY⟩
theorem Of.piv (O:Of m q A b c S) {r cc:Nat} (C:Choice m q S r cc):Of m q A b c (Lp.piv S r cc) :=
 ⟨O.w.pivot C.hr C.hc C.pos C.ratio,λ z=>(Ker.piv C.hr C.hc).trans (O.k z)⟩
theorem Of.valIn_nn (O:Of m q A b c S) (v:Nat):0<=valIn m S q v:=a6x λ i hi=>by
 split
 ·exact O.w.feas i hi
 ·exact bL 0
theorem Of.ray_val (O:Of m q A b c S) {v:Nat} (hv:v<q+m):ray m S q v = - valIn m S q v:=by
 unfold ray;rw [if_neg (by rw [O.w.oq]; lia)]
 show sumTo _ m+(if S.ins m=v then - S.T m q else 0)=_
 rw [if_neg (by rw [O.w.im]; lia),dO];unfold valIn;rw [show - sumTo (λ i=>if S.ins i=v then S.T i q else 0) m=(-1)*sumTo (λ i=>if S.ins i=v then S.T i q else 0) m by lia,<- A5];refine sum_congr λ i _=>?_
 split <;> lia
theorem Of.primal (O:Of m q A b c S):(∀ i,i<m->sumTo (λ j=>A i j*valIn m S q j) q+valIn m S q (q+i)=b i*S.d)/\sumTo (λ j=>c j*valIn m S q j) q=S.T m q:=by
 have K:=(ker0.mp ((O.k _).mp (O.w.ray_ker (show q<q+1 by lia))));have co:ray m S q (q+m+1)=S.d:=by rw [<- O.w.oq]; exact Wf.ray_c
 have oo:ray m S q (q+m) = - S.T m q:=by rw [<- O.w.im]; exact O.w.ray_in (by lia) (by lia)
 have am:∀ g:Nat->Int,sumTo (λ j=>g j*ray m S q j) q = - sumTo (λ j=>g j*valIn m S q j) q:=λ g=>by
  rw [show - sumTo (λ j=>g j*valIn m S q j) q=(-1)*sumTo (λ j=>g j*valIn m S q j) q by lia,<- A5];refine sum_congr λ j hj=>?_;rw [O.ray_val (by lia),cY];lia
 refine ⟨λ i hi=>?_,?_⟩
 ·have:=K.1 i hi
  rw [O.ray_val (by lia),am,co] at this;lia
 ·have:=K.2
  rw [oo,am] at this;lia
theorem Of.valOut_nn (h:∀ j,j<q->0<=S.T m j) (v:Nat):0<=valOut m q S v:=a6x λ j hj=>by
 split
 ·exact h j hj
 ·exact bL 0
theorem a9Z (O:Of m q A b c S) (z:Nat->Int):sumTo (λ j=>S.T m j*z (S.outs j)) q=sumTo (λ v=>valOut m q S v*z v) (q+m):=by
 have e:∀ v,v<q+m->valOut m q S v*z v=sumTo (λ j=>(if S.outs j=v then S.T m j else 0)*z v) q:=λ v _=>by
  unfold valOut;rw [aV,<- A5];exact sum_congr λ j _=>aV _ _
 rw [sum_congr e,Y5];refine sum_congr λ j hj=>?_;rw [sum_one (O.w.ob j hj) λ v _ hn=>by rw [if_neg (aY hn),dG],if_pos rfl]
theorem Of.row_goal (O:Of m q A b c S) {z:Nat->Int} (h:Ker m q (Vv m q A b c) (S0 m q A b c) z):S.d*z (q+m)+sumTo (λ v=>valOut m q S v*z v) (q+m)+S.T m q*z (q+m+1)=0:=by
 have R:=O.w.row_of ((O.k z).mpr h) (show m<m+1 by lia);unfold a3A at R
 replace R:S.d*z (S.ins m)+(sumTo (λ j=>S.T m j*z (S.outs j)) q+S.T m q*z (S.outs q))=0:=R
 rw [O.w.im,O.w.oq,a9Z O] at R;lia
theorem a1v {g:Nat->Int} (n:Nat):∀ k:Nat,sumTo g (n+k)=sumTo g n+sumTo (λ i=>g (n+i)) k
 | 0=>(dO _).symm
 | k+1=>by
  show sumTo g (n+k)+g (n+k)=sumTo g n+(sumTo (λ i=>g (n+i)) k+g (n+k))
  rw [a1v n k];lia
theorem Of.dual (O:Of m q A b c S):(∀ j,j<q->sumTo (λ i=>A i j*valOut m q S (q+i)) m=c j*S.d+valOut m q S j)/\sumTo (λ i=>b i*valOut m q S (q+i)) m=S.T m q:=by
 constructor
 ·intro j hj
  have hk:Ker m q (Vv m q A b c) (S0 m q A b c) (λ v=>if v<q then (if v=j then 1 else 0) else if v<q+m then - A (v - q) j else if v=q+m then c j else 0):=by
   refine ker0.mpr ⟨λ i hi=>?_,?_⟩
   ·rw [if_neg (by lia),if_pos (by lia),show q+i - q=i by lia,if_neg (by lia),if_neg (by lia),if_neg (by lia),bM,sum_one hj λ k hk hn=>by rw [if_pos hk,if_neg hn,bM],if_pos hj,if_pos rfl]
    lia
   ·rw [if_neg (by lia),if_neg (by lia),if_pos rfl,sum_one hj λ k hk hn=>by rw [if_pos hk,if_neg hn,bM],if_pos hj,if_pos rfl]
    lia
  have R:=O.row_goal hk;rw [if_neg (by lia),if_neg (by lia),if_pos rfl,if_neg (by lia),if_neg (by lia),if_neg (by lia),bM,a1v,sum_one hj λ k hk hn=>by rw [if_pos hk,if_neg hn,bM],if_pos hj,if_pos rfl] at R;have e:sumTo (λ i=>valOut m q S (q+i)*(if q+i<q then (if q+i=j then 1 else 0) else if q+i<q+m then - A (q+i - q) j else if q+i=q+m then c j else 0)) m = - sumTo (λ i=>A i j*valOut m q S (q+i)) m:=by
   rw [show - sumTo (λ i=>A i j*valOut m q S (q+i)) m=(-1)*sumTo (λ i=>A i j*valOut m q S (q+i)) m by lia,<- A5];refine sum_congr λ i hi=>?_;rw [if_neg (by lia),if_pos (by lia),show q+i - q=i by lia,cY,aV];lia
  rw [e,aV S.d] at R;lia
 ·have hk:Ker m q (Vv m q A b c) (S0 m q A b c) (λ v=>if v<q then 0 else if v<q+m then b (v - q) else if v=q+m then 0 else -1):=by
   refine ker0.mpr ⟨λ i hi=>?_,?_⟩
   ·rw [if_neg (by lia),if_pos (by lia),show q+i - q=i by lia,if_neg (by lia),if_neg (by lia),if_neg (by lia),sum_zero λ k hk=>by rw [if_pos hk,bM]]
    lia
   ·rw [if_neg (by lia),if_neg (by lia),if_pos rfl,sum_zero λ k hk=>by rw [if_pos hk,bM]]
  have R:=O.row_goal hk;rw [if_neg (by lia),if_neg (by lia),if_pos rfl,if_neg (by lia),if_neg (by lia),if_neg (by lia),bM,a1v,sum_zero λ k hk=>by rw [if_pos hk,bM]] at R;have e:sumTo (λ i=>valOut m q S (q+i)*(if q+i<q then 0 else if q+i<q+m then b (q+i - q) else if q+i=q+m then 0 else -1)) m=sumTo (λ i=>b i*valOut m q S (q+i)) m :=
   sum_congr λ i hi=>by rw [if_neg (by lia),if_pos (by lia),show q+i - q=i by lia,aV]
  rw [e] at R;lia
end
end Lp
namespace Rim
open PySem L2
def V6 (i:Nat):Stmt:=PySem.Challenge.pw_rimhouse_k35_whole_houses_in_another_ord.main.body.getD i (.Pass ⟨0,0,0,0⟩)
abbrev b3i:Stmt:=V6 6
abbrev b3b:Stmt:=V6 7
abbrev b4e:Stmt:=V6 13
abbrev a6h:Stmt:=V6 15
abbrev P1:Stmt:=V6 17
abbrev a5a:Stmt:=V6 20
abbrev T3:Stmt:=V6 22
abbrev a0g:Stmt:=V6 23
abbrev a9C:Stmt:=V6 38
abbrev a6z:Stmt:=V6 39
abbrev a2O:Stmt:=V6 45
abbrev a4S:Stmt:=V6 47
abbrev a9x:Stmt:=V6 42
abbrev a1O:Stmt:=V6 24
abbrev a4H:Stmt:=V6 40
abbrev a1z:Stmt:=V6 25
abbrev a6w:Stmt:=V6 27
abbrev a0c:Stmt:=V6 29
abbrev a9e:Stmt:=V6 51
abbrev a6I:Stmt:=V6 52
abbrev b0x:Stmt:=V6 54
abbrev a1A:Stmt:=V6 55
abbrev a2j:Stmt:=V6 58
abbrev X3:Stmt:=V6 8
abbrev a1H:Stmt:=V6 9
abbrev a0D:Stmt:=V6 10
abbrev N5:Stmt:=V6 11
abbrev V4:Stmt:=V6 21
abbrev R0:Stmt:=V6 31
abbrev Q1:Stmt:=V6 32
abbrev Q4:Stmt:=V6 33
abbrev U8:Stmt:=V6 35
abbrev R6:Stmt:=V6 36
abbrev a0k:Stmt:=V6 43
abbrev a4X:Stmt:=V6 49
abbrev S4:Stmt:=V6 56
abbrev B8:Stmt:=V6 57
abbrev a0M:Stmt:=V6 16
abbrev a5h:Stmt:=V7 a0M 0
abbrev a4V:Stmt:=V7 a0M 1
abbrev a6O:Stmt:=V7 a0M 2
abbrev a6e:Stmt:=V7 a0M 3
abbrev R7:Stmt:=V7 a0M 4
abbrev b0P:Stmt:=V7 a0M 5
abbrev b3O:Stmt:=V7 a0M 6
abbrev b3h:Pos:=⟨62,32,62,64⟩
structure w8 (mg:Str->Option Value):Prop where
 len:mg "len"=none
 all:mg "all"=none
 any:mg "any"=none
 max:mg "max"=none
 min:mg "min"=none
 sum:mg "sum"=none
 tuple:mg "tuple"=none
 list:mg "list"=none
 int:mg "int"=none
 bool:mg "bool"=none
 range:mg "range"=none
 isi:mg "isinstance"=none
 abs:mg "abs"=none
 zip:mg "zip"=none
 enum:mg "enumerate"=none
 ve:mg "ValueError"=none
 so:mg "sorted"=none
def b6E (K:W.Frag):List V->Hp->VK->Prop:=λ xs H Q=>∃ p ys,xs=[.ref p]/\(SqL K H p ys\/SqT K H p ys)/\Q (.int (ys.length:Int)) H
theorem b3d (K:W.Frag) {X:Cx} (h:X.K=K):O8 X (.builtin "len") (b6E K):=by subst h; exact j6
theorem U6 (K:W.Frag) {X:Cx} (h:X.K=K):IxR X (b4G K):=by subst h; exact j5
theorem D9 (K:W.Frag) {X:Cx} {es:List Expr} {k:Nat} {t:TGs} {n:Nat} {pos:Pos} (h:X.K=K) (hc:X.calm=true) (hp:PGs X es t) (hn:(assignEach es X.env).length=n:=by rfl) (hst:(assignEach es X.env).findIdx? (·.1)=none:=by rfl):PG X (.Tuple es k pos) (a5m K n t):=by subst h; exact S5 hc hp hn hst
def b5g (K:W.Frag):List V->Hp->VK->Prop:=λ xs H Q=>∃ p ys,xs=[.ref p]/\(SqL K H p ys\/SqT K H p ys)/\∀ l,H l=none->Q (.ref l) (upd H l (.lst ys))
theorem a7w (K:W.Frag) {X:Cx} (h:X.K=K):O8 X (.type "list") (b5g K):=by subst h; exact C8
def vI:V->Int
 | .int i=>i
 | _=>0
theorem P2 {ns:List Int} {i:Nat} {x:V} (h:(ns.map V.int)[i]?=some x):∃ k,x=.int k:=by
 rw [aE] at h
 cases hn:ns[i]? with
 | none=>rw [hn] at h; cases h
 | some k=>rw [hn] at h; cases h; exact ⟨k,rfl⟩
theorem a7V {N:VK} {b b':Bool} {H:Hp} (h:N (.bl b) H) (e:b'=b):N (.bl b') H:=by rw [e]; exact h
abbrev c7:=List Int×List Int
def HS (K:W.Frag) (H:Hp) (v:V) (h:c7):Prop:=∃ a t g,v=.ref a/\SqT K H a [.ref t,.ref g]/\SqT K H t (h.1.map V.int)/\SqT K H g (h.2.map V.int)
abbrev Bk (K:W.Frag) (H:Hp):List V->List c7->Prop:=cS (HS K H)
theorem HS.same {K:W.Frag} {H H':Hp} {v:V} {h:c7} (e:Same H H') (x:HS K H v h):HS K H' v h:=by
 obtain ⟨a,t,g,h0,h1,h2,h3⟩:=x;exact ⟨a,t,g,h0,e.tseq h1,e.tseq h2,e.tseq h3⟩
theorem Bk.same {K:W.Frag} {H H':Hp} {vs:List V} {hs:List c7} (e:Same H H') (x:Bk K H vs hs):Bk K H' vs hs:=Paired.imp' (λ _ _ r=>HS.same e r) x
theorem Paired.at {α β:Type} {F:α->β->Prop}:∀ {l₁:List α} {l₂:List β},cS F l₁ l₂->∀ {i:Nat} {x:α},l₁[i]?=some x->∃ y,l₂[i]?=some y/\F x y
 | _,_,.nil,_,_,e=>by simp at e
 | _,_,.cons r _,0,_,e=>by simp at e; subst e; exact ⟨_,rfl,r⟩
 | _,_,.cons _ t,i+1,x,e=>by
  obtain ⟨y,h1,h2⟩:=Paired.at t (i:=i) (x:=x) (by simpa using e);exact ⟨y,by simpa using h1,h2⟩
def A3 (q:Nat) (S:Lp.Bo) (i:Nat):List Int:=(aD (q+1)).map (S.T i)
def O9 (q:Nat) (S:Lp.Bo):List Int:=(aD q).map λ j=>(S.outs j:Int)
def T5 (m:Nat) (S:Lp.Bo):List Int:=(aD m).map λ i=>(S.ins i:Int)
abbrev bdF (q:Nat) (d:Int) (ca oa ia:Addr):List (Str×V):=[("many",.int q),("scale",.int d),("cells",.ref ca),("outs",.ref oa),("ins",.ref ia)]
structure Bd (C:Addr) (H:Hp) (p dx ca oa ia:Addr) (rs:List Addr) (m q:Nat) (S:Lp.Bo):Prop where
 obj:H p=some (.ins C dx (bdF q S.d ca oa ia))
 cel:H ca=some (.lst (rs.map V.ref))
 len:rs.length=m+1
 row:∀ i r,rs[i]?=some r->H r=some (.lst ((A3 q S i).map V.int))
 out:H oa=some (.lst ((O9 q S).map V.int))
 inn:H ia=some (.lst ((T5 m S).map V.int))
 ne:oa≠ia
structure TB (K:W.Frag) (C:Addr):Prop where
 cl:Cls K C
 nM:NoAttr K C "many"
 nS:NoAttr K C "scale"
 nC:NoAttr K C "cells"
 nO:NoAttr K C "outs"
 nI:NoAttr K C "ins"
section
variable {C:Addr} {H H':Hp} {p dx ca oa ia:Addr} {rs:List Addr} {m q:Nat} {S:Lp.Bo}
theorem Bd.rs_at (B:Bd C H p dx ca oa ia rs m q S) {i:Nat} (h:i<m+1):∃ r,rs[i]?=some r/\atI (rs.map V.ref) (i:Int)=some (.ref r):=by
 have h':i<rs.length:=by rw [B.len]; exact h
 refine ⟨rs[i],aF h',w6 ?_⟩;rw [aE,aF h']; rfl
theorem a0j {i j:Nat} (h:j<q+1):atI ((A3 q S i).map V.int) (j:Int)=some (.int (S.T i j)):=w6 (by
 unfold A3;rw [aE,aE,bQ h]; rfl)
theorem a7h {α:Type} {xs:List α} {n:Nat} {v:α} (hl:xs.length=n+1) (h:xs[n]?=some v):atI xs (-1)=some v:=by
 have e:ixN xs.length (-1)=some n:=by
  unfold ixN;rw [hl,if_neg (by decide),if_pos (by lia)]
  congr 1
  lia
 unfold atI; rw [e]; exact h
theorem a0h {i:Nat}:atI ((A3 q S i).map V.int) (-1)=some (.int (S.T i q)):=a7h (n:=q) (by unfold A3; simp) (by
 unfold A3;rw [aE,aE,bQ (eW _)]; rfl)
theorem Bd.rs_last (B:Bd C H p dx ca oa ia rs m q S):∃ r,rs[m]?=some r/\atI (rs.map V.ref) (-1)=some (.ref r):=by
 have h':m<rs.length:=by rw [B.len]; exact eW _
 refine ⟨rs[m],aF h',a7h (n:=m) (by simpa using B.len) ?_⟩;rw [aE,aF h']; rfl
theorem a2l {i:Nat} (h:i<m):atI ((T5 m S).map V.int) (i:Int)=some (.int (S.ins i)):=w6 (by
 unfold T5;rw [aE,aE,bQ h]; rfl)
theorem a3t {j:Nat} (h:j<q):atI ((O9 q S).map V.int) (j:Int)=some (.int (S.outs j)):=w6 (by
 unfold O9;rw [aE,aE,bQ h]; rfl)
theorem Bd.same1 {P:Addr} (B:Bd C H p dx ca oa ia rs m q S) (e:∀ b o,H b=some o->(∀ ps,o≠.tbl ps)->H' b=some o):Bd C H' p dx ca oa ia rs m q S :=
 ⟨e _ _ B.obj λ _=>nofun,e _ _ B.cel λ _=>nofun,B.len,λ i r h=>e _ _ (B.row i r h) λ _=>nofun,e _ _ B.out λ _=>nofun,e _ _ B.inn λ _=>nofun,B.ne⟩
def Sz (n m q:Nat) (S:Lp.Bo):Prop:=(∀ i j,i<m+1->j<q+1->Big n (S.T i j))/\Big n S.d
end
section
variable {P:Program} {w:World} {K:W.Frag} {mg:Str->Option Value} {base:Heap} {f:Addr} {fd:FuncData} {n:Nat} {C:Addr}
theorem b0k {a b:Nat} {x:Int} (h:Big a x) (hab:a<=b):Big b x:=bA h (fB (by decide) hab)
def a1B (q:Nat) (S:Lp.Bo) (i o c:Nat):Bool:=if S.T i q*S.T o c=S.T o q*S.T i c then decide (S.ins i<S.ins o) else decide (S.T i q*S.T o c<S.T o q*S.T i c)
def a7m (C:Addr):Sp:=λ vs H Q _=>∃ (p dx ca oa ia:Addr) (rs:List Addr) (m q:Nat) (S:Lp.Bo) (i o c:Nat),vs=[.ref p,.int i,.int o,.int c]/\Bd C H p dx ca oa ia rs m q S/\Sz 4000 m q S/\i<m/\o<m/\c<q+1/\Q (.bl (a1B q S i o c)) H
theorem scAhead:m6 ["self","row","other","column","left","right"] ["self","row","other","column"] (i5 a6e):=⟨rfl,rfl,rfl,by decide +kernel,rfl,by decide +kernel,by decide +kernel⟩
theorem a9g (F:Fun K "is_ahead" "Board.is_ahead" a6e f fd) (T:TB K C):FnOk P w K mg base E4 (n+1) f fd ["self","row","other","column"] (a7m C):=by
 refine F.ok scAhead (λ vs H Q E h=>?_) (λ cdv A outer s H vs Q E hr h=>?_)
 ·obtain ⟨p,dx,ca,oa,ia,rs,m,q,S,i,o,c,rfl,_⟩:=h
  rfl
 obtain ⟨p,dx,ca,oa,ia,rs,m,q,S,i,o,c,rfl,B,hz,hi,ho,hc,k⟩:=h;refine ⟨_,i6 (j4 (i:=4) scAhead.nd rfl (aC rfl) (j0 J7 (j7 j5 (j7 j5 (x6 (pv 0) rfl) (pv 1) (λ _ _=>rfl)) (R1 K5 d0) (λ _ _=>rfl)) (j7 j5 (j7 j5 (x6 (pv 0) rfl) (pv 2) (λ _ _=>rfl)) (pv 3) (λ _ _=>rfl))))
  (i6 (j4 (i:=5) scAhead.nd rfl (aC rfl) (j0 J7 (j7 j5 (j7 j5 (x6 (pv 0) rfl) (pv 2) (λ _ _=>rfl)) (R1 K5 d0) (λ _ _=>rfl)) (j7 j5 (j7 j5 (x6 (pv 0) rfl) (pv 1) (λ _ _=>rfl)) (pv 3) (λ _ _=>rfl))))
  (i6 (A7 (m9 a1e (pv 4) (pv 5) (p7 _)) (i8 (r6 (R5 a1q (j7 j5 (x6 (pv 0) rfl) (pv 1) (λ _ _=>rfl)) (j7 j5 (x6 (pv 0) rfl) (pv 2) (λ _ _=>rfl)) (p7 _)))) t7)
  (i8 (r6 (R5 a1q (pv 4) (pv 5) (p7 _)))))),?_⟩
 obtain ⟨ri,ei,ai⟩:=B.rs_at (i:=i) (by lia);obtain ⟨ro,eo,ao⟩:=B.rs_at (i:=o) (by lia);have bi:=SqL.of (K:=K) (B.row i ri ei);have bo:=SqL.of (K:=K) (B.row o ro eo);have z:∀ i j,i<m+1->j<q+1->Big 1000000 (S.T i j):=λ i j h1 h2=>b0k (hz.1 i j h1 h2) (by decide);refine ⟨_,rfl,p,C,dx,_,_,rfl,B.obj,T.cl,T.nC,rfl,_,rfl,ca,_,_,_,rfl,rfl,SqL.of B.cel,ai,_,rfl,ri,_,_,_,rfl,rfl,bi,a0h,?_⟩;refine ⟨_,rfl,p,C,dx,_,_,rfl,B.obj,T.cl,T.nC,rfl,_,rfl,ca,_,_,_,rfl,rfl,SqL.of B.cel,ao,_,rfl,ro,_,_,_,rfl,rfl,bo,a0j hc,_,_,rfl,rfl,⟨z _ _ (by lia) (by lia),z _ _ (by lia) (by lia)⟩,?_⟩;refine ⟨_,rfl,p,C,dx,_,_,rfl,B.obj,T.cl,T.nC,rfl,_,rfl,ca,_,_,_,rfl,rfl,SqL.of B.cel,ao,_,rfl,ro,_,_,_,rfl,rfl,bo,a0h,?_⟩;refine ⟨_,rfl,p,C,dx,_,_,rfl,B.obj,T.cl,T.nC,rfl,_,rfl,ca,_,_,_,rfl,rfl,SqL.of B.cel,ai,_,rfl,ri,_,_,_,rfl,rfl,bi,a0j hc,_,_,rfl,rfl,⟨z _ _ (by lia) (by lia),z _ _ (by lia) (by lia)⟩,?_⟩;refine ⟨_,rfl,_,rfl,rfl,_,rfl,?_⟩;unfold a1B at k;refine C5 (λ e=>?_) (λ e=>?_)
 ·have e':S.T i q*S.T o c=S.T o q*S.T i c:=by simpa using e
  rw [if_pos e'] at k;refine ⟨_,rfl,p,C,dx,_,_,rfl,B.obj,T.cl,T.nI,rfl,_,rfl,ia,_,_,_,rfl,rfl,SqL.of B.inn,a2l hi,_,rfl,p,C,dx,_,_,rfl,B.obj,T.cl,T.nI,rfl,_,rfl,ia,_,_,_,rfl,rfl,SqL.of B.inn,a2l ho,_,_,rfl,rfl,?_⟩;refine a7V k ?_;simp
 ·have e':¬ S.T i q*S.T o c=S.T o q*S.T i c:=by simpa using e
  rw [if_neg e'] at k;exact ⟨_,rfl,_,rfl,_,_,rfl,rfl,k⟩
end
structure a8R (P:Program) (w:World) (K:W.Frag) (mg:Str->Option Value) (base:Heap) (n:Nat) (C:Addr) (m:Str) (ps:List Str) (sp:Sp) (f:Addr) (fd:FuncData):Prop where
 ok:FnOk P w K mg base E4 n f fd ps sp
 bd:Binds K fd ps []
 me:b1O K C m f
def Bet (q:Nat) (S:Lp.Bo) (c r i:Nat):Prop:=S.T r q*S.T i c<=S.T i q*S.T r c/\(S.T r q*S.T i c=S.T i q*S.T r c->S.ins r<=S.ins i)
theorem a8O {ar cr ab cb ai ci:Int} (h1:ar*cb<=ab*cr) (h2:ab*ci<=ai*cb) (pr:0<cr) (pb:0<cb) (pi:0<ci):ar*ci<=ai*cr/\(ar*ci=ai*cr->ar*cb=ab*cr/\ab*ci=ai*cb):=by
 have e1:ar*cb*ci<=ab*cr*ci:=cI h1 (aL pi);have e2:ab*ci*cr<=ai*cb*cr:=cI h2 (aL pr);have x1:ar*cb*ci=ar*ci*cb:=by rw [aW,aV cb ci,<- aW]
 have x2:ab*cr*ci=ab*ci*cr:=by rw [aW,aV cr ci,<- aW]
 have x3:ai*cb*cr=ai*cr*cb:=by rw [aW,aV cb cr,<- aW]
 rw [x1] at e1;rw [x3] at e2;refine ⟨Int.le_of_mul_le_mul_right (a:=cb) (by lia) pb,λ e=>?_⟩;rw [e] at e1;refine ⟨Int.eq_of_mul_eq_mul_right (a:=ci) (by omega) (by rw [x1,e]; omega),gT (a:=cr) (by omega) (by rw [x3]; omega)⟩
theorem Bet.trans {q:Nat} {S:Lp.Bo} {c r b i:Nat} (h1:Bet q S c r b) (h2:Bet q S c b i) (pr:0<S.T r c) (pb:0<S.T b c) (pi:0<S.T i c):Bet q S c r i:=by
 obtain ⟨a,t⟩:=a8O h1.1 h2.1 pr pb pi;exact ⟨a,λ e=>aZ (h1.2 (t e).1) (h2.2 (t e).2)⟩
theorem a8i {q:Nat} {S:Lp.Bo} {c r b:Nat} (h:a1B q S r b c=true):Bet q S c r b:=by
 unfold a1B at h
 by_cases e:S.T r q*S.T b c=S.T b q*S.T r c
 ·rw [if_pos e] at h
  exact ⟨Int.le_of_eq e,λ _=>dX (of_decide_eq_true h)⟩
 ·rw [if_neg e] at h
  have:=of_decide_eq_true h;exact ⟨Int.le_of_lt this,λ z=>absurd z e⟩
theorem b2c {q:Nat} {S:Lp.Bo} {c r b:Nat} (h:a1B q S r b c=false):Bet q S c b r:=by
 unfold a1B at h
 by_cases e:S.T r q*S.T b c=S.T b q*S.T r c
 ·rw [if_pos e] at h
  exact ⟨Int.le_of_eq e.symm,λ _=>iK (of_decide_eq_false h)⟩
 ·rw [if_neg e] at h
  have:=of_decide_eq_false h;exact ⟨by lia,λ z=>absurd z.symm e⟩
section
variable {P:Program} {w:World} {K:W.Frag} {mg:Str->Option Value} {base:Heap} {f g:Addr} {fd gd:FuncData} {n:Nat} {C:Addr}
def a8b (C:Addr):Sp:=λ vs H Q _=>∃ (p dx ca oa ia:Addr) (rs:List Addr) (m q:Nat) (S:Lp.Bo) (c:Nat),vs=[.ref p,.int c]/\Bd C H p dx ca oa ia rs m q S/\Sz 4000 m q S/\m<1000/\c<q+1 ∧
 ((∀ i,i<m->¬ 0<S.T i c)->Q .non H)/\∀ r,r<m->0<S.T r c->(∀ i,i<m->0<S.T i c->Bet q S c r i)->Q (.int r) H
theorem scGoing:m6 ["self","column","best","row"] ["self","column"] (i5 a6O):=⟨rfl,rfl,rfl,by decide +kernel,rfl,by decide +kernel,by decide +kernel⟩
theorem a9n (F:Fun K "going" "Board.going" a6O f fd) (N:w8 mg) (T:TB K C) (A1:a8R P w K mg base n C "is_ahead" ["self","row","other","column"] (a7m C) g gd):FnOk P w K mg base E4 (n+1) f fd ["self","column"] (a8b C):=by
 refine F.ok scGoing (λ vs H Q E h=>?_) (λ cdv A outer s H vs Q E hr h=>?_)
 ·obtain ⟨p,dx,ca,oa,ia,rs,m,q,S,c,rfl,_⟩:=h
  rfl
 obtain ⟨p,dx,ca,oa,ia,rs,m,q,S,c,rfl,B,hz,hm,hc,kN,kI⟩:=h;refine ⟨_,i6 (j4 (i:=2) scGoing.nd rfl (aC rfl) J3)
  (i6 (P3 PassesOwn.never rfl (V2 rfl N.range (c5 (j9 j6 rfl N.len bR (c5 (x6 (pv 0) rfl) c6)) c6)) (i7 (i:=3) scGoing.nd rfl (aC rfl))
   (i8 (A7 (PW.pt (a3h (m9 a0u (j7 j5 (j7 j5 (x6 (pv 0) rfl) (pv 3) (λ _ _=>rfl)) (pv 1) (λ _ _=>rfl)) d0 (p7 _))
     (a1p (PW.pt (a7b (m9 a0J (pv 2) J3 (p7 _)) (a4y (a4z (a4s (pv 0) T.cl A1.me A1.ok hr A1.bd .nil r8 (c5 (pv 3) (c5 (pv 2) (c5 (pv 1) c6)))))))))))
    (i8 (j4 (i:=2) scGoing.nd rfl (aC rfl) (pv 3))) t7)))
  (i8 (r6 (pv 2)))),?_⟩
 have lm:((T5 m S).map V.int).length=m:=by unfold T5; simp
 refine ⟨_,rfl,p,C,dx,_,_,rfl,B.obj,T.cl,T.nI,rfl,ia,_,rfl,.inl (SqL.of B.inn),_,rfl,(by rw [lm]; lia),(by rw [lm]; lia),?_⟩;rw [lm,bF];refine a1M (n:=m) (λ k σ H'=>∃ (b o3:Option V),σ=[some (.ref p),some (.int c),b,o3]/\H'=H/\((b=some .non/\∀ i,i<k->¬ 0<S.T i c)\/∃ r:Nat,b=some (.int r)/\r<k/\0<S.T r c/\∀ i,i<k->0<S.T i c->Bet q S c r i))
  ⟨_,_,rfl,rfl,.inl ⟨rfl,λ i hi=>absurd hi (gJ _)⟩⟩ (λ k σ H' hk hP=>?_) λ σ H' hP=>?_
 ·obtain ⟨b,o3,rfl,rfl,hb⟩:=hP
  obtain ⟨rk,ek,ak⟩:=B.rs_at (i:=k) (by lia);have zk:(0:Int)+(k:Int)=(k:Int):=fC _;rw [zk];refine ⟨_,rfl,p,C,dx,_,_,rfl,B.obj,T.cl,T.nC,rfl,_,rfl,ca,_,_,_,rfl,rfl,SqL.of B.cel,ak,_,rfl,rk,_,_,_,rfl,rfl,SqL.of (B.row k rk ek),a0j hc,_,_,rfl,rfl,_,rfl,?_⟩;have keep:¬ 0<S.T k c->((b=some .non/\∀ i,i<k+1->¬ 0<S.T i c)\/∃ r:Nat,b=some (.int r)/\r<k+1/\0<S.T r c/\∀ i,i<k+1->0<S.T i c->Bet q S c r i):=λ hn=>by
   rcases hb with ⟨e,hb⟩ | ⟨r,e,h1,h2,h3⟩
   ·refine .inl ⟨e,λ i hi=>?_⟩
    by_cases z:i=k
    ·subst z; exact hn
    ·exact hb i (by lia)
   ·refine .inr ⟨r,e,by lia,h2,λ i hi hp=>?_⟩
    by_cases z:i=k
    ·subst z; exact absurd hp hn
    ·exact h3 i (by lia) hp
  refine C5 (λ d=>?_) (λ d=>?_)
  ·have d':0<S.T k c:=of_decide_eq_true d
   rcases hb with ⟨rfl,hb⟩ | ⟨r,rfl,h1,h2,h3⟩
   ·refine ⟨_,rfl,rfl,_,rfl,?_⟩
    refine C5 (λ _=>?_) (λ z=>absurd (decide_eq_true rfl) z);refine a4C ?_;refine ⟨_,rfl,⟨_,_,rfl,rfl,.inr ⟨k,rfl,by lia,d',λ i hi hp=>?_⟩⟩⟩
    by_cases z:i=k
    ·subst z; exact ⟨Int.le_refl _,λ _=>aH _⟩
    ·exact absurd hp (hb i (by lia))
   ·refine ⟨_,rfl,rfl,_,rfl,?_⟩
    refine C5 (λ z=>absurd (of_decide_eq_true z) (by nofun)) (λ _=>?_);refine ⟨_,rfl,p,dx,_,rfl,B.obj,rfl,_,rfl,_,rfl,_,rfl,?_⟩;refine ⟨p,dx,ca,oa,ia,rs,m,q,S,k,r,c,rfl,B,hz,hk,by lia,hc,_,rfl,?_⟩;refine C5 (λ e=>?_) (λ e=>?_)
    ·have bt:=a8i e
     refine ⟨_,rfl,⟨_,_,rfl,rfl,.inr ⟨k,rfl,by lia,d',λ i hi hp=>?_⟩⟩⟩
     by_cases z:i=k
     ·subst z; exact ⟨Int.le_refl _,λ _=>aH _⟩
     ·exact bt.trans (h3 i (by lia) hp) d' h2 hp
    ·have bt:=b2c (dH.mpr e)
     refine ⟨_,_,rfl,rfl,.inr ⟨r,rfl,by lia,h2,λ i hi hp=>?_⟩⟩
     by_cases z:i=k
     ·subst z; exact bt
     ·exact h3 i (by lia) hp
  ·have d':¬ 0<S.T k c:=λ z=>d (decide_eq_true z)
   exact ⟨_,_,rfl,rfl,keep d'⟩
 ·obtain ⟨b,o3,rfl,rfl,hb⟩:=hP
  rcases hb with ⟨rfl,hb⟩ | ⟨r,rfl,h1,h2,h3⟩
  ·exact ⟨_,rfl,kN hb⟩
  ·exact ⟨_,rfl,kI r h1 h2 h3⟩
end
abbrev b5S:Str:=("Board.coming"++".<locals>.")++"<lambda>"
abbrev LT (Pt:Addr) (H:Hp):Prop:=LamTab Pt b3h b5S H
section
variable {P:Program} {w:World} {K:W.Frag} {mg:Str->Option Value} {base:Heap} {f g c Pt:Addr} {fd gd:FuncData} {n:Nat} {C:Addr}
def a3q (C Pt:Addr):Sp:=λ vs H Q _=>∃ (p dx ca oa ia:Addr) (rs:List Addr) (m q:Nat) (S:Lp.Bo),vs=[.ref p]/\Bd C H p dx ca oa ia rs m q S/\q<1000/\LT Pt H ∧
 ∀ H',Same1 Pt H H'->LT Pt H'->((∀ j,j<q->¬ S.T m j<0)->Q .non H')/\∀ j,j<q->S.T m j<0->(∀ i,i<q->S.T m i<0->S.outs j<=S.outs i)->Q (.int j) H'
theorem scComing:m6 ["self","columns"] ["self"] (i5 a4V):=⟨rfl,rfl,rfl,by decide +kernel,rfl,by decide +kernel,by decide +kernel⟩
theorem b5n:(["column","self"]:List Str).Nodup:=by decide +kernel
theorem LamTab.new {Pt a:Addr} {pos:Pos} {qual:Str} {H:Hp} {o:HO} (T:LamTab Pt pos qual H) (h:H a=none):LamTab Pt pos qual (upd H a o):=T.same λ b u e=>by rw [i3 (i4 e h)]; exact e
def a8D (q:Nat) (S:Lp.Bo) (m:Nat):List Int:=((aD q).filter λ j=>decide (S.T m j<0)).map λ (j:Nat)=>(j:Int)
theorem b0T {q:Nat} {S:Lp.Bo} {m:Nat}:((aD q).map λ (i:Nat)=>V.int (0+(i:Int))).filter (λ v=>decide (S.T m (vI v).toNat<0))=(a8D q S m).map V.int:=by
 unfold a8D;rw [kS,aM];have e:((λ v=>decide (S.T m (vI v).toNat<0)) ∘ λ (i:Nat)=>V.int (0+(i:Int)))=λ j=>decide (S.T m j<0):=by
  funext j
  show decide (S.T m (vI (V.int (0+(j:Int)))).toNat<0)=_
  rw [show (vI (V.int (0+(j:Int)))).toNat=j from by simp [vI]]
 rw [e];refine cP λ j _=>?_;simp
theorem Bd.lam {H H':Hp} {p dx ca oa ia:Addr} {rs:List Addr} {m q:Nat} {S:Lp.Bo} (B:Bd C H p dx ca oa ia rs m q S) (T:LT Pt H) (e:Same1 Pt H H'):Bd C H' p dx ca oa ia rs m q S:=by
 refine B.same1 (P:=Pt) λ b o q n=>e b o (λ z=>?_) q;subst z;rcases T with t | ⟨c,t,_⟩
 ·rw [q] at t; exact n _ (aS t)
 ·rw [q] at t; exact n _ (aS t)
theorem a8N (F:Fun K "coming" "Board.coming" a4V f fd) (hcode:fd.code=.ref c) (CH:W.CodeHd base c Pt) (BM:X5 mg base) (N:w8 mg) (T:TB K C):FnOk P w K mg base E4 (n+3) f fd ["self"] (a3q C Pt):=by
 refine F.okC hcode scComing (λ vs H Q E h=>?_) (λ A outer s H vs Q E hr h=>?_)
 ·obtain ⟨p,dx,ca,oa,ia,rs,m,q,S,rfl,_⟩:=h
  rfl
 obtain ⟨p,dx,ca,oa,ia,rs,m,q,S,rfl,B,hq,L,k⟩:=h;refine ⟨_,i6 (b3K (i:=1) ["column"] [0] scComing.nd rfl rfl rfl (V2 rfl N.range (c5 (x6 (pv 0) rfl) c6)) (λ _ _ _ _=>i7 (i:=0) b5n rfl (aC rfl))
   (λ _ _ _ _=>m9 a1q (j7 (U6 K rfl) (j7 (U6 K rfl) (a5e K rfl (pv 1) rfl) (R1 K5 d0) (λ _ _=>rfl)) (pv 0) (λ _ _=>rfl)) d0 (p7 _))
   (λ _ _ _ _=>pv 0))
  (i8 (r6 (a8X (col:="column") (fr:=[0]) (c:=c) (P:=Pt) rfl (hr.mono (by lia)) rfl N.min rfl CH BM rfl rfl (by decide +kernel) rfl rfl rfl (λ _ _ _ _=>rfl) (c5 (pv 1) c6)
   (λ _ _ _ _=>j7 (U6 K rfl) (a5e K rfl (pv 1) rfl) (pv 0) (λ _ _=>rfl))))),?_⟩
 refine ⟨_,rfl,p,C,dx,_,_,rfl,B.obj,T.cl,T.nM,rfl,_,rfl,(by lia),(by lia),?_⟩;rw [bF];intro l hl;obtain ⟨rm,em,am⟩:=B.rs_last;refine b2i a6A hl (by rw [aA,cQ]; exact j8 (by lia)) (λ v=>decide (S.T m (vI v).toNat<0)) (λ i x H' N' hx e hN=>?_) ?_
 ·have hx':x=.int (i:Int)/\i<q:=by
   rw [aE] at hx
   by_cases hi:i<q
   ·rw [bQ hi] at hx
    refine ⟨?_,hi⟩;have:=aS hx;rw [<- this]; simp
   ·rw [bH (by simp; lia)] at hx; cases hx
  obtain ⟨rfl,hi⟩:=hx';have e':∀ b o,H b=some o->H' b=some o:=λ b o z=>e b o z;refine ⟨_,rfl,p,C,dx,_,_,rfl,e' _ _ B.obj,T.cl,T.nC,rfl,_,rfl,ca,_,_,_,rfl,rfl,SqL.of (e' _ _ B.cel),am,_,rfl,rm,_,_,_,rfl,rfl,SqL.of (e' _ _ (B.row m rm em)),a0j (by lia),_,_,rfl,rfl,_,rfl,?_⟩;have ev:decide (S.T m (vI (V.int (i:Int))).toNat<0)=decide (S.T m i<0):=by rw [show (vI (V.int (i:Int))).toNat=i from by simp [vI]]
  rw [ev] at hN;exact hN
 rw [b0T];have L2':LT Pt (upd H l (.lst ((a8D q S m).map V.int))):=LamTab.new L hl;have B2:Bd C (upd H l (.lst ((a8D q S m).map V.int))) p dx ca oa ia rs m q S:=B.same1 (P:=Pt) λ b o z _=>by rw [i3 (i4 z hl)]; exact z
 have mem:∀ x:Int,x∈a8D q S m ↔ ∃ j:Nat,x=(j:Int)/\j<q/\S.T m j<0:=λ x=>by
  unfold a8D;rw [aK];constructor
  ·rintro ⟨j,hj,rfl⟩
   rw [dL,bO] at hj;exact ⟨j,rfl,hj.1,of_decide_eq_true hj.2⟩
  ·rintro ⟨j,rfl,h1,h2⟩
   exact ⟨j,by rw [dL,bO]; exact ⟨h1,decide_eq_true h2⟩,rfl⟩
 refine ⟨_,rfl,l,_,λ x=>(S.outs x.toNat:Int),rfl,SqL.of upd_same,L2',λ H2 e2 L3=>?_⟩;have B3:=B2.lam L2' e2;have e3:Same1 Pt H H2:=λ b o hb z=>e2 b o hb (by rw [i3 (i4 z hl)]; exact z);obtain ⟨k1,k2⟩:=k H2 e3 L3;refine ⟨λ x hx=>?_,λ en=>k1 λ j hj hn=>?_,λ M hM hmin=>?_⟩
 ·obtain ⟨j,rfl,hj,hn⟩:=(mem x).mp hx
  exact ⟨_,rfl,p,C,dx,_,_,rfl,B3.obj,T.cl,T.nO,rfl,_,rfl,oa,_,_,_,rfl,rfl,SqL.of B3.out,a3t hj,by simp,rfl⟩
 ·have:=(mem (j:Int)).mpr ⟨j,rfl,hj,hn⟩
  rw [en] at this
  cases this
 ·obtain ⟨j,rfl,hj,hn⟩:=(mem M).mp hM
  refine k2 j hj hn λ i hi hni=>?_;have:=hmin (i:Int) ((mem _).mpr ⟨i,rfl,hi,hni⟩)
  simpa using this
end
def a0G (xs ys:List Int) (c:Nat) (d:Int):List Int:=(bB (λ x y=>(x*ys.getD c 0 - xs.getD c 0*y) / d) xs ys).set c (-(xs.getD c 0))
theorem a5v {ns:List Int} {i:Nat} (h:i<ns.length):atI (ns.map V.int) (i:Int)=some (.int (ns.getD i 0)):=w6 (by
 rw [aE,aF h,aG,aF h]; rfl)
theorem U1 {ns:List Int} {i:Nat} {x:V} (h:(ns.map V.int)[i]?=some x):∃ k,x=.int k/\k∈ns:=by
 rw [aE] at h
 cases hn:ns[i]? with
 | none=>rw [hn] at h; cases h
 | some k=>rw [hn] at h; cases h; exact ⟨k,rfl,aJ hn⟩
theorem a4D (F:V->V->V) (G:Int->Int->Int) (h:∀ a b,F (.int a) (.int b)=.int (G a b)):∀ xs ys:List Int,bB F (xs.map V.int) (ys.map V.int)=(bB G xs ys).map V.int
 | [],_=>by simp
 | _::_,[]=>by simp
 | x::xs,y::ys=>by simp [h,a4D F G h xs ys]
theorem a3O {ns:List Int} {i:Nat} (h:i<ns.length):ns.getD i 0∈ns:=by
 rw [aG,aF h]; exact cD h
section
variable {P:Program} {w:World} {K:W.Frag} {mg:Str->Option Value} {base:Heap} {f g c Pt:Addr} {fd gd:FuncData} {n:Nat} {C:Addr}
def a4A (K:W.Frag):Sp:=λ vs H Q _=>∃ (a b:Addr) (c:Nat) (d:Int) (xs ys:List Int),vs=[.ref a,.ref b,.int c,.int d]/\SqL K H a (xs.map V.int)/\SqL K H b (ys.map V.int)/\xs.length=ys.length/\xs.length<=1000/\c<xs.length ∧
 0<d/\Big 4000 d/\(∀ x∈xs,Big 4000 x)/\(∀ y∈ys,Big 4000 y)/\∀ (r:Addr) (H':Hp),Same H H'->H r=none->H' r=some (.lst ((a0G xs ys c d).map V.int))->Q (.ref r) H'
theorem scSwept:m6 ["cells","lead","column","scale","factor","pivot","fresh"] ["cells","lead","column","scale"] (i5 a6h):=⟨rfl,rfl,rfl,by decide +kernel,rfl,by decide +kernel,by decide +kernel⟩
theorem b4L:(["cell","other","scale","factor","pivot"]:List Str).Nodup:=by decide +kernel
theorem a9A (F:Fun K "swept" "swept" a6h f fd) (N:w8 mg):FnOk P w K mg base E4 (n+1) f fd ["cells","lead","column","scale"] (a4A K):=by
 refine F.ok scSwept (λ vs H Q E h=>?_) (λ cdv A outer s H vs Q E hr h=>?_)
 ·obtain ⟨a,b,c,d,xs,ys,rfl,_⟩:=h
  rfl
 obtain ⟨a,b,c,d,xs,ys,rfl,ha,hb,hl,hz,hc,hd,hD,hx,hy,k⟩:=h;refine ⟨_,i6 (j4 (i:=4) scSwept.nd rfl (cC rfl) (j7 j5 (pv 0) (pv 2) (λ _ _=>rfl)))
  (i6 (j4 (i:=5) scSwept.nd rfl (cC rfl) (j7 j5 (pv 1) (pv 2) (λ _ _=>rfl)))
  (i6 (X9 (i:=6) ["cell","other"] [3,4,5] scSwept.nd rfl rfl rfl (a3i true true K rfl rfl N.zip (c5 (pv 0) (c5 (pv 1) c6)))
   (λ _ _ _ _=>D9 K (n:=2) rfl rfl (j3 (i7 (i:=0) b4L rfl (aC rfl)) (j3 (i7 (i:=1) b4L rfl (aC rfl)) v7)))
   (λ _ _ _ _=>j0 Y9 (j0 a2U (j0 J7 (pv 0) (pv 4)) (j0 J7 (pv 3) (pv 1))) (pv 2)))
  (i6 (K4 (R1 K5 (pv 4)) (W6 (pv 6) (pv 2) N4))
  (i8 (r6 (pv 6)))))),?_⟩
 have hc2:c<ys.length:=by lia
 refine ⟨_,rfl,_,rfl,a,_,_,_,rfl,rfl,ha,a5v hc,?_⟩;refine ⟨_,rfl,_,rfl,b,_,_,_,rfl,rfl,hb,a5v hc2,?_⟩;refine ⟨_,rfl,_,rfl,a,b,rfl,⟨_,ha⟩,⟨_,hb⟩,λ l hl'=>?_⟩;have up:∀ {x},Big 4000 x->Big 1000000 x:=λ h=>b0k h (by decide);refine b0t ha hb hl' (by rw [aA]; exact j8 hz) (λ u v=>.int ((vI u*ys.getD c 0 - xs.getD c 0*vI v) / d)) (λ i u v H' N' hu hv e hN=>?_) (λ H' e hH=>?_)
 ·obtain ⟨x,rfl,hxm⟩:=U1 hu
  obtain ⟨y,rfl,hym⟩:=U1 hv;have dl:d<2 ^ 8000:=by
   have h1:d.natAbs<2 ^ 4000:=hD;have h2:(2:Nat) ^ 4000<=2 ^ 8000:=fB (by decide) (by decide);have h3:d=(d.natAbs:Int):=by lia
   rw [h3]
   exact_mod_cast bA h1 h2
  refine ⟨_,rfl,_,rfl,_,_,rfl,rfl,⟨up (hx _ hxm),up (hy _ (a3O hc2))⟩,_,rfl,_,rfl,_,_,rfl,rfl,⟨up (hx _ (a3O hc)),up (hy _ hym)⟩,_,_,rfl,rfl,_,rfl,_,_,rfl,rfl,⟨hd,dl⟩,hN⟩
 ·rw [a4D _ (λ x y=>(x*ys.getD c 0 - xs.getD c 0*y) / d) (λ _ _=>rfl)] at hH
  refine ⟨_,rfl,_,rfl,?_⟩;refine ⟨_,rfl,_,rfl,l,_,_,c,rfl,rfl,hH,?_,?_⟩
  ·unfold ixN
   rw [aA,eL,if_pos (by lia),if_pos (by lia),bF]
  ·refine ⟨_,rfl,k l _ ?_ hl' ?_⟩
   ·exact λ b' o q=>by rw [i3 (i4 q hl')]; exact e b' o q
   ·rw [upd_same]
    unfold a0G;rw [<- iV]
end
structure D3 (P:Program) (w:World) (K:W.Frag) (mg:Str->Option Value) (base:Heap) (n:Nat) (x:Str) (ps:List Str) (sp:Sp) (fa:Addr) (d:FuncData):Prop where
 ok:FnOk P w K mg base E4 n fa d ps sp
 b:Binds K d ps []
 k:W.keepIn K (.ref fa)=true
 m:mg x=some (.ref fa)
theorem E1 {q:Nat} {S:Lp.Bo} {i:Nat}:(A3 q S i).length=q+1:=by unfold A3; simp
theorem a3Z {q:Nat} {S:Lp.Bo} {i j:Nat} (h:j<q+1):(A3 q S i).getD j 0=S.T i j:=by
 unfold A3;rw [aG,aE,bQ h]; rfl
theorem a8w {q:Nat} {S:Lp.Bo} {i r c:Nat} (hi:i≠r) (hc:c<q):a0G (A3 q S i) (A3 q S r) c S.d=A3 q (Lp.piv S r c) i:=by
 refine cK λ j=>?_;unfold a0G
 by_cases hj:j<q+1
 ·rw [a3Z (by lia),a3Z (by lia)]
  have e:(A3 q (Lp.piv S r c) i)[j]?=some ((Lp.piv S r c).T i j):=by unfold A3; rw [aE,bQ hj]; rfl
  have hT:(Lp.piv S r c).T i j=if j=c then - S.T i c else (S.T i j*S.T r c - S.T i c*S.T r j) / S.d:=by
   show (if i=r then _ else _)=_
   rw [if_neg hi]
  rw [e,hT]
  by_cases hjc:j=c
  ·subst hjc
   rw [cM (by rw [eL,E1,E1]; lia),if_pos rfl]
  ·rw [bV (aY hjc),hU,if_neg hjc]
   unfold A3;rw [aE,aE,bQ hj]; rfl
 ·rw [bH (by rw [cJ,eL,E1,E1]; lia),bH (by rw [E1]; lia)]
theorem a9c {q:Nat} {S:Lp.Bo} {r c:Nat} (hc:c<q):(((A3 q S r).map V.int).take c++[V.int S.d])++((A3 q S r).map V.int).drop (c+1)=(A3 q (Lp.piv S r c) r).map V.int:=by
 have hT:∀ j,(Lp.piv S r c).T r j=if j=c then S.d else S.T r j:=λ j=>by
  show (if r=r then _ else _)=_
  rw [if_pos rfl]
 have hl:((A3 q S r).map V.int).length=q+1:=by rw [aA,E1]
 refine cK λ j=>?_
 by_cases hj:j<q+1
 ·have e:((A3 q (Lp.piv S r c) r).map V.int)[j]?=some (.int (if j=c then S.d else S.T r j)):=by
   rw [aE]; unfold A3; rw [aE,bQ hj,<- hT]; rfl
  have e0:((A3 q S r).map V.int)[j]?=some (.int (S.T r j)):=by
   rw [aE]; unfold A3; rw [aE,bQ hj]; rfl
  rw [e];have lt:(((A3 q S r).map V.int).take c).length=c:=by rw [bU,hl]; lia
  by_cases h1:j<c
  ·rw [bK (by rw [aO,lt]; lia),bK (by lia),gF h1,e0,if_neg (by lia)]
  ·by_cases h2:j=c
   ·subst h2
    rw [bK (by rw [aO,lt]; simp),bZ (by lia),lt,eF,if_pos rfl]; rfl
   ·rw [bZ (by rw [aO,lt]; simp; lia),aO,lt,gW,if_neg h2]
    have:c+1+(j - (c+[V.int S.d].length))=j:=by simp; lia
    rw [this,e0]
 ·rw [bH (by rw [aO,aO,bU,cW,hl]; simp; lia),bH (by rw [aA,E1]; lia)]
theorem b1t {m:Nat} {S:Lp.Bo} {r c:Nat} (hr:r<m):((T5 m S).map V.int).set r (.int (S.outs c))=(T5 m (Lp.piv S r c)).map V.int:=by
 refine cK λ j=>?_;have hT:(Lp.piv S r c).ins j=if j=r then S.outs c else S.ins j:=rfl
 by_cases hj:j<m
 ·have e:((T5 m (Lp.piv S r c)).map V.int)[j]?=some (.int ((if j=r then S.outs c else S.ins j:Nat))):=by
   rw [aE]; unfold T5; rw [aE,bQ hj,<- hT]; rfl
  rw [e]
  by_cases h:j=r
  ·subst h
   rw [cM (by unfold T5; simp; lia),if_pos rfl]
  ·rw [bV (aY h),if_neg h,aE]
   unfold T5; rw [aE,bQ hj]; rfl
 ·rw [bH (by unfold T5; simp; lia),bH (by unfold T5; simp; lia)]
theorem b0r {q:Nat} {S:Lp.Bo} {r c:Nat} (hc:c<q):((O9 q S).map V.int).set c (.int (S.ins r))=(O9 q (Lp.piv S r c)).map V.int:=by
 refine cK λ j=>?_;have hT:(Lp.piv S r c).outs j=if j=c then S.ins r else S.outs j:=rfl
 by_cases hj:j<q
 ·have e:((O9 q (Lp.piv S r c)).map V.int)[j]?=some (.int ((if j=c then S.ins r else S.outs j:Nat))):=by
   rw [aE]; unfold O9; rw [aE,bQ hj,<- hT]; rfl
  rw [e]
  by_cases h:j=c
  ·subst h
   rw [cM (by unfold O9; simp; lia),if_pos rfl]
  ·rw [bV (aY h),if_neg h,aE]
   unfold O9; rw [aE,bQ hj]; rfl
 ·rw [bH (by unfold O9; simp; lia),bH (by unfold O9; simp; lia)]
theorem a1L {n i:Nat} (h:i<n):ixN n (i:Int)=some i:=by
 unfold ixN;rw [if_pos (by lia),if_pos (by lia),bF]
section
variable {P:Program} {w:World} {K:W.Frag} {mg:Str->Option Value} {base:Heap} {f g c Pt:Addr} {fd gd:FuncData} {n:Nat} {C:Addr}
def a2N (C:Addr):Sp:=λ vs H Q _=>∃ (p dx ca oa ia:Addr) (rs:List Addr) (m q:Nat) (S:Lp.Bo) (r c:Nat),vs=[.ref p,.int r,.int c]/\Bd C H p dx ca oa ia rs m q S/\Sz 4000 m q S/\r<m/\c<q/\m<900/\q<900/\0<S.d ∧
 ∀ (H':Hp) (ca':Addr) (rs':List Addr),Bd C H' p dx ca' oa ia rs' m q (Lp.piv S r c)->(∀ b o,b≠p->b≠oa->b≠ia->H b=some o->H' b=some o)->Q .non H'
theorem scEx:m6 ["self","row","column","lead","pivot"] ["self","row","column"] (i5 R7):=⟨rfl,rfl,rfl,by decide +kernel,rfl,by decide +kernel,by decide +kernel⟩
theorem b6C:(["cells","self","column","lead"]:List Str).Nodup:=by decide +kernel
noncomputable def exT {cdv:Value} {A:Around} {outer:List Env} {s:Shared} {H:Hp} {E:XK} {fb:Addr} {db:FuncData} (Cs:D3 P w K mg base n "swept" ["cells","lead","column","scale"] (a4A K) fb db)
  (hr:Room n (A.deeper (dB "Board.exchange" (i5 R7) s.heap.objs.size f cdv))) :
  { t:TS // PSs (M0 E4 P w K mg base ["self","row","column","lead","pivot"] "Board.exchange" (i5 R7) f cdv A outer s H E).nox (v5 R7) t } :=
 ⟨_,i6 (j4 (i:=3) scEx.nd rfl (cC rfl) (j7 j5 (x6 (pv 0) rfl) (pv 1) (λ _ _=>rfl)))
  (i6 (j4 (i:=4) scEx.nd rfl (aC rfl) (j7 j5 (pv 3) (pv 2) (λ _ _=>rfl)))
  (m8 (a0N (pv 0) (O3 ["cells"] [0,2,3] rfl (w4 (x6 (pv 0) rfl)) (λ _ _ _ _=>i7 (i:=0) b6C rfl (aC rfl))
   (λ _ _ _ _=>i9 Cs.ok hr rfl Cs.m Cs.k Cs.b .nil r8 (c5 (pv 0) (c5 (pv 3) (c5 (pv 2) (c5 (a5e K rfl (pv 1) rfl) c6)))))) rfl)
  (i6 (K4 (j0 B6 (j0 B6 (I0 P5 (pv 3) W5 (D4 (pv 2))) (v6 (c5 (x6 (pv 0) rfl) c6))) (I0 P5 (pv 3) (D4 (j0 C2 (pv 2) d0)) W5)) (W6 (x6 (pv 0) rfl) (pv 1) N4))
  (i6 (a0N (pv 0) (pv 4) rfl)
  (i8 (K4 (L9 (c5 (j7 j5 (x6 (pv 0) rfl) (pv 2) (λ _ _=>rfl)) (c5 (j7 j5 (x6 (pv 0) rfl) (pv 1) (λ _ _=>rfl)) c6)))
   (S5 rfl (j3 (W6 (x6 (pv 0) rfl) (pv 1) N4) (j3 (W6 (x6 (pv 0) rfl) (pv 2) N4) v7)))))))))⟩
end
def a5R:V->Addr
 | .ref a=>a
 | _=>0
section
variable {P:Program} {w:World} {K:W.Frag} {mg:Str->Option Value} {base:Heap} {f g c Pt:Addr} {fd gd:FuncData} {n:Nat} {C:Addr}
theorem a5U {m q i:Nat} {S:Lp.Bo} (h:Sz 4000 m q S) (hi:i<m+1):∀ x∈A3 q S i,Big 4000 x:=λ x hx=>by
 unfold A3 at hx;obtain ⟨j,hj,rfl⟩:=aK.mp hx;exact h.1 i j hi (bO.mp hj)
theorem a5G {fb:Addr} {db:FuncData} (F:Fun K "exchange" "Board.exchange" R7 f fd) (T:TB K C) (Cs:D3 P w K mg base n "swept" ["cells","lead","column","scale"] (a4A K) fb db) :
  FnOk P w K mg base E4 (n+1) f fd ["self","row","column"] (a2N C):=by
 refine F.ok scEx (λ vs H Q E h=>?_) (λ cdv A outer s H vs Q E hr h=>?_)
 ·obtain ⟨p,dx,ca,oa,ia,rs,m,q,S,r,c,rfl,_⟩:=h
  rfl
 obtain ⟨p,dx,ca,oa,ia,rs,m,q,S,r,c,rfl,B,hz,hrm,hc,hm,hq,hd,k⟩:=h;refine ⟨_,(exT Cs hr).2,?_⟩;obtain ⟨rl,er,ar⟩:=B.rs_at (i:=r) (by lia);have hrl:=B.row r rl er;have nrl:rl≠p:=a0v hrl B.obj (by intro z; cases z);have noa:oa≠p:=a0v B.out B.obj (by intro z; cases z);have nia:ia≠p:=a0v B.inn B.obj (by intro z; cases z);refine ⟨_,rfl,p,C,dx,_,_,rfl,B.obj,T.cl,T.nC,rfl,_,rfl,ca,_,_,_,rfl,rfl,SqL.of B.cel,ar,?_⟩;refine ⟨_,rfl,_,rfl,rl,_,_,_,rfl,rfl,SqL.of hrl,a0j (by lia),?_⟩;refine ⟨λ σ' H3=>∃ (l:Addr) (rs':List Addr),σ'=[some (.ref p),some (.int r),some (.int c),some (.ref rl),some (.int (S.T r c))]/\H3 p=some (.ins C dx (bdF q S.d l oa ia))/\H3 l=some (.lst (rs'.map V.ref))/\rs'.length=m+1/\H l=none ∧
  (∀ i a,rs'[i]?=some a->H a=none/\a≠l/\H3 a=some (.lst ((a0G (A3 q S i) (A3 q S r) c S.d).map V.int)))/\∀ b o,b≠p->H b=some o->H3 b=some o,?_,?_⟩
 ·refine ⟨_,rfl,p,C,dx,_,_,rfl,B.obj,T.cl,T.nC,rfl,ca,rfl,⟨_,SqL.of B.cel⟩,λ l hl=>?_⟩
  refine P6 (u9 (SqL.of B.cel)) hl (by rw [aA,B.len]; exact j8 (by lia)) (λ i y H2=>∃ a,y=.ref a/\H a=none/\a≠l/\H2 a=some (.lst ((a0G (A3 q S i) (A3 q S r) c S.d).map V.int)))
   (λ i y H2 H3 ⟨a,h1,h2,h3,h4⟩ e=>⟨a,h1,h2,h3,e a _ h3 h4⟩) (λ i x H2 ys N hx e hl2 hN=>?_) (λ ys H2 e hl2 len pr=>?_)
  ·rw [aE] at hx
   cases hri:rs[i]? with
   | none=>rw [hri] at hx; cases hx
   | some a =>
    rw [hri] at hx;have hx':V.ref a=x:=aS hx;subst hx';have hi:i<m+1:=by rw [<- B.len]; exact (aU.mp hri).1
    refine ⟨Wk.set (by decide),?_⟩;refine ⟨_,rfl,_,rfl,_,rfl,_,rfl,p,C,dx,_,_,rfl,e _ _ B.obj,T.cl,T.nS,rfl,?_⟩;refine ⟨a,rl,c,S.d,A3 q S i,A3 q S r,rfl,SqL.of (e _ _ (B.row i a hri)),SqL.of (e _ _ hrl),by rw [E1,E1],by rw [E1]; lia,by rw [E1]; lia,hd,hz.2,a5U hz hi,a5U hz (by lia),λ r' H3 s3 hn hr'=>?_⟩;refine hN _ _ s3 ⟨r',rfl,?_,λ z=>?_,hr'⟩
    ·cases q1:H r' with
     | none=>rfl
     | some o=>rw [e _ _ q1] at hn; cases hn
    ·rw [z,hl2] at hn; cases hn
  ·have hp2:=e _ _ B.obj
   have nlp:p≠l:=i4 B.obj hl;refine ⟨_,rfl,p,C,dx,_,rfl,hp2,T.cl,T.nC,(by show 5<1000; decide),?_⟩;have hys:ys=(ys.map a5R).map V.ref:=by
    rw [aM];refine cK λ i=>?_;rw [aE]
    cases qi:ys[i]? with
    | none=>rfl
    | some y =>
     obtain ⟨a,rfl,_⟩:=pr i y qi;rfl
   refine ⟨l,ys.map a5R,rfl,upd_same,by rw [i3 nlp.symm,hl2]; rw [<- hys],by rw [aA,len,aA,B.len],hl,λ i a hi=>?_,λ b o hb hbo=>by rw [i3 hb]; exact e _ _ hbo⟩;rw [aE] at hi
   cases qi:ys[i]? with
   | none=>rw [qi] at hi; cases hi
   | some y =>
    obtain ⟨a',rfl,h2,h3,h4⟩:=pr i y qi;rw [qi] at hi;have:a'=a:=aS hi;subst this;refine ⟨h2,h3,?_⟩;rw [i3 (λ z=>by rw [z,hp2] at h4; cases h4)];exact h4
 ·intro σ' H3 hM_; refine P0 λ G_ hG_=>?_; obtain ⟨l,rs',rfl,hp,hl,hlen,hl0,hrs,hk⟩:=hM_; subst hG_
  have hr3:=hk rl _ nrl hrl;have lr:((A3 q S r).map V.int).length=q+1:=by rw [aA,E1]
  refine ⟨_,rfl,_,rfl,_,rfl,rl,_,rfl,SqL.of hr3,λ a1 h1=>?_⟩;have e1:=Same.new h1 (.lst (M1 ((A3 q S r).map V.int) none (some (c:Int))));refine ⟨_,rfl,p,C,dx,_,_,rfl,e1 _ _ hp,T.cl,T.nS,rfl,(by show 1<=sizeLine; decide),λ a2 h2=>?_⟩;have e2:=e1.trans (Same.new h2 (.lst [.int S.d]));have n12:a1≠a2:=i4 upd_same h2;refine ⟨a1,a2,_,_,rfl,rfl,(by rw [i3 n12]; exact upd_same),upd_same,?_,λ a3 h3=>?_⟩
  ·rw [a3r _ _ (by rw [lr]; lia),bU,lr]
   have:=j8 (show c+1<=1000 by lia);simp;lia
  have e3:=e2.trans (Same.new h3 (.lst (M1 ((A3 q S r).map V.int) none (some (c:Int))++[.int S.d])));refine ⟨_,rfl,_,rfl,_,_,rfl,rfl,_,rfl,rl,_,rfl,SqL.of (e3 _ _ hr3),λ a4 h4=>?_⟩;have e4:=e3.trans (Same.new h4 (.lst (M1 ((A3 q S r).map V.int) (some ((c:Int)+1)) none)));have n34:a3≠a4:=i4 upd_same h4;have c1:M1 ((A3 q S r).map V.int) none (some (c:Int))=((A3 q S r).map V.int).take c:=a3r _ _ (by rw [lr]; lia);have c2:M1 ((A3 q S r).map V.int) (some ((c:Int)+1)) none=((A3 q S r).map V.int).drop (c+1):=by
   have:=a5q ((A3 q S r).map V.int) (c+1) (by rw [lr]; lia);rw [<- this]; rfl
  refine ⟨a3,a4,_,_,rfl,rfl,(by rw [i3 n34]; exact upd_same),upd_same,?_,λ a5 h5=>?_⟩
  ·rw [c1,c2,aO,bU,cW,lr]
   have:=j8 (show q+1<=1000 by lia);simp;lia
  have hrow:(M1 ((A3 q S r).map V.int) none (some (c:Int))++[.int S.d])++M1 ((A3 q S r).map V.int) (some ((c:Int)+1)) none=(A3 q (Lp.piv S r c) r).map V.int:=by rw [c1,c2,a9c hc]
  have h5n:H3 a5=none:=by
   cases z:H3 a5 with
   | none=>rfl
   | some o=>rw [e4 _ _ z] at h5; cases h5
  have e5:=e4.trans (Same.new h5 (.lst ((M1 ((A3 q S r).map V.int) none (some (c:Int))++[.int S.d])++M1 ((A3 q S r).map V.int) (some ((c:Int)+1)) none)));have u5:∀ H4:Hp,upd H4 a5 (.lst ((M1 ((A3 q S r).map V.int) none (some (c:Int))++[.int S.d])++M1 ((A3 q S r).map V.int) (some ((c:Int)+1)) none)) a5=some (.lst ((A3 q (Lp.piv S r c) r).map V.int)):=λ H4=>upd_same.trans (congrArg (λ z=>some (HO.lst z)) hrow);have oa3:=hk oa _ noa B.out;have ia3:=hk ia _ nia B.inn;have nlp:l≠p:=(i4 B.obj hl0).symm;have nlo:l≠oa:=(i4 B.out hl0).symm;have nli:l≠ia:=(i4 B.inn hl0).symm;have n5p:a5≠p:=(i4 hp h5n).symm;have n5l:a5≠l:=(i4 hl h5n).symm;have n5o:a5≠oa:=(i4 oa3 h5n).symm;have n5i:a5≠ia:=(i4 ia3 h5n).symm;have lrs:(rs'.map V.ref).length=m+1:=by rw [aA]; exact hlen
  refine ⟨_,rfl,p,C,dx,_,_,rfl,e5 _ _ hp,T.cl,T.nC,rfl,_,rfl,l,_,_,r,rfl,rfl,e5 _ _ hl,a1L (by rw [lrs]; lia),?_⟩;refine ⟨_,rfl,_,rfl,p,C,dx,_,rfl,(by rw [i3 nlp.symm]; exact e5 _ _ hp),T.cl,T.nS,(by show 5<1000; decide),?_⟩;refine ⟨_,rfl,p,C,dx,_,_,rfl,upd_same,T.cl,T.nO,rfl,_,rfl,oa,_,_,_,rfl,rfl,SqL.of (by rw [i3 noa,i3 nlo.symm]; exact e5 _ _ oa3),a3t hc,?_⟩;refine ⟨_,rfl,p,C,dx,_,_,rfl,upd_same,T.cl,T.nI,rfl,_,rfl,ia,_,_,_,rfl,rfl,SqL.of (by rw [i3 nia,i3 nli.symm]; exact e5 _ _ ia3),a2l hrm,(by show 2<=sizeLine; decide),λ t ht=>?_⟩;have ntp:t≠p:=(i4 upd_same ht).symm;have ntl:t≠l:=by
   refine (i4 (H:=_) (o:=.lst ((rs'.map V.ref).set r (.ref a5))) ?_ ht).symm;rw [i3 nlp,upd_same]
  have nto:t≠oa:=by
   refine (i4 (H:=_) (o:=.lst ((O9 q S).map V.int)) ?_ ht).symm;rw [i3 noa,i3 nlo.symm]; exact e5 _ _ oa3
  have nti:t≠ia:=by
   refine (i4 (H:=_) (o:=.lst ((T5 m S).map V.int)) ?_ ht).symm;rw [i3 nia,i3 nli.symm]; exact e5 _ _ ia3
  refine ⟨t,_,rfl,SqT.of upd_same,rfl,?_⟩;refine ⟨_,_,rfl,_,rfl,p,C,dx,_,_,rfl,(by rw [i3 ntp.symm]; exact upd_same),T.cl,T.nI,rfl,_,rfl,ia,_,_,r,rfl,rfl,(by rw [i3 nti.symm,i3 nia,i3 nli.symm]; exact e5 _ _ ia3),a1L (by unfold T5; simp; lia),?_⟩;refine ⟨_,_,rfl,_,rfl,p,C,dx,_,_,rfl,(by rw [i3 nia.symm,i3 ntp.symm]; exact upd_same),T.cl,T.nO,rfl,_,rfl,oa,_,_,c,rfl,rfl,(by rw [i3 B.ne,i3 nto.symm,i3 noa,i3 nlo.symm]; exact e5 _ _ oa3),a1L (by unfold O9; simp; lia),rfl,?_⟩;refine k _ l (rs'.set r a5) ⟨?_,?_,by rw [cJ]; exact hlen,λ i a hi=>?_,?_,?_,B.ne⟩ λ b o hb hbo hbi hH=>?_
  ·rw [i3 noa.symm,i3 nia.symm,i3 ntp.symm,upd_same]; rfl
  ·rw [i3 nlo,i3 nli,i3 ntl.symm,i3 nlp,upd_same,iV]
  ·by_cases hir:i=r
   ·subst hir
    rw [cM (by rw [hlen]; lia)] at hi;have:a5=a:=aS hi;subst this;have n5t:a5≠t:=by
     refine i4 (H:=_) (o:=.lst ((A3 q (Lp.piv S i c) i).map V.int)) ?_ ht;rw [i3 n5p,i3 n5l]; exact u5 _
    rw [i3 n5o,i3 n5i,i3 n5t,i3 n5p,i3 n5l];exact u5 _
   ·rw [bV (aY hir)] at hi
    obtain ⟨g1,g2,g3⟩:=hrs i a hi;have nap:a≠p:=(i4 B.obj g1).symm;have nao:a≠oa:=(i4 B.out g1).symm;have nai:a≠ia:=(i4 B.inn g1).symm;have g5:=e5 _ _ g3;have nat:a≠t:=by
     refine i4 (H:=_) (o:=.lst ((a0G (A3 q S i) (A3 q S r) c S.d).map V.int)) ?_ ht;rw [i3 nap,i3 g2]; exact g5
    rw [i3 nao,i3 nai,i3 nat,i3 nap,i3 g2,<- a8w hir hc];exact g5
  ·rw [upd_same,b0r hc]
  ·rw [i3 B.ne.symm,upd_same,b1t hrm]
  ·have h3:=hk b o hb hH
   have nbl:b≠l:=i4 hH hl0;have nbt:b≠t:=by
    refine i4 (H:=_) (o:=o) ?_ ht;rw [i3 hb,i3 nbl]; exact e5 _ _ h3
   rw [i3 hbo,i3 hbi,i3 nbt,i3 hb,i3 nbl];exact e5 _ _ h3
end
theorem a3j {g:Nat->Int}:∀ {n:Nat},(∀ k,k<n->g k=0)->Lp.sumTo g n=0
 | 0,_=>rfl
 | n+1,h=>by
  show Lp.sumTo g n+g n=0
  rw [a3j λ k hk=>h k (by lia),h n (by lia)]; rfl
def b1E (q:Nat) (S:Lp.Bo) (k v:Nat):Int:=Lp.sumTo (λ i=>if S.ins i=v then S.T i q else 0) k
def a6Z (m:Nat) (S:Lp.Bo) (k v:Nat):Int:=Lp.sumTo (λ j=>if S.outs j=v then S.T m j else 0) k
def p6 (m q:Nat) (S:Lp.Bo):List Int:=(aD q).map λ v=>Lp.valIn m S q v
def D7 (m q:Nat) (S:Lp.Bo):List Int:=(aD m).map λ i=>Lp.valOut m q S (q+i)
theorem a5u (k:Nat):(aI k [V.int 0]).flatten=(aD k).map λ _=>V.int 0:=by
 induction k with
 | zero=>rfl
 | succ k ih=>rw [List.replicate_succ',List.flatten_append,ih,fW,bC]; rfl
theorem b0L {n v:Nat} {F G:Nat->Int} {x:Int} (hv:G v=x) (h:∀ u,u<n->u≠v->F u=G u):((aD n).map λ u=>V.int (F u)).set v (.int x)=(aD n).map λ u=>V.int (G u):=by
 refine cK λ j=>?_
 by_cases hj:j<n
 ·by_cases e:j=v
  ·subst e
   rw [cM (by simp; lia),aE,bQ hj,fD,hv]
  ·rw [bV (aY e),aE,aE,bQ hj,fD,fD,h j hj e]
 ·rw [bH (by simp; lia),bH (by simp; lia)]
section
variable {P:Program} {w:World} {K:W.Frag} {mg:Str->Option Value} {base:Heap} {f g c Pt:Addr} {fd gd:FuncData} {n:Nat} {C:Addr}
def a9t (C:Addr):Sp:=λ vs H Q _=>∃ (p dx ca oa ia:Addr) (rs:List Addr) (m q:Nat) (S:Lp.Bo),vs=[.ref p]/\Bd C H p dx ca oa ia rs m q S/\m<900/\q<900/\(∀ i k,i<m->k<m->S.ins i=S.ins k->i=k) ∧
 ∀ (r:Addr) (H':Hp),Same H H'->H r=none->H' r=some (.lst ((p6 m q S).map V.int))->Q (.ref r) H'
theorem scAmts:m6 ["self","told","row","number"] ["self"] (i5 b0P):=⟨rfl,rfl,rfl,by decide +kernel,rfl,by decide +kernel,by decide +kernel⟩
theorem b1u (F:Fun K "amounts" "Board.amounts" b0P f fd) (N:w8 mg) (T:TB K C):FnOk P w K mg base E4 (n+1) f fd ["self"] (a9t C):=by
 refine F.ok scAmts (λ vs H Q E h=>?_) (λ cdv A outer s H vs Q E hr h=>?_)
 ·obtain ⟨p,dx,ca,oa,ia,rs,m,q,S,rfl,_⟩:=h
  rfl
 obtain ⟨p,dx,ca,oa,ia,rs,m,q,S,rfl,B,hm,hq,inj,k⟩:=h;refine ⟨_,i6 (j4 (i:=1) scAmts.nd rfl (aC rfl) (j0 Q7 (v6 (c5 d0 c6)) (x6 (pv 0) rfl)))
  (i6 (P3 PassesOwn.never rfl (a1f K rfl rfl N.enum (c5 (x6 (pv 0) rfl) c6)) (D9 K (n:=2) rfl rfl (j3 (i7 (i:=2) scAmts.nd rfl (aC rfl)) (j3 (i7 (i:=3) scAmts.nd rfl (aC rfl)) v7)))
   (i8 (A7 (m9 a1q (pv 3) (x6 (pv 0) rfl) (p7 _)) (i8 (K4 (j7 j5 (j7 j5 (x6 (pv 0) rfl) (pv 2) (λ _ _=>rfl)) (R1 K5 d0) (λ _ _=>rfl)) (W6 (pv 1) (pv 3) N4))) t7)))
  (i8 (r6 (pv 1)))),?_⟩
 have sl:=j8 (show q<=1000 by lia);refine ⟨(by show 1<=sizeLine; decide),λ z hz=>?_⟩;have ez:=Same.new hz (.lst [.int 0]);refine ⟨_,rfl,p,C,dx,_,_,rfl,ez _ _ B.obj,T.cl,T.nM,rfl,z,_,_,rfl,rfl,upd_same,(by lia),(by lia),(by rw [bF]; simp; lia),λ tl htl=>?_⟩;rw [bF,a5u];have htn:H tl=none:=by
  cases q1:H tl with
  | none=>rfl
  | some o=>rw [ez _ _ q1] at htl; cases htl
 have e0:Same H (upd (upd H z (.lst [.int 0])) tl (.lst ((aD q).map λ _=>V.int 0))):=ez.write htn;refine ⟨_,rfl,p,C,dx,_,_,rfl,e0 _ _ B.obj,T.cl,T.nI,rfl,ia,rfl,⟨_,SqL.of (e0 _ _ B.inn)⟩,?_⟩;have li:((T5 m S).map V.int).length=m:=by unfold T5; simp
 refine a0T (xs:=(T5 m S).map V.int) (i1:=2) (i2:=3) (λ j σ H'=>∃ o2 o3:Option V,σ=[some (.ref p),some (.ref tl),o2,o3]/\Same H H'/\H' tl=some (.lst ((aD q).map λ v=>V.int (b1E q S j v))))
  ⟨_,_,rfl,e0,by rw [upd_same]; rfl⟩ (λ j σ H' ⟨_,_,_,e,_⟩=>SqL.of (e _ _ B.inn)) ?_ ?_
 ·rintro j x σ H1 qq hx ⟨o2,o3,rfl,e1,ht⟩ hqq
  have hj:j<m:=by rw [<- li]; exact (aU.mp hx).1
  have hx':x=.int (S.ins j):=by
   have:=(w6 hx).symm.trans (a2l (S:=S) hj);exact aS this
  subst hx';have s1:=Same.new hqq (.tup [V.int (j:Int),.int (S.ins j)]);have e2:=e1.trans s1;have ht2:=s1 _ _ ht;refine ⟨_,rfl,_,rfl,p,C,dx,_,_,rfl,e2 _ _ B.obj,T.cl,T.nM,rfl,_,_,rfl,rfl,_,rfl,?_⟩;have st:∀ v,b1E q S (j+1) v=b1E q S j v+(if S.ins j=v then S.T j q else 0):=λ v=>rfl;refine C5 (λ d=>?_) (λ d=>?_)
  ·have d':S.ins j<q:=by have:=of_decide_eq_true d; lia
   obtain ⟨rj,erj,arj⟩:=B.rs_at (i:=j) (by lia);refine ⟨_,rfl,p,C,dx,_,_,rfl,e2 _ _ B.obj,T.cl,T.nC,rfl,_,rfl,ca,_,_,_,rfl,rfl,SqL.of (e2 _ _ B.cel),arj,_,rfl,rj,_,_,_,rfl,rfl,SqL.of (e2 _ _ (B.row j rj erj)),a0h,?_⟩;refine ⟨_,rfl,_,rfl,tl,_,_,S.ins j,rfl,rfl,ht2,a1L (by simp; lia),?_⟩;refine ⟨_,_,rfl,e2.write htn,?_⟩;rw [upd_same]
   congr 2
   refine b0L ?_ λ u hu hne=>?_
   ·rw [st,if_pos rfl]
    have:b1E q S j (S.ins j)=0:=a3j λ i hi=>if_neg λ z=>absurd (inj i j (by lia) hj z) (by lia);rw [this]; lia
   ·rw [st,if_neg (aY hne)]; lia
  ·have d':¬ S.ins j<q:=λ z=>d (decide_eq_true (by lia))
   refine ⟨_,_,rfl,e2,?_⟩;rw [ht2]
   congr 2
   refine cP λ v hv=>?_;rw [st,if_neg (λ z=>d' (by rw [z]; exact bO.mp hv)),dO]
 ·intro σ H1 hM_; refine P0 λ G_ hG_=>?_; obtain ⟨o2,o3,rfl,e1,ht⟩:=hM_; subst hG_
  rw [li] at ht;refine ⟨_,rfl,k tl H1 e1 htn ?_⟩;rw [ht];unfold p6;rw [aM]; rfl
def b2F (C:Addr):Sp:=λ vs H Q _=>∃ (p dx ca oa ia:Addr) (rs:List Addr) (m q:Nat) (S:Lp.Bo),vs=[.ref p]/\Bd C H p dx ca oa ia rs m q S/\m<900/\q<900/\(∀ j k,j<q->k<q->S.outs j=S.outs k->j=k)/\(∀ j,j<q->S.outs j<q+m) ∧
 ∀ (r:Addr) (H':Hp),Same H H'->H r=none->H' r=some (.lst ((D7 m q S).map V.int))->Q (.ref r) H'
theorem scWts:m6 ["self","told","column","number"] ["self"] (i5 b3O):=⟨rfl,rfl,rfl,by decide +kernel,rfl,by decide +kernel,by decide +kernel⟩
theorem b3t (F:Fun K "weights" "Board.weights" b3O f fd) (N:w8 mg) (T:TB K C):FnOk P w K mg base E4 (n+1) f fd ["self"] (b2F C):=by
 refine F.ok scWts (λ vs H Q E h=>?_) (λ cdv A outer s H vs Q E hr h=>?_)
 ·obtain ⟨p,dx,ca,oa,ia,rs,m,q,S,rfl,_⟩:=h
  rfl
 obtain ⟨p,dx,ca,oa,ia,rs,m,q,S,rfl,B,hm,hq,inj,ob,k⟩:=h;refine ⟨_,i6 (j4 (i:=1) scWts.nd rfl (aC rfl) (j0 Q7 (v6 (c5 d0 c6)) (j9 j6 rfl N.len bR (c5 (x6 (pv 0) rfl) c6))))
  (i6 (P3 PassesOwn.never rfl (a1f K rfl rfl N.enum (c5 (x6 (pv 0) rfl) c6)) (D9 K (n:=2) rfl rfl (j3 (i7 (i:=2) scWts.nd rfl (aC rfl)) (j3 (i7 (i:=3) scWts.nd rfl (aC rfl)) v7)))
   (i8 (A7 (m9 a9T (pv 3) (x6 (pv 0) rfl) (p7 _)) (i8 (K4 (j7 j5 (j7 j5 (x6 (pv 0) rfl) (R1 K5 d0) (λ _ _=>rfl)) (pv 2) (λ _ _=>rfl)) (W6 (pv 1) (j0 a2U (pv 3) (x6 (pv 0) rfl)) N4))) t7)))
  (i8 (r6 (pv 1)))),?_⟩
 have sl:=j8 (show m<=1000 by lia);have li:((T5 m S).map V.int).length=m:=by unfold T5; simp
 have lo:((O9 q S).map V.int).length=q:=by unfold O9; simp
 refine ⟨(by show 1<=sizeLine; decide),λ z hz=>?_⟩;have ez:=Same.new hz (.lst [.int 0]);refine ⟨_,rfl,p,C,dx,_,_,rfl,ez _ _ B.obj,T.cl,T.nI,rfl,ia,_,rfl,.inl (SqL.of (ez _ _ B.inn)),z,_,_,rfl,rfl,upd_same,(by lia),(by lia),(by rw [li,bF]; simp; lia),λ tl htl=>?_⟩;rw [li,bF,a5u];have htn:H tl=none:=by
  cases q1:H tl with
  | none=>rfl
  | some o=>rw [ez _ _ q1] at htl; cases htl
 have e0:Same H (upd (upd H z (.lst [.int 0])) tl (.lst ((aD m).map λ _=>V.int 0))):=ez.write htn;refine ⟨_,rfl,p,C,dx,_,_,rfl,e0 _ _ B.obj,T.cl,T.nO,rfl,oa,rfl,⟨_,SqL.of (e0 _ _ B.out)⟩,?_⟩;refine a0T (xs:=(O9 q S).map V.int) (i1:=2) (i2:=3) (λ j σ H'=>∃ o2 o3:Option V,σ=[some (.ref p),some (.ref tl),o2,o3]/\Same H H'/\H' tl=some (.lst ((aD m).map λ v=>V.int (a6Z m S j (q+v)))))
  ⟨_,_,rfl,e0,by rw [upd_same]; rfl⟩ (λ j σ H' ⟨_,_,_,e,_⟩=>SqL.of (e _ _ B.out)) ?_ ?_
 ·rintro j x σ H1 qq hx ⟨o2,o3,rfl,e1,ht⟩ hqq
  have hj:j<q:=by rw [<- lo]; exact (aU.mp hx).1
  have hx':x=.int (S.outs j):=by
   have:=(w6 hx).symm.trans (a3t (S:=S) hj);exact aS this
  subst hx';have s1:=Same.new hqq (.tup [V.int (j:Int),.int (S.outs j)]);have e2:=e1.trans s1;have ht2:=s1 _ _ ht;refine ⟨_,rfl,_,rfl,p,C,dx,_,_,rfl,e2 _ _ B.obj,T.cl,T.nM,rfl,_,_,rfl,rfl,_,rfl,?_⟩;have st:∀ v,a6Z m S (j+1) v=a6Z m S j v+(if S.outs j=v then S.T m j else 0):=λ v=>rfl;have hob:=ob j hj;refine C5 (λ d=>?_) (λ d=>?_)
  ·have d':q<=S.outs j:=by have:=of_decide_eq_true d; lia
   obtain ⟨rm,erm,arm⟩:=B.rs_last;refine ⟨_,rfl,p,C,dx,_,_,rfl,e2 _ _ B.obj,T.cl,T.nC,rfl,_,rfl,ca,_,_,_,rfl,rfl,SqL.of (e2 _ _ B.cel),arm,_,rfl,rm,_,_,_,rfl,rfl,SqL.of (e2 _ _ (B.row m rm erm)),a0j (by lia),?_⟩;refine ⟨_,rfl,_,rfl,_,rfl,p,C,dx,_,_,rfl,e2 _ _ B.obj,T.cl,T.nM,rfl,_,_,rfl,rfl,tl,_,_,S.outs j - q,rfl,rfl,ht2,?_,?_⟩
   ·rw [show ((S.outs j:Int) - (q:Int))=((S.outs j - q:Nat):Int) by lia]
    exact a1L (by simp; lia)
   refine ⟨_,_,rfl,e2.write htn,?_⟩;rw [upd_same]
   congr 2
   refine b0L ?_ λ u hu hne=>?_
   ·rw [st,if_pos (by lia)]
    have:a6Z m S j (q+(S.outs j - q))=0:=a3j λ i hi=>if_neg λ z=>absurd (inj i j (by lia) hj (by lia)) (by lia);rw [this]; lia
   ·rw [st,if_neg (by lia)]; lia
  ·have d':¬ q<=S.outs j:=λ z=>d (decide_eq_true (by lia))
   refine ⟨_,_,rfl,e2,?_⟩;rw [ht2]
   congr 2
   refine cP λ v hv=>?_;rw [st,if_neg (by lia),dO]
 ·intro σ H1 hM_; refine P0 λ G_ hG_=>?_; obtain ⟨o2,o3,rfl,e1,ht⟩:=hM_; subst hG_
  rw [lo] at ht;refine ⟨_,rfl,k tl H1 e1 htn ?_⟩;rw [ht];unfold D7;rw [aM]; rfl
end
def T4 (rows:List (List Int)):Nat->Nat->Int:=λ i j=>(rows.getD i []).getD j 0
def E7 (l:List Int):Nat->Int:=λ i=>l.getD i 0
abbrev RowsL (K:W.Frag) (H:Hp):List V->List (List Int)->Prop:=cS λ v row=>∃ a,v=.ref a/\SqL K H a (row.map V.int)
section
variable {P:Program} {w:World} {K:W.Frag} {mg:Str->Option Value} {base:Heap} {f g c Pt:Addr} {fd gd:FuncData} {n:Nat} {C:Addr}
def a9V (K:W.Frag) (C:Addr):Sp:=λ vs H Q _=>∃ (p dx ga ra ba:Addr) (goal:List Int) (rvs:List V) (rows:List (List Int)) (bounds:List Int) (m q:Nat),vs=[.ref p,.ref ga,.ref ra,.ref ba]/\H p=some (.ins C dx [])/\SqL K H ga (goal.map V.int)/\SqL K H ra rvs ∧
 RowsL K H rvs rows/\SqL K H ba (bounds.map V.int)/\rows.length=m/\bounds.length=m/\goal.length=q/\(∀ r∈rows,r.length=q)/\m<900/\q<900 ∧
 ∀ (H':Hp) (ca oa ia:Addr) (rs:List Addr),Bd C H' p dx ca oa ia rs m q (Lp.S0 m q (T4 rows) (E7 bounds) (E7 goal))->(∀ b o,b≠p->H b=some o->H' b=some o)->H oa=none->H ia=none->Q .non H'
theorem b2Z:m6 ["self","goal","rows","bounds"] ["self","goal","rows","bounds"] (i5 a5h):=⟨rfl,rfl,rfl,by decide +kernel,rfl,by decide +kernel,by decide +kernel⟩
theorem b5o:(["row","bound"]:List Str).Nodup:=by decide +kernel
theorem b6U:(["one"]:List Str).Nodup:=by decide +kernel
noncomputable def b5i {cdv:Value} {A:Around} {outer:List Env} {s:Shared} {H:Hp} {E:XK} (N:w8 mg) :
  { t:TS // PSs (M0 E4 P w K mg base ["self","goal","rows","bounds"] "Board.__init__" (i5 a5h) f cdv A outer s H E).nox (v5 a5h) t } :=
 ⟨_,i6 (a0N (pv 0) (j9 j6 rfl N.len bR (c5 (pv 1) c6)) rfl)
  (i6 (a0N (pv 0) d0 rfl)
  (m8 (a0N (pv 0) (O3 ["row","bound"] [] rfl (a3i true true K rfl rfl N.zip (c5 (pv 2) (c5 (pv 3) c6)))
   (λ _ _ _ _=>D9 K (n:=2) rfl rfl (j3 (i7 (i:=0) b5o rfl (aC rfl)) (j3 (i7 (i:=1) b5o rfl (aC rfl)) v7)))
   (λ _ _ _ _=>j0 B6 (t9 (a7w K rfl) rfl N.list dI (c5 (pv 0) c6)) (v6 (c5 (pv 1) c6)))) rfl)
  (m8 (U3 (a3e fE fX fY P4 (x6 (pv 0) rfl)
   (c5 (j0 B6 (O3 ["one"] [] rfl (w4 (pv 1)) (λ _ _ _ _=>i7 (i:=0) b6U rfl (aC rfl)) (λ _ _ _ _=>R1 K5 (pv 0))) (v6 (c5 d0 c6))) c6)))
  (i6 (a0N (pv 0) (t9 (Q0 rfl) rfl N.list dI (c5 (t9 a1Q rfl N.range hV (c5 (x6 (pv 0) rfl) c6)) c6)) rfl)
  (i8 (a0N (pv 0) (t9 (Q0 rfl) rfl N.list dI (c5 (t9 a8y rfl N.range hV (c5 (x6 (pv 0) rfl) (c5 (j0 C2 (x6 (pv 0) rfl) (j9 j6 rfl N.len bR (c5 (pv 2) c6))) c6))) c6)) rfl))))))⟩
end
theorem b3D {m q i:Nat} {rows:List (List Int)} {bounds goal row:List Int} {b:Int} (hr:rows[i]?=some row) (hb:bounds[i]?=some b) (hl:row.length=q) (hi:i<m) :
  row++[b]=A3 q (Lp.S0 m q (T4 rows) (E7 bounds) (E7 goal)) i:=by
 refine cK λ j=>?_;unfold A3
 by_cases hj:j<q+1
 ·rw [aE,bQ hj,fD]
  have hT:(Lp.S0 m q (T4 rows) (E7 bounds) (E7 goal)).T i j=if j<q then T4 rows i j else E7 bounds i:=by
   show (if j<q then (if i<m then _ else _) else (if i<m then _ else _))=_
   rw [if_pos hi,if_pos hi]
  rw [hT]
  by_cases h:j<q
  ·rw [bK (by lia),if_pos h]
   unfold T4;rw [aG,aG,hr,fN,aF (by lia),fN]
  ·rw [bZ (by lia),if_neg h,hl,show j - q=0 by lia]
   unfold E7;rw [aG,hb]; rfl
 ·rw [bH (by simp; lia),bH (by simp; lia)]
theorem b1N {m q:Nat} {rows:List (List Int)} {bounds goal:List Int} (hl:goal.length=q):goal.map (λ x=>-x)++[0]=A3 q (Lp.S0 m q (T4 rows) (E7 bounds) (E7 goal)) m:=by
 refine cK λ j=>?_;unfold A3
 by_cases hj:j<q+1
 ·rw [aE,bQ hj,fD]
  have hT:(Lp.S0 m q (T4 rows) (E7 bounds) (E7 goal)).T m j=if j<q then - E7 goal j else 0:=by
   show (if j<q then (if m<m then _ else _) else (if m<m then _ else _))=_
   rw [if_neg (cA _),if_neg (cA _)]
  rw [hT]
  by_cases h:j<q
  ·rw [bK (by simp; lia),if_pos h,aE]
   unfold E7;rw [aG,aF (by lia),fD,fN]
  ·rw [bZ (by simp; lia),if_neg h,aA,hl,show j - q=0 by lia]; rfl
 ·rw [bH (by simp; lia),bH (by simp; lia)]
theorem b1a {m q:Nat} {A:Nat->Nat->Int} {b c:Nat->Int}:((aD q).map λ (i:Nat)=>V.int (0+(i:Int)))=(O9 q (Lp.S0 m q A b c)).map V.int:=by
 unfold O9;rw [aM];refine cP λ j hj=>?_;have h:(Lp.S0 m q A b c).outs j=j:=if_pos (bO.mp hj);simp [h]
theorem b3G {m q:Nat} {A:Nat->Nat->Int} {b c:Nat->Int}:((aD m).map λ (i:Nat)=>V.int ((q:Int)+(i:Int)))=(T5 m (Lp.S0 m q A b c)).map V.int:=by
 unfold T5;rw [aM];refine cP λ j hj=>?_;have h:(Lp.S0 m q A b c).ins j=q+j:=rfl;simp [h]
section
variable {P:Program} {w:World} {K:W.Frag} {mg:Str->Option Value} {base:Heap} {f g c Pt:Addr} {fd gd:FuncData} {n:Nat} {C:Addr}
theorem Z1 {H H':Hp} {a p:Addr} {xs:List V} {C dx:Addr} {fs:List (Str×V)} (hp:H p=some (.ins C dx fs)) (e:∀ b o,b≠p->H b=some o->H' b=some o) (h:SqL K H a xs):SqL K H' a xs:=by
 rcases h with (h | ⟨o,h⟩) | h
 ·exact .inl (.inl (e _ _ (a0v h hp (by intro z; cases z)) h))
 ·exact .inl (.inr ⟨o,e _ _ (a0v h hp (by intro z; cases z)) h⟩)
 ·exact .inr h
theorem b1j (F:Fun K "__init__" "Board.__init__" a5h f fd) (N:w8 mg) (T:TB K C):FnOk P w K mg base E4 (n+1) f fd ["self","goal","rows","bounds"] (a9V K C):=by
 refine F.ok b2Z (λ vs H Q E h=>?_) (λ cdv A outer s H vs Q E hr h=>?_)
 ·obtain ⟨p,dx,ga,ra,ba,goal,rvs,rows,bounds,m,q,rfl,_⟩:=h
  rfl
 obtain ⟨p,dx,ga,ra,ba,goal,rvs,rows,bounds,m,q,rfl,hp,hg,hra,hrw,hba,lr,lb,lg,hrl,hm,hq,k⟩:=h;refine ⟨_,(b5i N).2,?_⟩;have lv:rvs.length=m:=by rw [<- lr]; exact Paired.length hrw
 have k1:∀ b o,b≠p->H b=some o->upd (upd H p (.ins C dx [("many",.int q)])) p (.ins C dx [("many",.int q),("scale",.int 1)]) b=some o:=λ b o hb e=>by rw [i3 hb,i3 hb]; exact e
 refine ⟨_,rfl,ga,_,rfl,.inl hg,_,rfl,p,C,dx,_,rfl,hp,T.cl,T.nM,(by show 0<1000; decide),?_⟩;rw [aA,lg];refine ⟨_,rfl,p,C,dx,_,rfl,upd_same,T.cl,T.nS,(by show 1<1000; decide),?_⟩;refine ⟨λ σ' H4=>∃ (l:Addr) (rs:List Addr),σ'=[some (.ref p),some (.ref ga),some (.ref ra),some (.ref ba)]/\H4 p=some (.ins C dx [("many",.int q),("scale",.int 1),("cells",.ref l)])/\H4 l=some (.lst (rs.map V.ref))/\rs.length=m/\H l=none ∧
  (∀ i a,rs[i]?=some a->a≠l/\H4 a=some (.lst ((A3 q (Lp.S0 m q (T4 rows) (E7 bounds) (E7 goal)) i).map V.int)))/\∀ b o,b≠p->H b=some o->H4 b=some o,?_,?_⟩
 ·refine ⟨_,rfl,_,rfl,ra,ba,rfl,⟨_,Z1 hp k1 hra⟩,⟨_,Z1 hp k1 hba⟩,λ l hl=>?_⟩
  have nlp:p≠l:=i4 upd_same hl;have hl0:H l=none:=by
   rw [i3 nlp.symm,i3 nlp.symm] at hl; exact hl
  refine a4K (Z1 hp k1 hra) (Z1 hp k1 hba) hl (by rw [lv]; exact j8 (by lia)) (λ i y H2=>∃ a,y=.ref a/\a≠l/\H2 a=some (.lst ((A3 q (Lp.S0 m q (T4 rows) (E7 bounds) (E7 goal)) i).map V.int)))
   (λ i y H2 H3 ⟨a,h1,h2,h3⟩ e=>⟨a,h1,h2,e a _ h2 h3⟩) (λ i x y H2 zs N' hx hy e hl2 hN=>?_) (λ zs H2 e hl2 len pr=>?_)
  ·obtain ⟨row,hrow,⟨a,rfl,ha⟩⟩:=Paired.at hrw hx
   rw [aE] at hy
   cases hbi:bounds[i]? with
   | none=>rw [hbi] at hy; cases hy
   | some b =>
    rw [hbi] at hy;have hy':V.int b=y:=aS hy;subst hy';have hi:i<m:=by rw [<- lb]; exact (aU.mp hbi).1
    have hlen:=hrl row (aJ hrow);have ha2:SqL K H2 a (row.map V.int):=e.seq (Z1 hp k1 ha);refine ⟨_,rfl,a,_,rfl,.inl ha2,λ a1 h1=>?_⟩;have s1:=Same.new h1 (.lst (row.map V.int));refine ⟨_,rfl,(by show 1<=sizeLine; decide),λ a2 h2=>?_⟩;have s2:=s1.trans (Same.new h2 (.lst [.int b]));have n12:a1≠a2:=i4 upd_same h2;refine ⟨a1,a2,_,_,rfl,rfl,(by rw [i3 n12]; exact upd_same),upd_same,?_,λ a3 h3=>?_⟩
    ·rw [aA,hlen]
     have:=j8 (show q+1<=1000 by lia);simp;lia
    ·refine hN _ _ (s2.trans (Same.new h3 _)) ⟨a3,rfl,λ z=>?_,?_⟩
     ·rw [z,s2 _ _ hl2] at h3; cases h3
     ·rw [upd_same,<- b3D hrow hbi hlen hi,bC]; rfl
  ·have hp2:=e _ _ (upd_same (H:=upd H p (.ins C dx [("many",.int q)])) (a:=p) (o:=.ins C dx [("many",.int q),("scale",.int 1)]))
   refine ⟨_,rfl,p,C,dx,_,rfl,hp2,T.cl,T.nC,(by show 2<1000; decide),?_⟩;have hzs:zs=(zs.map a5R).map V.ref:=by
    rw [aM];refine cK λ i=>?_;rw [aE]
    cases qi:zs[i]? with
    | none=>rfl
    | some y =>
     obtain ⟨a,rfl,_⟩:=pr i y qi;rfl
   refine ⟨l,zs.map a5R,rfl,upd_same,by rw [i3 nlp.symm,hl2]; rw [<- hzs],by rw [aA,len,lv,aA,lb]; lia,hl0,λ i a hi=>?_,λ b o hb hbo=>by rw [i3 hb]; exact e _ _ (k1 b o hb hbo)⟩;rw [aE] at hi
   cases qi:zs[i]? with
   | none=>rw [qi] at hi; cases hi
   | some y =>
    obtain ⟨a',rfl,h2,h3⟩:=pr i y qi;rw [qi] at hi;have:a'=a:=aS hi;subst this;refine ⟨h2,?_⟩;rw [i3 (λ z=>by rw [z,hp2] at h3; cases h3)];exact h3
 intro σ' H4 hM_; refine P0 λ G_ hG_=>?_; obtain ⟨l,rs,rfl,hp4,hl4,hlen,hl0,hrs,hk⟩:=hM_; subst hG_;have nlp:l≠p:=(i4 hp hl0).symm;refine ⟨λ σ' H5=>∃ rs':List Addr,σ'=[some (.ref p),some (.ref ga),some (.ref ra),some (.ref ba)]/\H5 p=some (.ins C dx [("many",.int q),("scale",.int 1),("cells",.ref l)])/\H5 l=some (.lst (rs'.map V.ref))/\rs'.length=m+1 ∧
  (∀ i a,rs'[i]?=some a->a≠l/\H5 a=some (.lst ((A3 q (Lp.S0 m q (T4 rows) (E7 bounds) (E7 goal)) i).map V.int)))/\∀ b o,b≠p->H b=some o->H5 b=some o,?_,?_⟩
 ·refine ⟨_,rfl,p,C,dx,_,_,rfl,hp4,T.cl,T.nC,rfl,.inl ⟨rfl,_,SqL.of hl4⟩,?_⟩
  have hg4:=Z1 hp hk hg;refine ⟨_,rfl,ga,rfl,⟨_,hg4⟩,λ a1 h1=>?_⟩;refine N9 (u9 hg4) h1 (by rw [aA,lg]; exact j8 (by lia)) (λ x=>.int (-(vI x))) (λ i x H' N' hx e hN=>?_) ?_
  ·obtain ⟨x',rfl,_⟩:=U1 hx
   exact ⟨Wk.set (by decide),_,rfl,_,rfl,hN⟩
  have eg:(goal.map V.int).map (λ x=>V.int (-(vI x)))=(goal.map λ x=>-x).map V.int:=by rw [aM,aM]; rfl
  rw [eg];have s1:=Same.new h1 (.lst ((goal.map λ x=>-x).map V.int));refine ⟨(by show 1<=sizeLine; decide),λ a2 h2=>?_⟩;have s2:=s1.trans (Same.new h2 (.lst [.int 0]));have n12:a1≠a2:=i4 upd_same h2;refine ⟨a1,a2,_,_,rfl,rfl,(by rw [i3 n12]; exact upd_same),upd_same,?_,λ a3 h3=>?_⟩
  ·rw [aA,aA,lg]
   have:=j8 (show q+1<=1000 by lia);simp;lia
  have s3:=s2.trans (Same.new h3 (.lst ((goal.map λ x=>-x).map V.int++[.int 0])));refine ⟨l,_,_,rfl,rfl,s3 _ _ hl4,(by rw [aA,hlen]; exact j8 (by lia)),?_⟩;have n3l:a3≠l:=λ z=>by rw [z,s2 _ _ hl4] at h3; cases h3
  have n3p:a3≠p:=λ z=>by rw [z,s2 _ _ hp4] at h3; cases h3
  refine ⟨rs++[a3],rfl,by rw [i3 nlp.symm]; exact s3 _ _ hp4,by rw [upd_same,bC]; rfl,by rw [aO,hlen]; rfl,λ i a hi=>?_,λ b o hb hbo=>by rw [i3 (i4 hbo hl0)]; exact s3 _ _ (hk b o hb hbo)⟩
  by_cases him:i<m
  ·rw [bK (by lia)] at hi
   obtain ⟨g1,g2⟩:=hrs i a hi;exact ⟨g1,by rw [i3 g1]; exact s3 _ _ g2⟩
  ·rw [bZ (by lia)] at hi
   have hi0:i - rs.length=0:=by
    cases z:i - rs.length with
    | zero=>rfl
    | succ j=>rw [z] at hi; simp at hi
   rw [hi0] at hi;have:a3=a:=aS hi;subst this;have:i=m:=by lia
   subst this;refine ⟨n3l,?_⟩;rw [i3 n3l,upd_same,<- b1N lg,bC]; rfl
 intro σ' H5 hM_; refine P0 λ G_ hG_=>?_; obtain ⟨rs',rfl,hp5,hl5,hlen5,hrs5,hk5⟩:=hM_; subst hG_;refine ⟨_,rfl,p,C,dx,_,_,rfl,hp5,T.cl,T.nM,rfl,q,rfl,λ r1 h1=>?_⟩;have s1:=Same.new h1 (.rng 0 (q:Int));refine ⟨r1,0,q,rfl,by rw [upd_same,fC],by lia,by lia,by lia,λ oa hoa=>?_⟩;have s2:=s1.trans (Same.new hoa (.lst ((aD q).map λ (i:Nat)=>V.int (0+(i:Int)))));have noa5:H5 oa=none:=by
  cases z:H5 oa with
  | none=>rfl
  | some o=>rw [s1 _ _ z] at hoa; cases hoa
 have nop:oa≠p:=(i4 hp5 noa5).symm;refine ⟨_,rfl,p,C,dx,_,rfl,s2 _ _ hp5,T.cl,T.nO,(by show 3<1000; decide),?_⟩;have hra5:=Z1 hp hk5 hra;have lp5:SqL K (upd (upd (upd H5 r1 (.rng 0 (q:Int))) oa (.lst ((aD q).map λ (i:Nat)=>V.int (0+(i:Int))))) p (.ins C dx [("many",.int q),("scale",.int 1),("cells",.ref l),("outs",.ref oa)])) ra rvs :=
  Z1 (s2 _ _ hp5) (λ b o hb e=>by rw [i3 hb]; exact e) (s2.seq hra5)
 refine ⟨_,rfl,p,C,dx,_,_,rfl,upd_same,T.cl,T.nM,rfl,_,rfl,p,C,dx,_,_,rfl,upd_same,T.cl,T.nM,rfl,_,rfl,ra,_,rfl,.inl lp5,_,_,rfl,rfl,_,_,rfl,λ r2 h2=>?_⟩;rw [lv];refine ⟨r2,(q:Int),m,rfl,upd_same,by lia,by lia,by lia,λ ia hia=>?_⟩;have n2p:r2≠p:=(i4 upd_same h2).symm;have nip:ia≠p:=by
  refine (i4 (H:=_) (o:=.ins C dx [("many",.int q),("scale",.int 1),("cells",.ref l),("outs",.ref oa)]) ?_ hia).symm;rw [i3 n2p.symm,upd_same]; rfl
 have oa6:∀ o,upd (upd (upd H5 r1 (.rng 0 (q:Int))) oa o) p (.ins C dx [("many",.int q),("scale",.int 1),("cells",.ref l),("outs",.ref oa)]) oa=some o:=λ o=>by rw [i3 nop,upd_same]
 have n2o:r2≠oa:=(i4 (oa6 _) h2).symm;have nio:ia≠oa:=by
  refine (i4 (H:=_) (o:=.lst ((aD q).map λ (i:Nat)=>V.int (0+(i:Int)))) ?_ hia).symm;rw [i3 n2o.symm]; exact oa6 _
 have up:∀ b o,b≠p->H5 b=some o->b≠ia/\b≠r2/\upd (upd H5 r1 (.rng 0 (q:Int))) oa (.lst ((aD q).map λ (i:Nat)=>V.int (0+(i:Int)))) b=some o:=λ b o hb e=>by
  have e2:=s2 _ _ e;have nb2:b≠r2:=by
   refine i4 (H:=_) (o:=o) ?_ h2;rw [i3 hb]; exact e2
  refine ⟨?_,nb2,e2⟩;refine i4 (H:=_) (o:=o) ?_ hia;rw [i3 nb2,i3 hb]; exact e2
 refine ⟨_,rfl,p,C,dx,_,rfl,(by rw [i3 nip.symm,i3 n2p.symm]; exact upd_same),T.cl,T.nI,(by show 4<1000; decide),?_⟩;have fin:∀ b o,b≠p->H5 b=some o->upd (upd (upd (upd (upd (upd H5 r1 (.rng 0 (q:Int))) oa (.lst ((aD q).map λ (i:Nat)=>V.int (0+(i:Int))))) p (.ins C dx [("many",.int q),("scale",.int 1),("cells",.ref l),("outs",.ref oa)])) r2 (.rng (q:Int) ((q:Int)+(m:Int)))) ia (.lst ((aD m).map λ (i:Nat)=>V.int ((q:Int)+(i:Int))))) p (.ins C dx [("many",.int q),("scale",.int 1),("cells",.ref l),("outs",.ref oa),("ins",.ref ia)]) b=some o:=λ b o hb e=>by
  obtain ⟨g1,g2,g3⟩:=up b o hb e;rw [i3 hb,i3 g1,i3 g2,i3 hb]; exact g3
 have ia5:H5 ia=none:=by
  cases z:H5 ia with
  | none=>rfl
  | some o=>exact absurd rfl (up ia o nip z).1
 have back:∀ b,b≠p->H5 b=none->H b=none:=λ b hb z=>by
  cases z2:H b with
  | none=>rfl
  | some o=>rw [hk5 b o hb z2] at z; cases z
 refine k _ l oa ia rs' ⟨upd_same,fin _ _ nlp hl5,hlen5,λ i a hi=>fin _ _ (λ z=>?_) (hrs5 i a hi).2,?_,?_,nio.symm⟩ (λ b o hb hbo=>fin b o hb (hk5 b o hb hbo)) (back _ nop noa5) (back _ nip ia5)
 ·have:=(hrs5 i a hi).2
  rw [z,hp5] at this; cases this
 ·rw [i3 nop,i3 nio.symm,i3 n2o.symm,i3 nop,upd_same,b1a]
 ·rw [i3 nip,upd_same,b3G]
end
section
variable {P:Program} {w:World} {K:W.Frag} {mg:Str->Option Value} {base:Heap} {f Pt:Addr} {fd:FuncData} {n:Nat} {C:Addr}
def L0 (K:W.Frag) (C Pt:Addr):Sp:=λ vs H Q _=>∃ (ga ra ba:Addr) (goal:List Int) (rvs:List V) (rows:List (List Int)) (bounds:List Int) (m q M:Nat),vs=[.ref ga,.ref ra,.ref ba]/\SqL K H ga (goal.map V.int)/\SqL K H ra rvs ∧
 RowsL K H rvs rows/\SqL K H ba (bounds.map V.int)/\rows.length=m/\bounds.length=m/\goal.length=q/\(∀ r∈rows,r.length=q)/\m<900/\q<900/\(∀ i,i<m->0<=E7 bounds i) ∧
 (∀ v,Lp.Fits M (m+1) (Lp.Vv m q (T4 rows) (E7 bounds) (E7 goal) v))/\Lp.bnd M (m+1)<2 ^ 4000/\LT Pt H ∧
 (∀ (S:Lp.Bo) (H':Hp) (t aa wa:Addr),Lp.Of m q (T4 rows) (E7 bounds) (E7 goal) S->(∀ j,j<q->¬ S.T m j<0)->Sz 4000 m q S->Same1 Pt H H'->LT Pt H'->H' t=some (.tup [.int (S.T m q),.ref aa,.ref wa,.int S.d]) →
  H' aa=some (.lst ((p6 m q S).map V.int))->H' wa=some (.lst ((D7 m q S).map V.int))->Q (.ref t) H') ∧
 ∀ (S:Lp.Bo) (H':Hp) (c:Nat),Lp.Of m q (T4 rows) (E7 bounds) (E7 goal) S->c<q->S.T m c<0->(∀ i,i<m->¬ 0<S.T i c)->Same1 Pt H H'->LT Pt H'->Q .non H'
theorem scGr:m6 ["goal","rows","bounds","board","column","row"] ["goal","rows","bounds"] (i5 P1):=⟨rfl,rfl,rfl,by decide +kernel,rfl,by decide +kernel,by decide +kernel⟩
structure b5f (P:Program) (w:World) (K:W.Frag) (mg:Str->Option Value) (base:Heap) (n:Nat) (C Pt:Addr) (f1 f2 f3 f4 f5 f6:Addr) (d1 d2 d3 d4 d5 d6:FuncData):Prop where
 mak:Mk K C f1
 ini:FnOk P w K mg base E4 n f1 d1 ["self","goal","rows","bounds"] (a9V K C)
 inb:Binds K d1 ["self","goal","rows","bounds"] []
 mC:mg "Board"=some (.ref C)
 com:a8R P w K mg base n C "coming" ["self"] (a3q C Pt) f2 d2
 goi:a8R P w K mg base n C "going" ["self","column"] (a8b C) f3 d3
 exc:a8R P w K mg base n C "exchange" ["self","row","column"] (a2N C) f4 d4
 amt:a8R P w K mg base n C "amounts" ["self"] (a9t C) f5 d5
 wts:a8R P w K mg base n C "weights" ["self"] (b2F C) f6 d6
noncomputable def grT {cdv:Value} {A:Around} {outer:List Env} {s:Shared} {H:Hp} {E:XK} {f1 f2 f3 f4 f5 f6:Addr} {d1 d2 d3 d4 d5 d6:FuncData} (T:TB K C) (G:b5f P w K mg base n C Pt f1 f2 f3 f4 f5 f6 d1 d2 d3 d4 d5 d6)
  (hr:Room (n+1) (A.deeper (dB "greatest" (i5 P1) s.heap.objs.size f cdv))) (hr0:Room n (A.deeper (dB "greatest" (i5 P1) s.heap.objs.size f cdv))) :
  { t:TS // PSs (M0 E4 P w K mg base ["goal","rows","bounds","board","column","row"] "greatest" (i5 P1) f cdv A outer s H E).nox (v5 P1) t } :=
 ⟨_,i6 (j4 (i:=3) scGr.nd rfl (aC rfl) (b1C G.mak G.ini hr rfl G.mC G.inb .nil r8 (c5 (pv 0) (c5 (pv 1) (c5 (pv 2) c6)))))
  (i6 (j4 (i:=4) scGr.nd rfl (aC rfl) (a0Q (pv 3) T.cl G.com.me G.com.ok hr0 G.com.bd .nil r8))
  (i6 (a3w PassesOwn.never (m9 a4F (pv 4) J3 (p7 _))
   (i6 (j4 (i:=5) scGr.nd rfl (aC rfl) (a4s (pv 3) T.cl G.goi.me G.goi.ok hr0 G.goi.bd .nil r8 (c5 (pv 4) c6)))
   (i6 (A7 (m9 a0J (pv 5) J3 (p7 _)) (i8 (r6 J3)) t7)
   (i6 (U3 (a4s (pv 3) T.cl G.exc.me G.exc.ok hr0 G.exc.bd .nil r8 (c5 (pv 5) (c5 (pv 4) c6))))
   (i8 (j4 (i:=4) scGr.nd rfl (aC rfl) (a0Q (pv 3) T.cl G.com.me G.com.ok hr0 G.com.bd .nil r8)))))))
  (i8 (r6 (L9 (c5 (j7 j5 (j7 j5 (x6 (pv 3) rfl) (R1 K5 d0) (λ _ _=>rfl)) (R1 K5 d0) (λ _ _=>rfl))
   (c5 (a0Q (pv 3) T.cl G.amt.me G.amt.ok hr0 G.amt.bd .nil r8) (c5 (a0Q (pv 3) T.cl G.wts.me G.wts.ok hr0 G.wts.bd .nil r8) (c5 (x6 (pv 3) rfl) c6)))))))))⟩
end
section
variable {P:Program} {w:World} {K:W.Frag} {mg:Str->Option Value} {base:Heap} {f Pt:Addr} {fd:FuncData} {n:Nat} {C:Addr}
theorem RowsL.same {H H':Hp} {vs:List V} {rs:List (List Int)} (e:Same H H') (x:RowsL K H vs rs):RowsL K H' vs rs:=Paired.imp' (λ _ _ ⟨a,z,q⟩=>⟨a,z,e.seq q⟩) x
theorem b4S {m q M:Nat} {A:Nat->Nat->Int} {b c:Nat->Int} {S:Lp.Bo} (O:Lp.Of m q A b c S) (hM:∀ v,Lp.Fits M (m+1) (Lp.Vv m q A b c v)) (hb:Lp.bnd M (m+1)<2 ^ 4000):Sz 4000 m q S :=
 ⟨λ i j hi hj=>eK (O.w.bndT hM hi hj) hb,eK (O.w.bndd hM) hb⟩
def Cv (m q:Nat) (S:Lp.Bo) (cv:V):Prop:=(cv=.non/\∀ j,j<q->¬ S.T m j<0)\/∃ c:Nat,cv=.int c/\c<q/\S.T m c<0/\∀ i,i<q->S.T m i<0->S.outs c<=S.outs i
theorem a5B {f1 f2 f3 f4 f5 f6:Addr} {d1 d2 d3 d4 d5 d6:FuncData} (F:Fun K "greatest" "greatest" P1 f fd) (T:TB K C) (G:b5f P w K mg base n C Pt f1 f2 f3 f4 f5 f6 d1 d2 d3 d4 d5 d6) :
  FnOk P w K mg base E4 (n+2) f fd ["goal","rows","bounds"] (L0 K C Pt):=by
 refine F.ok scGr (λ vs H Q E h=>?_) (λ cdv A outer s H vs Q E hr h=>?_)
 ·obtain ⟨ga,ra,ba,goal,rvs,rows,bounds,m,q,M,rfl,_⟩:=h
  rfl
 obtain ⟨ga,ra,ba,goal,rvs,rows,bounds,m,q,M,rfl,hg,hra,hrw,hba,lr,lb,lg,hrl,hm,hq,hbn,hM,hB,L,kT,kN⟩:=h;refine ⟨_,(grT T G hr (hr.mono (by lia))).2,?_⟩;refine ⟨_,rfl,_,rfl,_,rfl,λ p dx hp hdx hne=>?_⟩;have e0:Same H (upd (upd H dx (.own p)) p (.ins C dx [])):=λ b o q'=>by rw [i3 (i4 q' hp),i3 (i4 q' hdx)]; exact q'
 refine ⟨p,dx,ga,ra,ba,goal,rvs,rows,bounds,m,q,rfl,upd_same,e0.seq hg,e0.seq hra,hrw.same e0,e0.seq hba,lr,lb,lg,hrl,hm,hq,λ H1 ca oa ia rs B k1 hoa hia=>⟨rfl,?_⟩⟩;have nop:oa≠p:=a0v B.out B.obj (by intro z; cases z);have nip:ia≠p:=a0v B.inn B.obj (by intro z; cases z);have hoa0:H oa=none:=by
  cases z:H oa with
  | none=>rfl
  | some o=>rw [e0 _ _ z] at hoa; cases hoa
 have hia0:H ia=none:=by
  cases z:H ia with
  | none=>rfl
  | some o=>rw [e0 _ _ z] at hia; cases hia
 have s1:Same H H1:=λ b o z=>k1 b o (i4 z hp) (e0 _ _ z);have L1:LT Pt H1:=L.same s1;have O0:=Lp.of0 (A:=T4 rows) (c:=E7 goal) (q:=q) hbn;have come:∀ (S:Lp.Bo) (ca:Addr) (rs:List Addr) (H2:Hp) (R:V->Hp->Prop),Bd C H2 p dx ca oa ia rs m q S->LT Pt H2->Same1 Pt H H2->(∀ cv H3,Cv m q S cv->Bd C H3 p dx ca oa ia rs m q S->LT Pt H3->Same1 Pt H H3->R cv H3) →
   a3q C Pt [.ref p] H2 R E0:=λ S ca rs H2 R B2 L2 e2 hR=>by
  refine ⟨p,dx,ca,oa,ia,rs,m,q,S,rfl,B2,by lia,L2,λ H3 e3 L3=>?_⟩;have B3:=B2.lam L2 e3;have e4:Same1 Pt H H3:=λ b o hb z=>e3 b o hb (e2 b o hb z);exact ⟨λ hn=>hR _ _ (.inl ⟨rfl,hn⟩) B3 L3 e4,λ j hj hneg hmin=>hR _ _ (.inr ⟨j,rfl,hj,hneg,hmin⟩) B3 L3 e4⟩
 refine ⟨_,rfl,p,dx,_,rfl,B.obj,rfl,?_⟩;unfold b1f;refine come _ _ _ _ _ B L1 (λ b o _ z=>s1 b o z) λ cv H2 hcv B2 L2 e2=>?_;obtain ⟨kk,hkk⟩:=O0.w.ends hM;refine ⟨λ j σ H3=>∃ (S:Lp.Bo) (ca:Addr) (rs:List Addr) (cv:V) (o5:Option V),σ=[some (.ref ga),some (.ref ra),some (.ref ba),some (.ref p),some cv,o5]/\Lp.Of m q (T4 rows) (E7 bounds) (E7 goal) S/\Lp.Ends m q S j/\Cv m q S cv/\Bd C H3 p dx ca oa ia rs m q S/\LT Pt H3/\Same1 Pt H H3,
  ⟨kk,_,ca,rs,cv,_,rfl,O0,hkk,hcv,B2,L2,e2⟩,?_⟩
 rintro j σ H3 ⟨S,ca,rs,cv,o5,rfl,O,hE,hcv,B3,L3,e3⟩;have sz:=b4S O hM hB;refine ⟨_,rfl,rfl,_,rfl,?_⟩;rcases hcv with ⟨rfl,hn⟩ | ⟨c,rfl,hc,hneg,hmin⟩
 ·refine C5 (λ z=>?_) (λ _=>?_)
  ·exact absurd z (by decide)
  obtain ⟨rm,em,am⟩:=B3.rs_last;refine ⟨_,rfl,p,C,dx,_,_,rfl,B3.obj,T.cl,T.nC,rfl,_,rfl,ca,_,_,_,rfl,rfl,SqL.of B3.cel,am,_,rfl,rm,_,_,_,rfl,rfl,SqL.of (B3.row m rm em),a0h,?_⟩;refine ⟨_,rfl,p,dx,_,rfl,B3.obj,rfl,?_⟩;refine ⟨p,dx,ca,oa,ia,rs,m,q,S,rfl,B3,hm,hq,O.w.ii,λ aa H4 e4 haa h4=>?_⟩;have B4:Bd C H4 p dx ca oa ia rs m q S:=B3.same1 (P:=Pt) λ b o z _=>e4 b o z;refine ⟨_,rfl,p,dx,_,rfl,B4.obj,rfl,?_⟩;refine ⟨p,dx,ca,oa,ia,rs,m,q,S,rfl,B4,hm,hq,O.w.oo,O.w.ob,λ wa H5 e5 hwa h5=>?_⟩;have B5:Bd C H5 p dx ca oa ia rs m q S:=B4.same1 (P:=Pt) λ b o z _=>e5 b o z;refine ⟨_,rfl,p,C,dx,_,_,rfl,B5.obj,T.cl,T.nS,rfl,(by show 4<=sizeLine; decide),λ t ht=>?_⟩;have e6:=(e4.trans e5).trans (Same.new ht (.tup [.int (S.T m q),.ref aa,.ref wa,.int S.d]));refine kT S _ t aa wa O hn sz (λ b o hb z=>e6 b o (e3 b o hb z)) (L3.same e6) upd_same ?_ ?_
  ·rw [i3 (i4 (e5 _ _ h4) ht)]; exact e5 _ _ h4
  ·rw [i3 (i4 h5 ht)]; exact h5
 ·refine C5 (λ _=>?_) (λ z=>absurd rfl z)
  refine ⟨λ σ' H'=>∃ j',j'<j/\∃ (S:Lp.Bo) (ca:Addr) (rs:List Addr) (cv:V) (o5:Option V),σ'=[some (.ref ga),some (.ref ra),some (.ref ba),some (.ref p),some cv,o5]/\Lp.Of m q (T4 rows) (E7 bounds) (E7 goal) S/\Lp.Ends m q S j'/\Cv m q S cv/\Bd C H' p dx ca oa ia rs m q S/\LT Pt H'/\Same1 Pt H H',λ σ' H' z=>z,?_⟩;refine ⟨_,rfl,p,dx,_,rfl,B3.obj,rfl,_,rfl,?_⟩;refine ⟨p,dx,ca,oa,ia,rs,m,q,S,c,rfl,B3,sz,by lia,by lia,λ hnone=>?_,λ r hrm hpos hbet=>?_⟩
  ·refine ⟨_,rfl,rfl,_,rfl,?_⟩
   refine C5 (λ _=>?_) (λ z=>absurd (decide_eq_true rfl) z);exact kN S H3 c O hc hneg hnone e3 L3
  ·have Ch:Lp.Choice m q S r c:=⟨hc,hneg,hmin,hrm,hpos,λ i hi hp'=>(hbet i hi hp').1,λ i hi hp'=>(hbet i hi hp').2⟩
   refine ⟨_,rfl,rfl,_,rfl,?_⟩;refine C5 (λ z=>absurd (of_decide_eq_true z) (by nofun)) (λ _=>?_);refine ⟨_,rfl,p,dx,_,rfl,B3.obj,rfl,_,rfl,_,rfl,?_⟩;refine ⟨p,dx,ca,oa,ia,rs,m,q,S,r,c,rfl,B3,sz,hrm,hc,hm,hq,O.w.pos,λ H4 ca' rs' B4 k4=>?_⟩;have e4:Same1 Pt H H4:=λ b o hb z=>k4 b o (i4 z hp) (i4 z hoa0) (i4 z hia0) (e3 b o hb z);have tk:∀ b o,H3 b=some o->(∀ C dx fs,o≠.ins C dx fs)->(∀ xs,o≠.lst xs)->H4 b=some o:=λ b o z n1 n2=>k4 b o (λ y=>by subst y; rw [B3.obj] at z; exact n1 _ _ _ (aS z).symm) (λ y=>by subst y; rw [B3.out] at z; exact n2 _ (aS z).symm) (λ y=>by subst y; rw [B3.inn] at z; exact n2 _ (aS z).symm) z;have L4:LT Pt H4:=by
    rcases L3 with t | ⟨c',t1,t2⟩
    ·exact .inl (tk _ _ t (λ _ _ _=>nofun) λ _=>nofun)
    ·exact .inr ⟨c',tk _ _ t1 (λ _ _ _=>nofun) λ _=>nofun,tk _ _ t2 (λ _ _ _=>nofun) λ _=>nofun⟩
   refine ⟨_,rfl,p,dx,_,rfl,B4.obj,rfl,?_⟩;refine come _ _ _ _ _ B4 L4 e4 λ cv' H5 hcv' B5 L5 e5=>?_;obtain ⟨j',hj',hE'⟩:=hE.next O.w Ch;exact ⟨j',hj',_,ca',rs',cv',_,rfl,O.piv Ch,hE',hcv',B5,L5,e5⟩
end
section
variable {P:Program} {w:World} {K:W.Frag} {mg:Str->Option Value} {base:Heap} {f g:Addr} {fd gd:FuncData}
def a4x (K:W.Frag):Sp:=λ vs H Q _=>∃ (a:Addr) (ns:List Int) (k:Int),vs=[.ref a,.int k]/\SqL K H a (ns.map V.int)/\0<=k/\∀ c:Int,Q (.int c) H
theorem b3I:m6 ["script","k"] ["script","k"] (i5 a9e):=⟨rfl,rfl,rfl,by decide +kernel,rfl,by decide +kernel,by decide +kernel⟩
theorem b4c {ns:List Int} {k:Int} (h0:0<=k) (h:k<((ns.map V.int).length:Int)):∃ v:Int,atI (ns.map V.int) k=some (.int v):=by
 have hl:(ns.map V.int).length=ns.length:=aA _;have hk:k.toNat<ns.length:=by lia
 have ek:k=((k.toNat:Nat):Int):=by lia
 have q:atI (ns.map V.int) ((k.toNat:Nat):Int)=some (.int ns[k.toNat]):=w6 (by rw [aE,aF hk]; rfl);rw [<- ek] at q;exact ⟨_,q⟩
theorem b1Z {n:Nat} (F:Fun K "_law_cell_at" "_law_cell_at" a9e f fd) (T:w8 mg):FnOk P w K mg base E4 (n+1) f fd ["script","k"] (a4x K):=by
 refine F.ok b3I (λ vs H Q E h=>?_) (λ cdv A outer s H vs Q E hr h=>?_)
 ·obtain ⟨a,ns,k,rfl,_⟩:=h
  rfl
 obtain ⟨a,ns,k,rfl,hS,h0,q⟩:=h;refine ⟨_,i6 (A7 (m9 a1q (pv 1) (j9 j6 rfl T.len bR (c5 (pv 0) c6)) (p7 _)) (i8 (r6 (j7 j5 (pv 0) (pv 1) (λ _ _=>rfl)))) t7)
  (i8 (r6 d0)),?_⟩
 refine ⟨_,rfl,_,rfl,a,_,rfl,.inl hS,_,_,rfl,rfl,_,rfl,?_⟩;refine C5 (λ c=>?_) (λ c=>?_)
 ·obtain ⟨v,hv⟩:=b4c h0 (of_decide_eq_true c)
  exact ⟨_,rfl,_,rfl,a,_,_,_,rfl,rfl,hS,hv,q v⟩
 ·exact q 0
def a2x (K:W.Frag):Sp:=λ vs H Q _=>∃ (c:Int) (many:Nat) (b:Int),vs=[.int c,.int (many:Int),.int b]/\many<=900/\0<b/\b<1073741824 ∧
 ∀ (r:Addr) (H':Hp) (ds:List Int),Same H H'->H' r=some (.lst (ds.map V.int))->ds.length=many->(∀ d∈ds,0<=d/\d<b)->Q (.ref r) H'
theorem scDraws:m6 ["cell","many","base","found","rest","stirred","k"] ["cell","many","base"] (i5 a6I):=⟨rfl,rfl,rfl,by decide +kernel,rfl,by decide +kernel,by decide +kernel⟩
theorem a9X {n:Nat} (F:Fun K "_law_draws" "_law_draws" a6I f fd) (T:w8 mg):FnOk P w K mg base E4 (n+1) f fd ["cell","many","base"] (a2x K):=by
 refine F.ok scDraws (λ vs H Q E h=>?_) (λ cdv A outer s H vs Q E hr h=>?_)
 ·obtain ⟨a,ns,k,rfl,_⟩:=h
  rfl
 obtain ⟨c,many,b,rfl,hm,hb0,hb1,q⟩:=h;refine ⟨_,i6 (j4 (i:=3) scDraws.nd rfl (aC rfl) (v6 c6))
  (i6 (j4 (i:=4) scDraws.nd rfl (aC rfl) (j0 Y4 (pv 0) (t9 a3V rfl T.int kU (c5 (R5 a9T (pv 0) (j0 a4B d0 d0) (p7 _)) c6))))
  (i6 (j4 (i:=5) scDraws.nd rfl (aC rfl) (j0 A4 (pv 0) d0))
  (i6 (P3 PassesOwn.never rfl (V2 rfl T.range (c5 (j0 C2 (pv 1) d0) c6)) (i7 (i:=6) scDraws.nd rfl (aC rfl))
   (i6 (j4 (i:=5) scDraws.nd rfl (aC rfl) (j0 A4 (j0 C2 (j0 C2 (j0 C2 (j0 Y4 (pv 5) (pv 5)) (j0 Y4 d0 (pv 5))) (pv 6)) d0) d0))
    (i8 (A7 (PW.pt (a3h (m9 a0u (pv 6) d0 (p7 _)) (a1p (m9 a0u (pv 4) d0 (p7 _)))))
     (i6 (U3 (a3e fE fX fY P4 (pv 3) (c5 (j0 A4 (pv 4) (pv 2)) c6))) (i8 (j4 (i:=4) scDraws.nd rfl (aC rfl) (j0 a0b (pv 4) (pv 2)))))
     (i8 (A7 (m9 a0u (pv 6) d0 (p7 _)) (i8 (U3 (a3e fE fX fY P4 (pv 3) (c5 (j0 A4 (j0 a0b (pv 5) d0) (pv 2)) c6)))) t7))))))
  (i8 (r6 (pv 3)))))),?_⟩
 refine ⟨(by show 0<=sizeLine; decide),λ fl hfl=>?_⟩;refine ⟨_,rfl,_,rfl,_,_,rfl,rfl,⟨by decide,by decide,by decide⟩,_,_,rfl,rfl,.inr ⟨_,rfl,_,_,rfl,rfl,.inr ?_,?_⟩⟩
 ·constructor <;> (split <;> decide)
 refine ⟨_,rfl,_,_,rfl,rfl,(by show (0:Int)<2305843009213693951; decide),?_⟩;refine ⟨_,rfl,_,_,rfl,rfl,((many:Int)+3),rfl,by lia,by lia,?_⟩;have e3:((many:Int)+3).toNat=many+3:=by lia
 rw [e3];refine a1M (n:=many+3) (λ i σ H'=>∃ (r st:Int) (ds:List Int) (ks:Option V),σ=[some (.int c),some (.int (many:Int)),some (.int b),some (.ref fl),some (.int r),some (.int st),ks]/\H'=upd H fl (.lst (ds.map V.int))/\ds.length=i - 3/\(∀ d∈ds,0<=d/\d<b)/\0<=st/\st<2305843009213693951)
  ⟨_,_,[],none,rfl,rfl,rfl,λ d hd=>(by cases hd),eG _ (by decide),cU _ (by decide)⟩ ?_ ?_
 ·rintro i σ H' hi ⟨r,st,ds,ks,rfl,rfl,hl,hd,hs0,hs1⟩
  refine ⟨_,rfl,_,rfl,_,_,rfl,rfl,.inl ⟨by lia,by lia⟩,_,rfl,_,_,rfl,rfl,.inl ⟨by decide,by decide⟩,_,_,rfl,rfl,_,rfl,_,_,rfl,rfl,_,_,rfl,rfl,_,_,rfl,rfl,(by show (0:Int)<2305843009213693951; decide),?_⟩;have hs0':0<=(st*st+48271*st+(0+(i:Int))+1) % 2305843009213693951:=eG _ (by decide);have hs1':(st*st+48271*st+(0+(i:Int))+1) % 2305843009213693951<2305843009213693951:=cU _ (by decide);refine ⟨_,rfl,_,_,rfl,rfl,_,rfl,?_⟩;have hz:(ds.map V.int).length<sizeLine:=by rw [aA]; exact j8 (by lia)
  have more:∀ d:Int,(ds.map V.int)++[V.int d]=(ds++[d]).map V.int:=λ d=>by rw [bC]; rfl
  have mem:∀ d:Int,0<=d->d<b->∀ d'∈ds++[d],0<=d'/\d'<b:=λ d h0 h1 d' hd'=>by
   rcases aQ.mp hd' with z | z
   ·exact hd d' z
   ·rw [bN.mp z]; exact ⟨h0,h1⟩
  refine C5 (λ c1=>?_) (λ c1=>?_)
  ·have c1':2<0+(i:Int):=of_decide_eq_true c1
   refine ⟨_,rfl,_,_,rfl,rfl,_,rfl,?_⟩;refine C5 (λ c2=>?_) (λ c2=>?_)
   ·refine ⟨_,rfl,.inl ⟨rfl,_,SqL.of upd_same⟩,_,rfl,_,rfl,_,_,rfl,rfl,hb0,fl,_,_,rfl,rfl,upd_same,hz,?_⟩
    refine ⟨_,rfl,_,rfl,_,_,rfl,rfl,⟨hb0,hb1⟩,?_⟩;refine ⟨_,_,ds++[r % b],_,rfl,?_,?_,mem _ (eG _ (by lia)) (cU _ hb0),hs0',hs1'⟩
    ·rw [a2A,more]
    ·rw [aO,dN]; lia
   ·refine ⟨_,rfl,_,_,rfl,rfl,_,rfl,?_⟩
    refine C5 (λ c3=>?_) (λ c3=>absurd c1 c3);refine ⟨_,rfl,.inl ⟨rfl,_,SqL.of upd_same⟩,_,rfl,_,_,rfl,rfl,⟨by decide,by decide⟩,_,rfl,_,_,rfl,rfl,hb0,fl,_,_,rfl,rfl,upd_same,hz,?_⟩;refine ⟨_,_,ds++[(st*st+48271*st+(0+(i:Int))+1) % 2305843009213693951 / 4096 % b],_,rfl,?_,?_,mem _ (eG _ (by lia)) (cU _ hb0),hs0',hs1'⟩
    ·rw [a2A,more]
    ·rw [aO,dN]; lia
  ·have c1':¬ 2<0+(i:Int):=of_decide_eq_false (dH.mpr c1)
   refine a0s ?_;refine ⟨_,rfl,_,_,rfl,rfl,_,rfl,?_⟩;refine C5 (λ c3=>absurd c3 c1) (λ c3=>?_);exact ⟨_,_,ds,_,rfl,rfl,by lia,hd,hs0',hs1'⟩
 ·intro σ H' hM_; refine P0 λ G_ hG_=>?_; obtain ⟨r,st,ds,ks,rfl,rfl,hl,hd,_⟩:=hM_; subst hG_
  exact ⟨_,rfl,q fl _ ds (Same.new hfl _) upd_same (by lia) hd⟩
end
theorem a1t {n:Nat} {k:Int} (h0:0<=k) (h1:k<(n:Int)):ixN n k=some k.toNat:=by
 unfold ixN;rw [if_pos h0,if_pos h1]
theorem b1i {α:Type} {xs:List α} {k:Int} (h0:0<=k) (h1:k<(xs.length:Int)):∃ v,v∈xs/\atI xs k=some v:=by
 have hk:k.toNat<xs.length:=by lia
 refine ⟨xs[k.toNat],cD hk,?_⟩;unfold atI;rw [a1t h0 h1];exact aF hk
theorem P7 {ns:List Int} {k:Int} (h0:0<=k) (h1:k<(ns.length:Int)):∃ v,v∈ns/\atI (ns.map V.int) k=some (.int v):=by
 obtain ⟨v,hv,e⟩:=b1i (xs:=ns.map V.int) h0 (by rw [aA]; exact h1);obtain ⟨n,hn,rfl⟩:=aK.mp hv;exact ⟨n,hn,e⟩
theorem map_set {ns:List Int} {j:Nat} {v:Int}:(ns.map V.int).set j (.int v)=(ns.set j v).map V.int:=by rw [iV]
structure HG (far:Int) (kt kg:Nat) (h:c7):Prop where
 lt:h.1.length=kt
 lg:h.2.length=kg
 t:∀ x∈h.1,1<=x/\x<=far
 g:∀ x∈h.2,0<=x/\x<=far
 p:∃ x∈h.2,0<x
section
variable {P:Program} {w:World} {K:W.Frag} {mg:Str->Option Value} {base:Heap} {f g:Addr} {fd gd:FuncData}
def a6y (K:W.Frag):Sp:=λ vs H Q _=>∃ (v:V) (p:Addr) (far:Int) (h:c7) (ds:List Int) (kt kg:Nat),vs=[v,.ref p,.int far]/\HS K H v h/\HG far kt kg h/\1<=kt/\kt<=4/\1<=kg/\kg<=4/\1<=far ∧
 SqL K H p (ds.map V.int)/\10<=ds.length/\(∀ d∈ds,0<=d)/\∀ (r:V) (H':Hp) (h':c7),Same H H'->HS K H' r h'->HG far kt kg h'->Q r H'
theorem scNear:m6 ["house","picks","far","takes","gives","by","at"] ["house","picks","far"] (i5 b0x):=⟨rfl,rfl,rfl,by decide +kernel,rfl,by decide +kernel,by decide +kernel⟩
theorem b1e:(["take","by"]:List Str).Nodup:=by decide +kernel
theorem b2k:(["give","by"]:List Str).Nodup:=by decide +kernel
theorem b2q {n:Nat} (F:Fun K "_law_near" "_law_near" b0x f fd) (T:w8 mg):FnOk P w K mg base E4 (n+1) f fd ["house","picks","far"] (a6y K):=by
 refine F.ok scNear (λ vs H Q E h=>?_) (λ cdv A outer s H vs Q E hr h=>?_)
 ·obtain ⟨v,p,far,h,ds,kt,kg,rfl,_⟩:=h
  rfl
 obtain ⟨v,pk,far,h,ds,kt,kg,rfl,⟨a,t,gv,rfl,h0,h1,h2⟩,hG,kt1,kt4,kg1,kg4,hfar,hP,hd12,hd0,q⟩:=h;refine ⟨_,i6 (K4 (pv 0) (S5 rfl (j3 (i7 (i:=3) scNear.nd rfl (aC rfl)) (j3 (i7 (i:=4) scNear.nd rfl (aC rfl)) v7))))
  (i6 (j4 (i:=5) scNear.nd rfl (cC rfl) (j7 j5 (v6 (c5 d0 (c5 d0 (c5 d0 (c5 d0 c6))))) (j0 A4 (j7 j5 (pv 1) d0 (λ _ _=>rfl)) d0) (λ _ _=>rfl)))
  (m8 (A7 (m9 a0u (j0 Y4 (j9 (a4a rfl) rfl T.max kW (c5 (j0 b2m (pv 3) (pv 4)) c6)) (pv 5)) (pv 2) (p7 _)) (i8 (j4 (i:=5) scNear.nd rfl (cC rfl) d0)) t7)
  (i6 (X9 (i:=3) ["take"] [5] scNear.nd rfl rfl rfl (a6s (pv 3)) (λ _ _ _ _=>i7 (i:=0) b1e rfl (aC rfl)) (λ _ _ _ _=>j0 Y4 (pv 0) (pv 1)))
  (i6 (X9 (i:=4) ["give"] [5] scNear.nd rfl rfl rfl (a6s (pv 4)) (λ _ _ _ _=>i7 (i:=0) b2k rfl (aC rfl)) (λ _ _ _ _=>j0 Y4 (pv 0) (pv 1)))
  (m8 (A7 (m9 a1e (j0 A4 (j0 a0b (j7 j5 (pv 1) d0 (λ _ _=>rfl)) d0) d0) d0 (p7 _))
   (i6 (j4 (i:=6) scNear.nd rfl (aC rfl) (j0 A4 (j7 j5 (pv 1) d0 (λ _ _=>rfl)) (j9 j6 rfl T.len bR (c5 (pv 3) c6))))
    (i8 (K4 (j9 (a0l rfl) rfl T.min hW (c5 (pv 2) (c5 (j0 C2 (j0 C2 (j7 j5 (pv 3) (pv 6) (λ _ _=>rfl)) (j0 A4 (j0 a0b (j7 j5 (pv 1) d0 (λ _ _=>rfl)) d0) d0)) d0) c6))) (W6 (pv 3) (pv 6) N4)))) t7)
  (m8 (A7 (m9 a1e (j0 A4 (j0 a0b (j7 j5 (pv 1) d0 (λ _ _=>rfl)) d0) d0) d0 (p7 _))
   (i6 (j4 (i:=6) scNear.nd rfl (aC rfl) (j0 A4 (j7 j5 (pv 1) d0 (λ _ _=>rfl)) (j9 j6 rfl T.len bR (c5 (pv 4) c6))))
    (i8 (K4 (j9 (a0l rfl) rfl T.min hW (c5 (pv 2) (c5 (j0 C2 (j7 j5 (pv 4) (pv 6) (λ _ _=>rfl)) d0) c6))) (W6 (pv 4) (pv 6) N4)))) t7)
  (i8 (r6 (L9 (c5 (t9 P9 rfl T.tuple hX (c5 (pv 3) c6)) (c5 (t9 P9 rfl T.tuple hX (c5 (pv 4) c6)) c6))))))))))),?_⟩
 obtain ⟨d9,hd9,a9⟩:=P7 (ns:=ds) (k:=9) (by decide) (by lia);obtain ⟨d8,hd8,a8⟩:=P7 (ns:=ds) (k:=8) (by decide) (by lia);have p9:=hd0 d9 hd9;have p8:=hd0 d8 hd8;refine ⟨_,rfl,a,_,rfl,h0,rfl,_,_,rfl,_,_,rfl,rfl,?_⟩;refine ⟨(by show 4<=sizeLine; decide),λ lp hlp=>?_⟩;have s1:=Same.new hlp (.lst [V.int 1,V.int 1,V.int 2,V.int 3]);obtain ⟨bv,hbv,abv⟩:=P7 (ns:=[1,1,2,3]) (k:=d9 % 4) (by lia) (by show d9 % 4<4; lia);have hb:1<=bv/\bv<=3:=by
  simp at hbv;rcases hbv with rfl | rfl | rfl <;> decide
 refine ⟨_,rfl,pk,_,9,_,rfl,rfl,s1.seq hP,a9,_,_,rfl,rfl,(by show (0:Int)<4; decide),lp,_,_,_,rfl,rfl,SqL.of upd_same,abv,?_⟩;have l1:(h.1.map V.int).length=kt:=by rw [aA]; exact hG.lt
 have l2:(h.2.map V.int).length=kg:=by rw [aA]; exact hG.lg
 have hne:h.1++h.2≠[]:=λ z=>by
  have:=congrArg jR z;rw [aO,hG.lt] at this;simp at this;lia
 refine ⟨λ σ' H'=>∃ b:Int,σ'=[some (.ref a),some (.ref pk),some (.int far),some (.ref t),some (.ref gv),some (.int b),none]/\Same H H'/\(1<=b/\b<=3)/\∀ x∈h.1++h.2,x*b<=far,?_,?_⟩
 ·refine ⟨_,rfl,_,rfl,t,gv,_,_,rfl,rfl,s1.tseq h1,s1.tseq h2,?_,?_,?_,?_⟩
  ·intro z; rw [z] at l1; simp at l1; lia
  ·rw [l1,l2]; exact dX (j8 (by lia))
  ·intro z; rw [z] at l2; simp at l2; lia
  ·intro _ pc hpc
   have s2:=Same.new hpc (.tup (h.1.map V.int++h.2.map V.int));refine ⟨pc,h.1++h.2,rfl,.inr (SqT.of (by rw [upd_same,bC])),hne,λ M hM hMx=>?_⟩;refine ⟨_,rfl,_,_,rfl,rfl,.inr ⟨by lia,by lia⟩,_,rfl,_,_,rfl,rfl,_,rfl,?_⟩;refine C5 (λ c=>?_) (λ c=>?_)
   ·refine ⟨1,rfl,s1.trans s2,by decide,λ x hx=>?_⟩
    rcases aQ.mp hx with z | z
    ·have:=hG.t x z; lia
    ·have:=hG.g x z; lia
   ·have c':¬ far<M*bv:=of_decide_eq_false (dH.mpr c)
    refine ⟨bv,rfl,s1.trans s2,hb,λ x hx=>?_⟩;have:=cI (hMx x hx) (show 0<=bv by lia);lia
 intro σ' H2 hM_; refine P0 λ G_ hG_=>?_; obtain ⟨b,rfl,e2,hb,hbx⟩:=hM_; subst hG_;have mulok:CMul=CMul:=rfl;refine ⟨_,rfl,t,rfl,⟨_,e2.tseq h1⟩,λ tl htl=>?_⟩;refine N9 (a3u (e2.tseq h1)) htl (by rw [l1]; exact j8 (by lia)) (λ x=>.int (vI x*b)) (λ i x H' N hx e hN=>?_) ?_
 ·obtain ⟨k,rfl⟩:=P2 hx
  exact ⟨Wk.set (by decide),_,rfl,_,rfl,_,_,rfl,rfl,.inr ⟨by lia,by lia⟩,hN⟩
 have e3:=e2.write (o:=.lst ((h.1.map V.int).map λ x=>.int (vI x*b))) (e2.free htl);refine ⟨_,rfl,gv,rfl,⟨_,e3.tseq h2⟩,λ gl hgl=>?_⟩;refine N9 (a3u (e3.tseq h2)) hgl (by rw [l2]; exact j8 (by lia)) (λ x=>.int (vI x*b)) (λ i x H' N hx e hN=>?_) ?_
 ·obtain ⟨k,rfl⟩:=P2 hx
  exact ⟨Wk.set (by decide),_,rfl,_,rfl,_,_,rfl,rfl,.inr ⟨by lia,by lia⟩,hN⟩
 have eA:(h.1.map V.int).map (λ x=>V.int (vI x*b))=(h.1.map (·*b)).map V.int:=by rw [aM,aM]; rfl
 have eB:(h.2.map V.int).map (λ x=>V.int (vI x*b))=(h.2.map (·*b)).map V.int:=by rw [aM,aM]; rfl
 have ftl:H tl=none:=e2.free htl;have fgl:H gl=none:=e3.free hgl;have ne1:tl≠gl:=λ z=>by rw [<- z,upd_same] at hgl; cases hgl
 rw [eA,eB];rw [eA] at e3;have e4:=e3.write (o:=.lst ((h.2.map (·*b)).map V.int)) fgl;have at4:upd (upd H2 tl (.lst ((h.1.map (·*b)).map V.int))) gl (.lst ((h.2.map (·*b)).map V.int)) tl=some (.lst ((h.1.map (·*b)).map V.int)):=by rw [i3 ne1,upd_same]
 have ag4:upd (upd H2 tl (.lst ((h.1.map (·*b)).map V.int))) gl (.lst ((h.2.map (·*b)).map V.int)) gl=some (.lst ((h.2.map (·*b)).map V.int)):=upd_same;generalize upd (upd H2 tl (.lst ((h.1.map (·*b)).map V.int))) gl (.lst ((h.2.map (·*b)).map V.int))=H4 at e4 at4 ag4 ⊢;have tA:∀ x∈h.1.map (·*b),1<=x/\x<=far:=λ x hx=>by
  obtain ⟨y,hy,rfl⟩:=aK.mp hx;have y1:=(hG.t y hy).1;have y2:=hbx y (dC _ hy);have y3:=kQ y1 hb.1 (by decide) (by lia);exact ⟨by simpa using y3,y2⟩
 have tB:∀ x∈h.2.map (·*b),0<=x/\x<=far:=λ x hx=>by
  obtain ⟨y,hy,rfl⟩:=aK.mp hx;exact ⟨Int.mul_nonneg (hG.g y hy).1 (by lia),hbx y (cN _ hy)⟩
 have tP:∃ x∈h.2.map (·*b),0<x:=by
  obtain ⟨y,hy,y0⟩:=hG.p;exact ⟨y*b,aK.mpr ⟨y,hy,rfl⟩,cO y0 (by lia)⟩
 have lA:(h.1.map (·*b)).length=kt:=by rw [aA]; exact hG.lt
 have lB:(h.2.map (·*b)).length=kg:=by rw [aA]; exact hG.lg
 generalize h.1.map (·*b)=A0 at tA lA at4;generalize h.2.map (·*b)=B0 at tB lB tP ag4;refine ⟨λ σ' H'=>∃ (A1:List Int) (ks:Option V),σ'=[some (.ref a),some (.ref pk),some (.int far),some (.ref tl),some (.ref gl),some (.int b),ks]/\Same H H'/\H' tl=some (.lst (A1.map V.int))/\H' gl=some (.lst (B0.map V.int))/\A1.length=kt/\∀ x∈A1,1<=x/\x<=far,?_,?_⟩
 ·refine ⟨_,rfl,pk,_,9,_,rfl,rfl,e4.seq hP,a9,_,_,rfl,rfl,⟨by decide,by decide⟩,_,_,rfl,rfl,(by show (0:Int)<3; decide),rfl,_,rfl,?_⟩
  refine C5 (λ c=>?_) (λ c=>⟨A0,none,rfl,e4,at4,ag4,lA,tA⟩);have lA':(A0.map V.int).length=kt:=by rw [aA]; exact lA
  refine ⟨_,rfl,pk,_,8,_,rfl,rfl,e4.seq hP,a8,_,rfl,tl,_,rfl,.inl (SqL.of at4),_,_,rfl,rfl,(by show (0:Int)<((A0.map V.int).length:Int); rw [lA']; lia),?_⟩;have r0:0<=d8 % ((A0.map V.int).length:Int):=eG _ (by rw [lA']; lia);have r1:d8 % ((A0.map V.int).length:Int)<((A0.map V.int).length:Int):=cU _ (by rw [lA']; lia);obtain ⟨x,hx,ax⟩:=P7 (ns:=A0) (k:=d8 % ((A0.map V.int).length:Int)) r0 (by rw [aA] at r1 ⊢; exact r1);have hx1:=tA x hx;refine ⟨_,rfl,_,rfl,_,rfl,tl,_,_,_,rfl,rfl,SqL.of at4,ax,_,rfl,pk,_,9,_,rfl,rfl,e4.seq hP,a9,_,_,rfl,rfl,⟨by decide,by decide⟩,_,_,rfl,rfl,(by show (0:Int)<2; decide),_,_,rfl,rfl,_,_,rfl,rfl,_,_,rfl,?_⟩;refine ⟨_,rfl,_,rfl,tl,_,_,_,rfl,rfl,at4,a1t r0 r1,?_⟩;refine ⟨A0.set (d8 % ((A0.map V.int).length:Int)).toNat _,_,rfl,e4.write ftl,by rw [upd_same,map_set],by rw [i3 (aY ne1)]; exact ag4,by rw [cJ]; exact lA,λ y hy=>?_⟩;rcases gZ hy with z | z
  ·exact tA y z
  ·rw [z]
   split <;> lia
 intro σ' H5 hM_; refine P0 λ G_ hG_=>?_; obtain ⟨A1,ks,rfl,e5,at5,ag5,lA1,tA1⟩:=hM_; subst hG_;refine ⟨λ σ' H'=>∃ (B1:List Int) (ks:Option V),σ'=[some (.ref a),some (.ref pk),some (.int far),some (.ref tl),some (.ref gl),some (.int b),ks]/\Same H H'/\H' tl=some (.lst (A1.map V.int))/\H' gl=some (.lst (B1.map V.int))/\B1.length=kg/\(∀ x∈B1,0<=x/\x<=far)/\∃ x∈B1,0<x,?_,?_⟩
 ·refine ⟨_,rfl,pk,_,9,_,rfl,rfl,e5.seq hP,a9,_,_,rfl,rfl,⟨by decide,by decide⟩,_,_,rfl,rfl,(by show (0:Int)<3; decide),rfl,_,rfl,?_⟩
  refine C5 (λ c=>?_) (λ c=>⟨B0,ks,rfl,e5,at5,ag5,lB,tB,tP⟩);have lB':(B0.map V.int).length=kg:=by rw [aA]; exact lB
  refine ⟨_,rfl,pk,_,8,_,rfl,rfl,e5.seq hP,a8,_,rfl,gl,_,rfl,.inl (SqL.of ag5),_,_,rfl,rfl,(by show (0:Int)<((B0.map V.int).length:Int); rw [lB']; lia),?_⟩;have r0:0<=d8 % ((B0.map V.int).length:Int):=eG _ (by rw [lB']; lia);have r1:d8 % ((B0.map V.int).length:Int)<((B0.map V.int).length:Int):=cU _ (by rw [lB']; lia);obtain ⟨x,hx,ax⟩:=P7 (ns:=B0) (k:=d8 % ((B0.map V.int).length:Int)) r0 (by rw [aA] at r1 ⊢; exact r1);have hx1:=tB x hx;refine ⟨_,rfl,_,rfl,_,rfl,gl,_,_,_,rfl,rfl,SqL.of ag5,ax,_,_,rfl,rfl,_,_,rfl,?_⟩;refine ⟨_,rfl,_,rfl,gl,_,_,_,rfl,rfl,ag5,a1t r0 r1,?_⟩;have rn:(d8 % ((B0.map V.int).length:Int)).toNat<B0.length:=by rw [aA] at r1 ⊢; lia
  refine ⟨B0.set (d8 % ((B0.map V.int).length:Int)).toNat _,_,rfl,e5.write fgl,by rw [i3 ne1]; exact at5,by rw [upd_same,map_set],by rw [cJ]; exact lB,λ y hy=>?_,_,kX rn _,?_⟩
  ·rcases gZ hy with z | z
   ·exact tB y z
   ·rw [z]
    split <;> lia
  ·split <;> lia
 intro σ' H6 hM_; refine P0 λ G_ hG_=>?_; obtain ⟨B1,ks,rfl,e6,at6,ag6,lB1,tB1,tP1⟩:=hM_; subst hG_;refine ⟨_,rfl,tl,_,rfl,.inl ⟨SqL.of at6,λ pt hpt=>?_⟩⟩;have f1:=Same.new hpt (.tup (A1.map V.int));refine ⟨_,rfl,gl,_,rfl,.inl ⟨SqL.of (f1 _ _ ag6),λ pg hpg=>?_⟩⟩;have f2:=Same.new hpg (.tup (B1.map V.int));refine ⟨(by show 2<=sizeLine; decide),λ pr hpr=>?_⟩;have f3:=Same.new hpr (.tup [V.ref pt,V.ref pg]);exact q _ _ (A1,B1) (e6.trans (f1.trans (f2.trans f3))) ⟨pr,pt,pg,rfl,SqT.of upd_same,SqT.of (f3 _ _ (f2 _ _ upd_same)),SqT.of (f3 _ _ upd_same)⟩ ⟨lA1,lB1,tA1,tB1,tP1⟩
end
end Rim
namespace L2
open PySem
def Keep (H H':Hp):Prop:=∀ b o,H b=some o->(∀ xs,o≠.lst xs)->H' b=some o
theorem Keep.upd {H:Hp} {b:Addr} {ys:List V} {o:HO} (h:H b=some (.lst ys)):Keep H (upd H b o):=λ c u q n=>by
 have:c≠b:=λ z=>by rw [z,h] at q; exact n ys (aS q).symm
 rw [i3 this]; exact q
theorem Keep.tseq {K:W.Frag} {H H':Hp} {a:Addr} {xs:List V} (e:Keep H H') (h:SqT K H a xs):SqT K H' a xs:=by
 rcases h with (h | ⟨o,h⟩) | h
 ·exact .inl (.inl (e _ _ h (λ _ z=>nomatch z)))
 ·exact .inl (.inr ⟨o,e _ _ h (λ _ z=>nomatch z)⟩)
 ·exact .inr h
end L2
namespace Rim
open PySem L2
theorem HS.keep {K:W.Frag} {H H':Hp} {v:V} {h:c7} (e:Keep H H') (x:HS K H v h):HS K H' v h:=by
 obtain ⟨a,t,g,h0,h1,h2,h3⟩:=x;exact ⟨a,t,g,h0,e.tseq h1,e.tseq h2,e.tseq h3⟩
theorem Bk.keep {K:W.Frag} {H H':Hp} {vs:List V} {hs:List c7} (e:Keep H H') (x:Bk K H vs hs):Bk K H' vs hs:=Paired.imp' (λ _ _ r=>HS.keep e r) x
def b0g (ns:List Int):PyData:=.tuple (ns.map PyData.int)
def a1F (h:c7):PyData:=.tuple [b0g h.1,b0g h.2]
theorem a2T {K:W.Frag} {H:Hp}:∀ ns:List Int,Dps K H (ns.map V.int) (ns.map PyData.int)
 | []=>.nil
 | n::r=>.cons (.int n) (a2T r)
theorem HS.dp {K:W.Frag} {H:Hp} {v:V} {h:c7} (x:HS K H v h):Dp K H v (a1F h):=by
 obtain ⟨a,t,g,rfl,h1,h2,h3⟩:=x;exact .tup h1 (.cons (.tup h2 (a2T _)) (.cons (.tup h3 (a2T _)) .nil))
theorem Bk.dps {K:W.Frag} {H:Hp}:∀ {vs:List V} {hs:List c7},Bk K H vs hs->Dps K H vs (hs.map a1F)
 | _,_,.nil=>.nil
 | _,_,.cons x r=>.cons x.dp (Bk.dps r)
theorem a3b:∀ ns:List Int,PyData.canLayAll0 (ns.map PyData.int)=true
 | []=>by rw [fL,PyData.canLayAll0]
 | n::r=>by rw [bJ,PyData.canLayAll0,a3b r,PyData.canLay0]; rfl
theorem a8v (h:c7):(a1F h).canLay0=true:=by
 unfold a1F b0g;rw [PyData.canLay0,PyData.canLayAll0,PyData.canLay0,a3b,PyData.canLayAll0,PyData.canLay0,a3b,PyData.canLayAll0]; rfl
theorem a5I:∀ hs:List c7,PyData.canLayAll0 (hs.map a1F)=true
 | []=>by rw [fL,PyData.canLayAll0]
 | h::r=>by rw [bJ,PyData.canLayAll0,a8v,a5I r]; rfl
section
variable {P:Program} {w:World} {K:W.Frag} {mg:Str->Option Value} {base:Heap} {f g:Addr} {fd gd:FuncData}
def a7p (K:W.Frag):Sp:=λ vs H Q _=>∃ (a:Addr) (ns:List Int) (at' most far:Int),vs=[.ref a,.int at',.int most,.int far]/\SqL K H a (ns.map V.int)/\0<=at'/\1<=most/\most<=900/\1<=far ∧
 ∀ (r:Addr) (H':Hp) (xs:List V) (hs:List c7) (kt kg:Nat),Same H H'->H' r=some (.lst xs)->Bk K H' xs hs->1<=hs.length->(hs.length:Int)<=most->1<=kt->kt<=4->1<=kg->kg<=4->(∀ h∈hs,HG far kt kg h)->Q (.ref r) H'
theorem scABook:m6 ["script","at","most","far","heads","kinds","many","size","book","k","picks","takes","some","gives","house"] ["script","at","most","far"] (i5 a1A):=⟨rfl,rfl,rfl,by decide +kernel,rfl,by decide +kernel,by decide +kernel⟩
theorem a8f:(["pick","size"]:List Str).Nodup:=by decide +kernel
noncomputable def abT {n:Nat} {fc fw fn:Addr} {dc dw dn:FuncData} {cdv:Value} {A:Around} {outer:List Env} {s:Shared} {H:Hp} {E:XK} (T:w8 mg)
  (Gc:FnOk P w K mg base E4 n fc dc ["script","k"] (a4x K)) (bc:Binds K dc ["script","k"] []) (kc:W.keepIn K (.ref fc)=true) (mc:mg "_law_cell_at"=some (.ref fc))
  (Gw:FnOk P w K mg base E4 n fw dw ["cell","many","base"] (a2x K)) (bw:Binds K dw ["cell","many","base"] []) (kw:W.keepIn K (.ref fw)=true) (mw:mg "_law_draws"=some (.ref fw))
  (Gn:FnOk P w K mg base E4 n fn dn ["house","picks","far"] (a6y K)) (bn:Binds K dn ["house","picks","far"] []) (kn:W.keepIn K (.ref fn)=true) (mn:mg "_law_near"=some (.ref fn))
  (hr:Room n (A.deeper (dB "_law_a_book" (i5 a1A) s.heap.objs.size f cdv))) :
  { t:TS // PSs (M0 E4 P w K mg base ["script","at","most","far","heads","kinds","many","size","book","k","picks","takes","some","gives","house"] "_law_a_book" (i5 a1A) f cdv A outer s H E).nox (v5 a1A) t } :=
 ⟨_,i6 (j4 (i:=4) scABook.nd rfl (aC rfl) (i9 Gw hr rfl mw kw bw .nil r8 (c5 (i9 Gc hr rfl mc kc bc .nil r8 (c5 (pv 0) (c5 (pv 1) c6))) (c5 d0 (c5 d0 c6)))))
  (m8 (j4 (i:=5) scABook.nd rfl (aC rfl) (v6 (c5 (j0 C2 d0 (j0 A4 (j7 j5 (pv 4) d0 (λ _ _=>rfl)) (j7 j5 (v6 (c5 d0 (c5 d0 c6))) (j0 A4 (j7 j5 (pv 4) d0 (λ _ _=>rfl)) d0) (λ _ _=>rfl))))
   (c5 (j0 C2 d0 (j0 A4 (j7 j5 (pv 4) d0 (λ _ _=>rfl)) (j7 j5 (v6 (c5 d0 (c5 d0 c6))) (j0 A4 (j7 j5 (pv 4) d0 (λ _ _=>rfl)) d0) (λ _ _=>rfl)))) c6))))
  (m8 (j4 (i:=6) scABook.nd rfl (aC rfl) (j0 C2 d0 (j0 A4 (j7 j5 (pv 4) d0 (λ _ _=>rfl)) (j7 j5 (v6 (c5 (pv 2) (c5 (j9 (a0l rfl) rfl T.min hW (c5 (pv 2) (c5 d0 c6))) c6))) (j0 a0b (j0 A4 (j7 j5 (pv 4) d0 (λ _ _=>rfl)) d0) d0) (λ _ _=>rfl)))))
  (m8 (j4 (i:=7) scABook.nd rfl (cC rfl) (j9 (a0l rfl) rfl T.min hW (c5 (pv 3) (c5 (j7 j5 (v6 (c5 d0 (c5 d0 (c5 d0 (c5 d0 (c5 (j0 a4B d0 d0) c6)))))) (j0 A4 (j7 j5 (pv 4) d0 (λ _ _=>rfl)) d0) (λ _ _=>rfl)) c6))))
  (i6 (j4 (i:=8) scABook.nd rfl (aC rfl) (v6 c6))
  (i6 (P3 PassesOwn.never rfl (V2 rfl T.range (c5 (pv 6) c6)) (i7 (i:=9) scABook.nd rfl (aC rfl))
   (m8 (j4 (i:=10) scABook.nd rfl (aC rfl) (i9 Gw hr rfl mw kw bw .nil r8 (c5 (j0 C2 (i9 Gc hr rfl mc kc bc .nil r8 (c5 (pv 0) (c5 (j0 C2 (pv 1) d0) c6))) (j0 Y4 (pv 9) (j0 C2 (j7 j5 (pv 4) d0 (λ _ _=>rfl)) d0))) (c5 d0 (c5 (j0 a4B d0 d0) c6)))))
   (m8 (j4 (i:=11) scABook.nd rfl (aC rfl) (t9 P9 rfl T.tuple hX (c5 (O3 ["pick"] [7] rfl (w4 (I0 P5 (pv 10) W5 (D4 (j7 j5 (pv 5) d0 (λ _ _=>rfl))))) (λ _ _ _ _=>i7 (i:=0) a8f rfl (aC rfl)) (λ _ _ _ _=>j0 C2 d0 (j0 A4 (pv 0) (pv 1)))) c6)))
   (i6 (j4 (i:=12) scABook.nd rfl (aC rfl) (I0 P5 (pv 10) (D4 d0) (D4 (j0 C2 d0 (j7 j5 (pv 5) d0 (λ _ _=>rfl))))))
   (m8 (X9 (i:=13) ["pick"] [7] scABook.nd rfl rfl rfl (w4 (pv 12)) (λ _ _ _ _=>i7 (i:=0) a8f rfl (aC rfl)) (λ _ _ _ _=>j0 Y4 (j0 A4 (pv 0) (j0 C2 (pv 1) d0)) (t9 a3V rfl T.int kU (c5 (R5 a0u (j0 A4 (pv 0) d0) d0 (p7 _)) c6))))
   (m8 (A7 (m9 a1e (j9 (a4a rfl) rfl T.max kW (c5 (pv 13) c6)) d0 (p7 _)) (i8 (K4 (j0 C2 d0 (j0 A4 (j7 j5 (pv 10) d0 (λ _ _=>rfl)) (pv 7))) (W6 (pv 13) (j0 A4 (j7 j5 (pv 10) d0 (λ _ _=>rfl)) (j7 j5 (pv 5) d0 (λ _ _=>rfl))) N4))) t7)
   (m8 (j4 (i:=14) scABook.nd rfl (aC rfl) (L9 (c5 (pv 11) (c5 (t9 P9 rfl T.tuple hX (c5 (pv 13) c6)) c6))))
   (m8 (A7 (PW.pt (a3h (m9 (a0P hr) (pv 8) (v6 c6) (p7 _)) (a1p (m9 a1e (j0 A4 (j7 j5 (pv 10) d0 (λ _ _=>rfl)) d0) d0 (p7 _)))))
    (i8 (j4 (i:=14) scABook.nd rfl (aC rfl) (i9 Gn hr rfl mn kn bn .nil r8 (c5 (j7 j5 (pv 8) (j0 A4 (j7 j5 (pv 10) d0 (λ _ _=>rfl)) (j9 j6 rfl T.len bR (c5 (pv 8) c6))) (λ _ _=>rfl)) (c5 (pv 10) (c5 (pv 3) c6)))))) t7)
   (i8 (U3 (a3e fE fX fY P4 (pv 8) (c5 (pv 14) c6))))))))))))
  (i8 (r6 (pv 8))))))))⟩
end
section
variable {P:Program} {w:World} {K:W.Frag} {mg:Str->Option Value} {base:Heap} {f g:Addr} {fd gd:FuncData}
theorem b0n {n:Nat} {fc fw fn:Addr} {dc dw dn:FuncData} (F:Fun K "_law_a_book" "_law_a_book" a1A f fd) (T:w8 mg)
  (Gc:FnOk P w K mg base E4 n fc dc ["script","k"] (a4x K)) (bc:Binds K dc ["script","k"] []) (kc:W.keepIn K (.ref fc)=true) (mc:mg "_law_cell_at"=some (.ref fc))
  (Gw:FnOk P w K mg base E4 n fw dw ["cell","many","base"] (a2x K)) (bw:Binds K dw ["cell","many","base"] []) (kw:W.keepIn K (.ref fw)=true) (mw:mg "_law_draws"=some (.ref fw))
  (Gn:FnOk P w K mg base E4 n fn dn ["house","picks","far"] (a6y K)) (bn:Binds K dn ["house","picks","far"] []) (kn:W.keepIn K (.ref fn)=true) (mn:mg "_law_near"=some (.ref fn)) :
  FnOk P w K mg base E4 (n+1) f fd ["script","at","most","far"] (a7p K):=by
 refine F.ok scABook (λ vs H Q E h=>?_) (λ cdv A outer s H vs Q E hr h=>?_)
 ·obtain ⟨a,ns,at',most,far,rfl,_⟩:=h
  rfl
 obtain ⟨a,ns,at',most,far,rfl,hS,hat,hm1,hm2,hfar,q⟩:=h;refine ⟨_,(abT T Gc bc kc mc Gw bw kw mw Gn bn kn mn hr).2,?_⟩;refine ⟨_,rfl,_,rfl,a,ns,at',rfl,hS,hat,λ c=>⟨c,8,1000,rfl,by decide,by decide,by decide,λ hl H1 hd e1 hH1 hlen hb=>?_⟩⟩;have hd':∀ k:Int,0<=k->k<8->∃ v,v∈hd/\atI (hd.map V.int) k=some (.int v):=λ k k0 k1=>P7 k0 (by lia);obtain ⟨x0,m0,a0⟩:=hd' 0 (by decide) (by decide);obtain ⟨x1,m1,a1⟩:=hd' 1 (by decide) (by decide);obtain ⟨x2,m2,a2⟩:=hd' 2 (by decide) (by decide);obtain ⟨x3,m3,a3⟩:=hd' 3 (by decide) (by decide);obtain ⟨x4,m4,a4⟩:=hd' 4 (by decide) (by decide);obtain ⟨x5,m5,a5⟩:=hd' 5 (by decide) (by decide);obtain ⟨x7,m7,a7⟩:=hd' 7 (by decide) (by decide);have b0:=hb x0 m0; have b1:=hb x1 m1; have b2:=hb x2 m2; have b3:=hb x3 m3; have b4:=hb x4 m4; have b5:=hb x5 m5; have b7:=hb x7 m7;refine ⟨λ σ' H'=>∃ (kl:Addr) (kt kg:Nat),σ'=[some (.ref a),some (.int at'),some (.int most),some (.int far),some (.ref hl),some (.ref kl),none,none,none,none,none,none,none,none,none]/\Same H1 H'/\H' kl=some (.lst [.int (kt:Int),.int (kg:Int)])/\1<=kt/\kt<=4/\1<=kg/\kg<=4,?_,?_⟩
 ·have two:∀ y:Int,0<=y->∃ z:Int,(z=4\/z=2)/\atI [V.int 4,V.int 2] (y % 2)=some (.int z):=λ y hy=>by
   obtain ⟨z,hz,az⟩:=P7 (ns:=[4,2]) (k:=y % 2) (by lia) (by show y % 2<2; lia);exact ⟨z,by simpa using hz,az⟩
  obtain ⟨z1,hz1,az1⟩:=two x2 b2.1;refine ⟨_,rfl,hl,_,0,_,rfl,rfl,SqL.of hH1,a0,(by show 2<=sizeLine; decide),λ l1 hl1=>?_⟩;have s1:=Same.new hl1 (.lst [V.int 4,V.int 2]);refine ⟨_,rfl,hl,_,2,_,rfl,rfl,SqL.of (s1 _ _ hH1),a2,_,_,rfl,rfl,(by show (0:Int)<2; decide),l1,_,_,_,rfl,rfl,SqL.of upd_same,az1,_,_,rfl,rfl,(by show (0:Int)<z1; lia),_,_,rfl,rfl,?_⟩;refine ⟨_,rfl,hl,_,1,_,rfl,rfl,SqL.of (s1 _ _ hH1),a1,(by show 2<=sizeLine; decide),λ l2 hl2=>?_⟩;have s2:=Same.new hl2 (.lst [V.int 4,V.int 2]);refine ⟨_,rfl,hl,_,2,_,rfl,rfl,SqL.of (s2 _ _ (s1 _ _ hH1)),a2,_,_,rfl,rfl,(by show (0:Int)<2; decide),l2,_,_,_,rfl,rfl,SqL.of upd_same,az1,_,_,rfl,rfl,(by show (0:Int)<z1; lia),_,_,rfl,rfl,?_⟩;refine ⟨(by show 2<=sizeLine; decide),λ kl hkl=>?_⟩;have s3:=Same.new hkl (.lst [V.int (1+x0 % z1),V.int (1+x1 % z1)]);have p0:0<=x0 % z1/\x0 % z1<z1:=⟨Int.emod_nonneg _ (by lia),cU _ (by lia)⟩;have p1:0<=x1 % z1/\x1 % z1<z1:=⟨Int.emod_nonneg _ (by lia),cU _ (by lia)⟩;refine ⟨kl,(1+x0 % z1).toNat,(1+x1 % z1).toNat,rfl,s1.trans (s2.trans s3),?_,by lia,by lia,by lia,by lia⟩;rw [upd_same,iW (by lia),iW (by lia)]
 intro σ' H2 hM_; refine P0 λ G_ hG_=>?_; obtain ⟨kl,kt,kg,rfl,e2,hkl,kt1,kt4,kg1,kg4⟩:=hM_; subst hG_;have hh2:=e2 _ _ hH1;refine ⟨λ σ' H'=>∃ (many:Nat),σ'=[some (.ref a),some (.int at'),some (.int most),some (.int far),some (.ref hl),some (.ref kl),some (.int (many:Int)),none,none,none,none,none,none,none,none]/\Same H2 H'/\1<=many/\(many:Int)<=most,?_,?_⟩
 ·refine ⟨_,rfl,hl,_,3,_,rfl,rfl,SqL.of hh2,a3,_,rfl,_,rfl,_,_,rfl,(by show 2<=sizeLine; decide),λ l1 hl1=>?_⟩
  have s1:=Same.new hl1 (.lst [V.int most,V.int (if 4<most then 4 else most)]);obtain ⟨z,hz,az⟩:=P7 (ns:=[most,if 4<most then 4 else most]) (k:=x4 % 3 / 2) (by lia) (by show x4 % 3 / 2<2; lia);have hz':1<=z/\z<=most:=by
   simp only [aR,bY,or_false] at hz;rcases hz with rfl | rfl
   ·lia
   ·split <;> lia
  refine ⟨_,rfl,hl,_,4,_,rfl,rfl,SqL.of (s1 _ _ hh2),a4,_,_,rfl,rfl,(by show (0:Int)<3; decide),_,_,rfl,rfl,⟨by decide,by decide⟩,l1,_,_,_,rfl,rfl,SqL.of upd_same,az,_,_,rfl,rfl,(by show (0:Int)<z; lia),_,_,rfl,rfl,?_⟩;have p0:0<=x3 % z/\x3 % z<z:=⟨Int.emod_nonneg _ (by lia),cU _ (by lia)⟩;refine ⟨(1+x3 % z).toNat,?_,s1,by lia,by lia⟩;rw [iW (by lia)];rfl
 intro σ' H3 hM_; refine P0 λ G_ hG_=>?_; obtain ⟨many,rfl,e3,mn1,mn2⟩:=hM_; subst hG_;have hh3:=e3 _ _ hh2;have hk3:=e3 _ _ hkl;refine ⟨λ σ' H'=>∃ (size:Int),σ'=[some (.ref a),some (.int at'),some (.int most),some (.int far),some (.ref hl),some (.ref kl),some (.int (many:Int)),some (.int size),none,none,none,none,none,none,none]/\Same H3 H'/\1<=size/\size<=far/\size<=1000000000,?_,?_⟩
 ·refine ⟨_,rfl,_,_,rfl,rfl,⟨by decide,by decide,by decide⟩,(by show 5<=sizeLine; decide),λ l1 hl1=>?_⟩
  have s1:=Same.new hl1 (.lst [V.int 4,V.int 9,V.int 50,V.int 1000,V.int (10 ^ (9:Int).toNat)]);obtain ⟨z,hz,az⟩:=P7 (ns:=[4,9,50,1000,10 ^ (9:Int).toNat]) (k:=x5 % 5) (by lia) (by show x5 % 5<5; lia);have hz':1<=z/\z<=1000000000:=by
   have e9:(10:Int) ^ (9:Int).toNat=1000000000:=by decide
   rw [e9] at hz;simp only [aR,bY,or_false] at hz;rcases hz with rfl | rfl | rfl | rfl | rfl <;> decide
  refine ⟨_,rfl,hl,_,5,_,rfl,rfl,SqL.of (s1 _ _ hh3),a5,_,_,rfl,rfl,(by show (0:Int)<5; decide),l1,_,_,_,rfl,rfl,SqL.of upd_same,az,_,_,rfl,?_⟩;refine ⟨_,rfl,s1,?_,?_,?_⟩ <;> (split <;> lia)
 intro σ' H4 hM_; refine P0 λ G_ hG_=>?_; obtain ⟨size,rfl,e4,sz1,szf,sz9⟩:=hM_; subst hG_;have hh4:=e4 _ _ hh3;have hk4:=e4 _ _ hk3;have e14:Same H H4:=e1.trans (e2.trans (e3.trans e4));refine ⟨(by show 0<=sizeLine; decide),λ bl hbl=>?_⟩;refine ⟨_,rfl,(many:Int),rfl,by lia,by lia,?_⟩;rw [bF];refine a1M (n:=many) (λ i σ H'=>∃ (xs:List V) (hs:List c7) (o9 o10 o11 o12 o13 o14:Option V),σ=[some (.ref a),some (.int at'),some (.int most),some (.int far),some (.ref hl),some (.ref kl),some (.int (many:Int)),some (.int size),some (.ref bl),o9,o10,o11,o12,o13,o14] ∧
   Same H4 H'/\H' bl=some (.lst xs)/\Bk K H' xs hs/\hs.length=i/\∀ h∈hs,HG far kt kg h)
  ⟨[],[],_,_,_,_,_,_,rfl,Same.new hbl _,upd_same,.nil,rfl,λ h hh=>(by cases hh)⟩ ?_ ?_
 ·rintro i σ H5 hi ⟨xs,hs,o9,o10,o11,o12,o13,o14,rfl,e5,hb5,hB,hlen5,hG⟩
  have hh5:=e5 _ _ hh4;have hk5:=e5 _ _ hk4;have xlen:xs.length=hs.length:=Paired.length hB;have ak0:atI [V.int (kt:Int),V.int (kg:Int)] 0=some (.int (kt:Int)):=w6 (j:=0) rfl;have ak1:atI [V.int (kt:Int),V.int (kg:Int)] 1=some (.int (kg:Int)):=w6 (j:=1) rfl;refine ⟨λ σ' H'=>∃ (pl:Addr) (ds:List Int),σ'=[some (.ref a),some (.int at'),some (.int most),some (.int far),some (.ref hl),some (.ref kl),some (.int (many:Int)),some (.int size),some (.ref bl),some (.int (0+(i:Int))),some (.ref pl),o11,o12,o13,o14]/\Same H5 H'/\H' pl=some (.lst (ds.map V.int))/\ds.length=12/\∀ d∈ds,0<=d,?_,?_⟩
  ·refine ⟨_,rfl,_,rfl,_,_,rfl,rfl,a,ns,at'+1,rfl,(e14.trans e5).seq hS,by lia,λ c=>?_⟩
   refine ⟨_,rfl,_,rfl,hl,_,7,_,rfl,rfl,SqL.of hh5,a7,_,_,rfl,rfl,_,_,rfl,rfl,.inl ⟨by lia,by lia⟩,_,_,rfl,rfl,_,_,rfl,rfl,⟨by decide,by decide,by decide⟩,?_⟩;exact ⟨_,12,_,rfl,by decide,by decide,by decide,λ pl H6 ds e6 hp6 l6 d6=>⟨pl,ds,rfl,e6,hp6,l6,λ d hd=>(d6 d hd).1⟩⟩
  intro σ' H6 hM_; refine P0 λ G_ hG_=>?_; obtain ⟨pl,ds,rfl,e6,hp6,l6,d6⟩:=hM_; subst hG_;have hh6:=e6 _ _ hh5;have hk6:=e6 _ _ hk5;have hb6:=e6 _ _ hb5;have pk:∀ k:Int,0<=k->k<12->∃ v,v∈ds/\atI (ds.map V.int) k=some (.int v):=λ k k0 k1=>P7 k0 (by lia);obtain ⟨y8,n8,c8⟩:=pk 8 (by decide) (by decide);obtain ⟨y9,n9,c9⟩:=pk 9 (by decide) (by decide);obtain ⟨y10,n10,c10⟩:=pk 10 (by decide) (by decide);obtain ⟨y11,n11,c11⟩:=pk 11 (by decide) (by decide);have g8:=d6 _ n8; have g9:=d6 _ n9; have g10:=d6 _ n10; have g11:=d6 _ n11;have dl:(ds.map V.int).length=12:=by rw [aA]; exact l6
  refine ⟨λ σ' H'=>∃ (tp:Addr) (At:List Int),σ'=[some (.ref a),some (.int at'),some (.int most),some (.int far),some (.ref hl),some (.ref kl),some (.int (many:Int)),some (.int size),some (.ref bl),some (.int (0+(i:Int))),some (.ref pl),some (.ref tp),o12,o13,o14]/\Same H6 H'/\H' tp=some (.tup (At.map V.int))/\At.length=kt/\∀ x∈At,1<=x/\x<=far,?_,?_⟩
  ·have ec:M1 (ds.map V.int) none (some (kt:Int))=(ds.take kt).map V.int:=by
    unfold M1;rw [HT.sIx_none,HT.sIx_nat,dl,iT,hZ]
    congr 1
    lia
   refine ⟨_,rfl,_,rfl,kl,_,0,_,rfl,rfl,SqL.of hk6,ak0,_,rfl,pl,_,rfl,SqL.of hp6,λ cp hcp=>?_⟩;rw [ec];have s1:=Same.new hcp (.lst ((ds.take kt).map V.int));refine ⟨cp,rfl,⟨_,SqL.of upd_same⟩,λ lp hlp=>?_⟩;refine N9 (u9 (SqL.of upd_same)) hlp (by rw [aA,bU]; exact j8 (by lia)) (λ x=>.int (1+vI x % size)) (λ j x H' N hx e hN=>?_) ?_
   ·obtain ⟨k,rfl⟩:=P2 hx
    exact ⟨Wk.set (by decide),_,rfl,_,rfl,_,_,rfl,rfl,(by show (0:Int)<size; lia),_,_,rfl,rfl,hN⟩
   ·have eA:((ds.take kt).map V.int).map (λ x=>V.int (1+vI x % size))=((ds.take kt).map λ d=>1+d % size).map V.int:=by rw [aM,aM]; rfl
    rw [eA];have s2:=Same.new hlp (.lst (((ds.take kt).map λ d=>1+d % size).map V.int));refine ⟨lp,_,rfl,.inl ⟨SqL.of upd_same,λ tp htp=>?_⟩⟩;refine ⟨tp,(ds.take kt).map λ d=>1+d % size,rfl,s1.trans (s2.trans (Same.new htp _)),upd_same,by rw [aA,bU]; lia,λ x hx=>?_⟩;obtain ⟨d,_,rfl⟩:=aK.mp hx;have p0:0<=d % size/\d % size<size:=⟨Int.emod_nonneg _ (by lia),cU _ (by lia)⟩;lia
  intro σ' H7 hM_; refine P0 λ G_ hG_=>?_; obtain ⟨tp,At,rfl,e7,ht7,lAt,tAt⟩:=hM_; subst hG_;have hp7:=e7 _ _ hp6;have hk7:=e7 _ _ hk6;have hb7:=e7 _ _ hb6;have ec:M1 (ds.map V.int) (some 4) (some (4+(kg:Int)))=((ds.drop 4).take kg).map V.int:=by
   unfold M1;have z1:HT.sIx (ds.map V.int).length 0 (some 4)=4:=by
    have:=HT.sIx_nat (ds.map V.int).length 0 4;rw [dl] at this ⊢;exact this
   have z2:HT.sIx (ds.map V.int).length (ds.map V.int).length (some (4+(kg:Int)))=4+kg:=by
    have:=HT.sIx_nat (ds.map V.int).length (ds.map V.int).length (4+kg);rw [dl] at this ⊢;rw [show (4:Int)+(kg:Int)=((4+kg:Nat):Int) by lia,this];lia
   rw [z1,z2,hZ,iX]
   congr 1
   lia
  refine ⟨_,rfl,_,rfl,_,rfl,kl,_,1,_,rfl,rfl,SqL.of hk7,ak1,_,_,rfl,rfl,_,rfl,pl,_,rfl,SqL.of hp7,λ sp hsp=>?_⟩;rw [ec];have s7:=Same.new hsp (.lst (((ds.drop 4).take kg).map V.int));refine ⟨λ σ' H'=>∃ (gp:Addr) (Bs:List Int) (o12:Option V),σ'=[some (.ref a),some (.int at'),some (.int most),some (.int far),some (.ref hl),some (.ref kl),some (.int (many:Int)),some (.int size),some (.ref bl),some (.int (0+(i:Int))),some (.ref pl),some (.ref tp),o12,some (.ref gp),o14]/\Same H7 H'/\H7 gp=none/\H' gp=some (.lst (Bs.map V.int))/\Bs.length=kg/\∀ x∈Bs,0<=x/\x<=far,?_,?_⟩
  ·refine ⟨_,rfl,sp,rfl,⟨_,SqL.of upd_same⟩,λ gp hgp=>?_⟩
   refine N9 (u9 (SqL.of upd_same)) hgp (by rw [aA,bU]; exact j8 (by lia)) (λ x=>.int (vI x % (size+1)*(if decide (0<vI x % 7)=true then 1 else 0))) (λ j x H' N hx e hN=>?_) ?_
   ·obtain ⟨k,rfl⟩:=P2 hx
    refine ⟨Wk.set (by decide),_,rfl,_,rfl,_,_,rfl,rfl,_,_,rfl,rfl,(by show (0:Int)<size+1; lia),_,rfl,_,_,rfl,rfl,(by show (0:Int)<7; decide),_,_,rfl,rfl,.inr ⟨_,rfl,_,_,rfl,rfl,.inr ?_,hN⟩⟩;constructor <;> (split <;> decide)
   ·have eB:(((ds.drop 4).take kg).map V.int).map (λ x=>V.int (vI x % (size+1)*(if decide (0<vI x % 7)=true then 1 else 0)))=(((ds.drop 4).take kg).map λ d=>d % (size+1)*(if decide (0<d % 7)=true then 1 else 0)).map V.int:=by rw [aM,aM]; rfl
    rw [eB];refine ⟨gp,_,_,rfl,s7.trans (Same.new hgp _),s7.free hgp,upd_same,by rw [aA,bU,cW]; lia,λ x hx=>?_⟩;obtain ⟨d,_,rfl⟩:=aK.mp hx;have p0:0<=d % (size+1)/\d % (size+1)<size+1:=⟨Int.emod_nonneg _ (by lia),cU _ (by lia)⟩
    split <;> lia
  intro σ' H8 hM_; refine P0 λ G_ hG_=>?_; obtain ⟨gp,Bs,o12',rfl,e8,f8,hg8,lBs,tBs⟩:=hM_; subst hG_;have hp8:=e8 _ _ hp7;have hk8:=e8 _ _ hk7;have lB':(Bs.map V.int).length=kg:=by rw [aA]; exact lBs
  refine ⟨λ σ' H'=>∃ (Bs:List Int) (o12:Option V),σ'=[some (.ref a),some (.int at'),some (.int most),some (.int far),some (.ref hl),some (.ref kl),some (.int (many:Int)),some (.int size),some (.ref bl),some (.int (0+(i:Int))),some (.ref pl),some (.ref tp),o12,some (.ref gp),o14]/\Same H7 H'/\H' gp=some (.lst (Bs.map V.int))/\Bs.length=kg/\(∀ x∈Bs,0<=x/\x<=far)/\∃ x∈Bs,0<x,?_,?_⟩
  ·refine ⟨_,rfl,gp,Bs,rfl,.inl (SqL.of hg8),(λ z=>by rw [z] at lBs; simp at lBs; lia),λ M hM hMx=>⟨rfl,_,rfl,?_⟩⟩
   refine C5 (λ c=>?_) (λ c=>?_)
   ·refine ⟨_,rfl,pl,_,9,_,rfl,rfl,SqL.of hp8,c9,_,rfl,_,_,rfl,rfl,(by show (0:Int)<size; lia),_,_,rfl,rfl,?_⟩
    refine ⟨_,rfl,_,rfl,pl,_,8,_,rfl,rfl,SqL.of hp8,c8,_,rfl,kl,_,1,_,rfl,rfl,SqL.of hk8,ak1,_,_,rfl,rfl,(by show (0:Int)<(kg:Int); lia),?_⟩;have r0:0<=y8 % (kg:Int):=eG _ (by lia);have r1:y8 % (kg:Int)<((Bs.map V.int).length:Int):=by rw [lB']; exact cU _ (by lia)
    have rn:(y8 % (kg:Int)).toNat<Bs.length:=by rw [lB'] at r1; lia
    have p0:0<=y9 % size/\y9 % size<size:=⟨Int.emod_nonneg _ (by lia),cU _ (by lia)⟩;refine ⟨gp,_,_,_,rfl,rfl,hg8,a1t r0 r1,?_⟩;refine ⟨Bs.set (y8 % (kg:Int)).toNat _,_,rfl,e8.write f8,by rw [upd_same,map_set],by rw [cJ]; exact lBs,λ x hx=>?_,_,kX rn _,by lia⟩;rcases gZ hx with z | z
    ·exact tBs x z
    ·lia
   ·have c':¬ M=0:=λ z=>c (decide_eq_true (by rw [z]))
    have:=tBs M hM;exact ⟨Bs,_,rfl,e8,hg8,lBs,tBs,M,hM,by lia⟩
  intro σ' H9 hM_; refine P0 λ G_ hG_=>?_; obtain ⟨Bt,o12'',rfl,e9,hg9,lBt,tBt,tPt⟩:=hM_; subst hG_;refine ⟨λ σ' H'=>∃ (v:V) (h:c7) (o12:Option V),σ'=[some (.ref a),some (.int at'),some (.int most),some (.int far),some (.ref hl),some (.ref kl),some (.int (many:Int)),some (.int size),some (.ref bl),some (.int (0+(i:Int))),some (.ref pl),some (.ref tp),o12,some (.ref gp),some v]/\Same H7 H'/\HS K H' v h/\HG far kt kg h,?_,?_⟩
  ·refine ⟨_,rfl,_,rfl,gp,_,rfl,.inl ⟨SqL.of hg9,λ pg hpg=>?_⟩⟩
   have f1:=Same.new hpg (.tup (Bt.map V.int));refine ⟨(by show 2<=sizeLine; decide),λ pr hpr=>?_⟩;have f2:=Same.new hpr (.tup [V.ref tp,V.ref pg]);exact ⟨_,(At,Bt),_,rfl,e9.trans (f1.trans f2),⟨pr,tp,pg,rfl,SqT.of upd_same,SqT.of (f2 _ _ (f1 _ _ (e9 _ _ ht7))),SqT.of (f2 _ _ upd_same)⟩,⟨lAt,lBt,tAt,tBt,tPt⟩⟩
  intro σ' H10 hM_; refine P0 λ G_ hG_=>?_; obtain ⟨v,h,o12'',rfl,e10,hv,hvG⟩:=hM_; subst hG_;have e57:Same H5 H7:=e6.trans e7;have e510:Same H5 H10:=e57.trans e10;refine ⟨λ σ' H'=>∃ (v:V) (h:c7) (o12:Option V),σ'=[some (.ref a),some (.int at'),some (.int most),some (.int far),some (.ref hl),some (.ref kl),some (.int (many:Int)),some (.int size),some (.ref bl),some (.int (0+(i:Int))),some (.ref pl),some (.ref tp),o12,some (.ref gp),some v]/\Same H5 H'/\HS K H' v h/\HG far kt kg h,?_,?_⟩
  ·refine ⟨_,rfl,(by show 0<=sizeLine; decide),λ ep hep=>?_⟩
   have f1:=Same.new hep (.lst []);have e511:=e510.trans f1;refine ⟨.list (hs.map a1F),.list [],.lst (SqL.of (e511 _ _ hb5)) (Bk.dps (Bk.same e511 hB)),.lst (SqL.of upd_same) .nil,a5I hs,rfl,aZ (Nat.min_le_right _ _) (by decide),_,rfl,?_⟩;refine C5 (λ c=>?_) (λ c=>a0s ⟨v,h,_,rfl,e511,hv.same f1,hvG⟩);have hpos:0<hs.length:=by
    cases hs with
    | nil=>exact absurd c (by simp [PyData.eqv,PyData.eqvAll])
    | cons _ _=>simp
   have hp11:upd H10 ep (.lst []) pl=some (.lst (ds.map V.int)):=f1 _ _ (e10 _ _ hp7);have hb11:=e511 _ _ hb5;refine ⟨_,rfl,pl,_,10,_,rfl,rfl,SqL.of hp11,c10,_,_,rfl,rfl,(by show (0:Int)<4; decide),rfl,_,rfl,?_⟩;refine C5 (λ c=>?_) (λ c=>⟨v,h,_,rfl,e511,hv.same f1,hvG⟩);have r0:0<=y11 % (xs.length:Int):=eG _ (by lia);have r1:y11 % (xs.length:Int)<(xs.length:Int):=cU _ (by lia);have hk:(y11 % (xs.length:Int)).toNat<xs.length:=by lia
   have ax:atI xs (y11 % (xs.length:Int))=some xs[(y11 % (xs.length:Int)).toNat]:=by
    unfold atI;rw [a1t r0 r1];exact aF hk
   obtain ⟨h',hh',hs'⟩:=Paired.at hB (aF hk);refine ⟨_,rfl,_,rfl,pl,_,11,_,rfl,rfl,SqL.of hp11,c11,_,rfl,bl,_,rfl,.inl (SqL.of hb11),_,_,rfl,rfl,(by show (0:Int)<(xs.length:Int); lia),bl,_,_,_,rfl,rfl,SqL.of hb11,ax,_,rfl,_,rfl,?_⟩;refine ⟨_,pl,far,h',ds,kt,kg,rfl,hs'.same e511,hG h' (aJ hh'),kt1,kt4,kg1,kg4,hfar,SqL.of hp11,(by omega),d6,λ r H12 h'' e12 hs'' hg''=>⟨r,h'',_,rfl,e511.trans e12,hs'',hg''⟩⟩
  intro σ' H11 hM_; refine P0 λ G_ hG_=>?_; obtain ⟨v,h,o12'',rfl,e11,hv,hvG⟩:=hM_; subst hG_;have hb11:=e11 _ _ hb5;refine ⟨_,rfl,.inl ⟨rfl,_,SqL.of hb11⟩,_,rfl,bl,xs,v,rfl,rfl,hb11,j8 (by lia),?_⟩;have kp:Keep H11 (upd H11 bl (.lst (xs++[v]))):=Keep.upd hb11;refine ⟨xs++[v],hs++[h],_,_,_,_,_,_,rfl,(e5.trans e11).write hbl,upd_same,Paired.app (Bk.keep kp (Bk.same e11 hB)) (.cons (HS.keep kp hv) .nil),by rw [aO,hlen5]; rfl,λ h' hm=>?_⟩;rcases aQ.mp hm with z | z
  ·exact hG h' z
  ·rw [bN.mp z]; exact hvG
 ·intro σ H' hM_; refine P0 λ G_ hG_=>?_; obtain ⟨xs,hs,o9,o10,o11,o12,o13,o14,rfl,e5,hb5,hB,hlen5,hG⟩:=hM_; subst hG_
  exact ⟨_,rfl,q bl H' xs hs kt kg (e14.trans e5) hb5 hB (by lia) (by lia) kt1 kt4 kg1 kg4 hG⟩
end
end Rim
namespace Rim
open PySem L2 Fr
def b6n (K:W.Frag):List V->Hp->VK->Prop:=λ vs H Q=>∃ (a:Addr) (ns:List Int),vs=[.ref a]/\SqA K H a (ns.map V.int)/\Q (.int ns.sum) H
theorem b0j (K:W.Frag) {X:Cx} (h:X.K=K) (hc:X.calm=true):O8 X (.builtin "sum") (b6n K):=by subst h; exact a5l hc
theorem b3B (K:W.Frag) {X:Cx} (h:X.K=K):IxR X (b5k K):=by subst h; exact A6
def FrV (K:W.Frag) (H:Hp) (v:V) (f:Q2):Prop:=∃ a,v=.ref a/\SqT K H a [.int f.1,.int f.2]
def FrT (H:Hp) (v:V) (f:Q2):Prop:=∃ a,v=.ref a/\H a=some (.tup [.int f.1,.int f.2])
theorem FrT.v {K:W.Frag} {H:Hp} {v:V} {f:Q2} (h:FrT H v f):FrV K H v f:=by
 obtain ⟨a,e,q⟩:=h;exact ⟨a,e,SqT.of q⟩
theorem FrT.same {H H':Hp} {v:V} {f:Q2} (e:Same H H') (h:FrT H v f):FrT H' v f:=by
 obtain ⟨a,z,q⟩:=h;exact ⟨a,z,e _ _ q⟩
theorem FrV.same {K:W.Frag} {H H':Hp} {v:V} {f:Q2} (e:Same H H') (h:FrV K H v f):FrV K H' v f:=by
 obtain ⟨a,z,q⟩:=h;exact ⟨a,z,e.tseq q⟩
section
variable {P:Program} {w:World} {K:W.Frag} {mg:Str->Option Value} {base:Heap} {f g:Addr} {fd gd:FuncData}
structure Cal (P:Program) (w:World) (K:W.Frag) (mg:Str->Option Value) (base:Heap) (n:Nat) (x:Str) (ps:List Str) (sp:Sp) (fa:Addr) (d:FuncData):Prop where
 ok:FnOk P w K mg base E4 n fa d ps sp
 b:Binds K d ps []
 k:W.keepIn K (.ref fa)=true
 m:mg x=some (.ref fa)
def b0Q:Sp:=λ vs H Q _=>∃ a b:Int,vs=[.int a,.int b]/\0<=b/\Q (.int (gI a b)) H
theorem scDiv:m6 ["one","other"] ["one","other"] (i5 b3i):=⟨rfl,rfl,rfl,by decide +kernel,rfl,by decide +kernel,by decide +kernel⟩
def b6D:St->Nat:=λ σ=>match σ with | [_,some (.int y)]=>y.toNat | _=>0
theorem b3M (x:Int):(if x<0 then -x else x)=gI x 0:=by
 rw [b1T]
 split <;> lia
theorem b3m {n:Nat} (F:Fun K "common_divisor" "common_divisor" b3i f fd) (T:w8 mg):FnOk P w K mg base E4 (n+1) f fd ["one","other"] b0Q:=by
 refine F.ok scDiv (λ vs H Q E h=>?_) (λ cdv A outer s H vs Q E hr h=>?_)
 ·obtain ⟨a,b,rfl,_⟩:=h
  rfl
 obtain ⟨a,b,rfl,hb,q⟩:=h;refine ⟨_,i6 (a3w PassesOwn.never (m9 b2D (pv 1) d0 (p7 _)) (i8 (b3A (i:=0) (j:=1) rfl scDiv.nd rfl rfl (by decide) rfl rfl (c5 (pv 1) (c5 (j0 A4 (pv 0) (pv 1)) c6)) rfl)))
  (i8 (r6 (j9 a9U rfl T.abs (mZ) (c5 (pv 0) c6)))),?_⟩
 refine a5z (λ σ H'=>∃ x y:Int,σ=[some (.int x),some (.int y)]/\H'=H/\0<=y/\gI x y=gI a b) (λ σ _=>b6D σ) ⟨a,b,rfl,rfl,hb,rfl⟩ ?_ (λ σ H Q Q' hq ⟨v,h1,h2,k,h3,q⟩=>⟨v,h1,h2,k,h3,hq _ _ q⟩);rintro σ H' ⟨x,y,rfl,rfl,hy,hg⟩;refine ⟨_,rfl,rfl,_,rfl,?_⟩;refine C5 (λ c=>?_) (λ c=>?_)
 ·have hy0:0<y:=by
   by_cases z:y=0
   ·subst z; simp at c
   ·lia
  have hm:=eG x (show y≠0 by lia);have hl:=cU x hy0;refine ⟨_,rfl,_,rfl,_,rfl,_,_,rfl,rfl,hy0,_,_,rfl,⟨y,x % y,rfl,rfl,hm,?_⟩,?_⟩
  ·rw [b1F]; exact hg
  ·show (x % y).toNat<y.toNat
   lia
 ·have hy0:y=0:=by
   by_cases z:y=0
   ·exact z
   ·exact absurd (by simp [z]) c
  subst hy0;refine ⟨_,rfl,_,rfl,?_⟩;rw [b3M,hg];exact q
end
theorem Big.mono {n m:Nat} {i:Int} (h:Big n i) (hn:n<=m):Big m i:=bA h (fB (by decide) hn)
theorem Big.mul {n m:Nat} {i j:Int} (h:Big n i) (k:Big m j):Big (n+m) (i*j):=by
 unfold Big at *;rw [fP,kY];exact Nat.mul_lt_mul_of_lt_of_lt h k
theorem Big.add {n:Nat} {i j:Int} (h:Big n i) (k:Big n j):Big (n+1) (i+j):=by
 unfold Big at *;have:=kZ i j;rw [kP];lia
theorem W8 {i:Int} {n:Nat} (h0:0<=i) (h1:i<2 ^ n):Big n i:=by
 have e:((2 ^ n:Nat):Int)=2 ^ n:=by simp
 unfold Big;lia
theorem Big.lt {i:Int} {n:Nat} (h:Big n i):i<2 ^ n:=by
 have e:((2 ^ n:Nat):Int)=2 ^ n:=by simp
 unfold Big at h;lia
section
variable {P:Program} {w:World} {K:W.Frag} {mg:Str->Option Value} {base:Heap} {f g:Addr} {fd gd:FuncData} {n:Nat}
def a1l:Sp:=λ vs H Q _=>∃ t b:Int,vs=[.int t,.int b]/\0<b/\b<2 ^ 8000/\∀ (v:V) (H':Hp),Same H H'->FrT H' v (low t b)->Q v H'
theorem scLow:m6 ["top","bottom","divisor"] ["top","bottom"] (i5 b3b):=⟨rfl,rfl,rfl,by decide +kernel,rfl,by decide +kernel,by decide +kernel⟩
theorem b3C {fa:Addr} {da:FuncData} (F:Fun K "lowest" "lowest" b3b f fd) (T:w8 mg) (C:Cal P w K mg base n "common_divisor" ["one","other"] b0Q fa da):FnOk P w K mg base E4 (n+1) f fd ["top","bottom"] a1l:=by
 refine F.ok scLow (λ vs H Q E h=>?_) (λ cdv A outer s H vs Q E hr h=>?_)
 ·obtain ⟨a,b,rfl,_⟩:=h
  rfl
 obtain ⟨t,b,rfl,hb,hb2,q⟩:=h;refine ⟨_,i6 (A7 (m9 a1e (pv 1) d0 (p7 _)) a3Q t7)
  (i6 (j4 (i:=2) scLow.nd rfl (aC rfl) (i9 C.ok hr rfl C.m C.k C.b .nil r8 (c5 (pv 0) (c5 (pv 1) c6))))
  (i6 (A7 (m9 a1q (pv 1) d0 (p7 _)) a3Q t7)
  (i8 (r6 (L9 (c5 (j0 Y9 (pv 0) (pv 2)) (c5 (j0 Y9 (pv 1) (pv 2)) c6))))))),?_⟩
 refine ⟨_,rfl,rfl,_,rfl,?_⟩;refine C5 (λ c=>?_) (λ _=>?_)
 ·have:=V.int.inj (of_decide_eq_true c); lia
 refine ⟨_,rfl,_,rfl,t,b,rfl,aL hb,?_⟩;refine ⟨_,rfl,_,_,rfl,rfl,_,rfl,?_⟩;refine C5 (λ c=>?_) (λ _=>?_)
 ·have:b<0:=of_decide_eq_true c; lia
 have hg:=Z7 (a:=t) hb;have hgl:=b2T (a:=t) hb;refine ⟨_,rfl,_,rfl,_,_,rfl,rfl,⟨hg,eH hgl hb2⟩,_,rfl,_,rfl,_,_,rfl,rfl,⟨hg,eH hgl hb2⟩,(by show 2<=sizeLine; decide),λ p hp=>?_⟩;exact q _ _ (Same.new hp _) ⟨p,rfl,upd_same⟩
theorem T9 {α:Type} (a b:α):atI [a,b] 0=some a:=w6 (j:=0) rfl
theorem Z0 {α:Type} (a b:α):atI [a,b] 1=some b:=w6 (j:=1) rfl
end
section
variable {P:Program} {w:World} {K:W.Frag} {mg:Str->Option Value} {base:Heap} {f g:Addr} {fd gd:FuncData} {n:Nat}
def a0O (k:Nat) (m:Int):Prop:=0<=m/\m<(k:Int)
def a1o (K:W.Frag) (CN:Addr):Sp:=λ vs H Q E=>∃ (a:Addr) (xs:List V) (m:Int),vs=[.ref a,.int m]/\SqL K H a xs/\m.natAbs.log2<1920/\(∀ (i:Nat) x,m=(i:Int)->xs[i]?=some x->Q x H)/\(¬ a0O xs.length m->E (.ref CN) none H)
theorem b5c:m6 ["book","number"] ["book","number"] (i5 b4e):=⟨rfl,rfl,rfl,by decide +kernel,rfl,by decide +kernel,by decide +kernel⟩
theorem b3k {CN:Addr} (F:Fun K "house_of" "house_of" b4e f fd) (T:w8 mg) (kN:b3f K CN) (mN:mg "NoHouse"=some (.ref CN)):FnOk P w K mg base (CX1 P w) (n+1) f fd ["book","number"] (a1o K CN):=by
 refine F.ok1 b5c (λ vs H Q E h=>?_) (λ cdv A outer s H vs Q E hr h=>?_)
 ·obtain ⟨a,xs,m,rfl,_⟩:=h
  rfl
 obtain ⟨a,xs,m,rfl,hS,hm,q,hE⟩:=h;refine ⟨_,i6 (A7 (a6P (b0d b4M a1q d0 (pv 1) (j9 j6 rfl T.len bR (c5 (pv 0) c6)))) (i8 (a9w kN rfl mN hr.hd (c5 (b1q (pv 1) (by decide)) c6))) t7)
  (i8 (r6 (j7 j5 (pv 0) (pv 1) (λ _ _=>rfl)))),?_⟩
 refine ⟨_,rfl,_,_,rfl,rfl,_,rfl,?_⟩;have bad:¬ a0O xs.length m->a9o (b2K (tFs (a8j 1)) b1f) CN E { nx:=λ _ H'=>Q .non H',rt:=Q } (Y6 ["book","number"] [.ref a,.int m]) H:=λ hb=>⟨_,rfl,m,rfl,hm,λ x=>⟨(by show 1<=1000; decide),hE hb⟩⟩;refine C5 (λ c=>?_) (λ c=>?_)
 ·have c':0<=m:=of_decide_eq_true c
  refine ⟨_,rfl,a,_,rfl,.inl hS,_,_,rfl,rfl,_,rfl,?_⟩;refine C5 (λ d=>?_) (λ d=>?_)
  ·have d':¬ m<(xs.length:Int):=of_decide_eq_false (by simpa using d)
   exact bad λ z=>d' z.2
  ·have d':m<(xs.length:Int):=of_decide_eq_true (by simpa using d)
   obtain ⟨j,rfl⟩:∃ j:Nat,m=(j:Int):=⟨m.toNat,by lia⟩;have hi:j<xs.length:=by lia
   exact ⟨_,rfl,_,rfl,a,_,_,_,rfl,rfl,hS,w6 (aF hi),q j xs[j] rfl (aF hi)⟩
 ·have c':¬ 0<=m:=of_decide_eq_false (dH.mpr c)
  exact ⟨_,rfl,a4C (bad λ z=>c' z.1)⟩
end
end Rim
namespace L2
open PySem PySem.Spec PyProof.Rows
structure b2v (K:W.Frag) (P:Params) (d:Addr):Prop where
 ex:∃ es n,K.lookup d=some ⟨.type "dict",none,.dict es n,#[]⟩/\W.KeysLit P es.toList
def b5Z (K:W.Frag) (P:Params):R2:=λ x y H Q=>∃ d z t,x=.ref d/\y=.str z/\b2v K P d/\W.nsIn K d z=some (some (.ref t))/\Q (.ref t) H
theorem a6k (K:W.Frag) (P:Params) {X:Cx} (hK:X.K=K) (hP:X.w.params=P):IxR X (b5Z K P):=by
 subst hK;subst hP;intro value slice pins s σ H x y v u Q I rx ry h hs;obtain ⟨d,z,t,rfl,rfl,⟨es,n,hl,hk⟩,e,q⟩:=h
 cases rx;obtain ⟨tk,rfl⟩:=ry;obtain ⟨m,hm⟩:=I.fr;exact W.topItem_K hm I.mod.kin hl hk e ⟨.ref t,H,I.tok _,rfl,q⟩ (by first | exact hs | exact hs _ _)
end L2
namespace L2
open PySem
theorem b3v (K:W.Frag) {X:Cx} {tg l:Expr} {tl:TE} (h:X.K=K) (hl:PE X l tl):PI X tg l (b5q K tl):=by subst h; exact a6s hl
end L2
namespace Rim
open PySem L2 Fr
def Q9 (z:Str):Prop:=z="any"\/z="one"\/z="less"\/z="more"
def E2 (z:Str):List Int:=if z="any" then [] else if z="one" then [1,-1] else if z="less" then [-1] else [1]
structure Sg (K:W.Frag) (Pm:Params) (mg:Str->Option Value) (d:Addr):Prop where
 m:mg "SIZE_SIGNS"=some (.ref d)
 k:b2v K Pm d
 tt:∀ z,Q9 z->∃ t,W.nsIn K d z=some (some (.ref t))/\∀ H,SqT K H t ((E2 z).map V.int)
def v8 (z:Str) (h:c7):List Int:=h.1.map (λ x=>-x)++h.2++E2 z
section
variable {P:Program} {w:World} {K:W.Frag} {mg:Str->Option Value} {base:Heap} {f Pt d:Addr} {fd:FuncData} {n:Nat} {C:Addr}
def F0 (K:W.Frag):Sp:=λ vs H Q _=>∃ (ba:Addr) (xs:List V) (hs:List c7) (z:Str) (kt kg:Nat),vs=[.ref ba,.str z]/\Q9 z/\SqL K H ba xs/\Bk K H xs hs/\hs.length<=100/\kt<=100/\kg<=100/\(∀ h∈hs,h.1.length=kt/\h.2.length=kg) ∧
 ∀ (r:Addr) (H':Hp) (rs:List Addr),Same H H'->H' r=some (.lst (rs.map V.ref))->rs.length=hs.length->(∀ (i:Nat) a h,rs[i]?=some a->hs[i]?=some h->H' a=some (.lst ((v8 z h).map V.int)))->Q (.ref r) H'
theorem scHr:m6 ["houses","sizes","signs"] ["houses","sizes"] (i5 T3):=⟨rfl,rfl,rfl,by decide +kernel,rfl,by decide +kernel,by decide +kernel⟩
theorem b2B:(["takes","gives","signs"]:List Str).Nodup:=by decide +kernel
theorem b5r:(["take"]:List Str).Nodup:=by decide +kernel
theorem a0a (z:Str):(E2 z).length<=2:=by
 unfold E2
 by_cases h1:z="any"
 ·rw [if_pos h1]; decide
 by_cases h2:z="one"
 ·rw [if_neg h1,if_pos h2]; decide
 by_cases h3:z="less"
 ·rw [if_neg h1,if_neg h2,if_pos h3]; decide
 ·rw [if_neg h1,if_neg h2,if_neg h3]; decide
noncomputable def hrT {cdv:Value} {A:Around} {outer:List Env} {s:Shared} {H:Hp} {E:XK} (N:w8 mg) (G:Sg K w.params mg d) :
  { t:TS // PSs (M0 E4 P w K mg base ["houses","sizes","signs"] "house_rows" (i5 T3) f cdv A outer s H E).nox (v5 T3) t } :=
 ⟨_,i6 (j4 (i:=2) scHr.nd rfl (cC rfl) (t9 C8 rfl N.list dI (c5 (j7 (a6k K w.params rfl rfl) (a2p (v:=.ref d) rfl G.m rfl) (pv 1) (λ _ _=>rfl)) c6)))
  (i8 (r6 (O3 ["takes","gives"] [2] rfl (w4 (pv 0))
   (λ _ _ _ _=>D9 K (n:=2) rfl rfl (j3 (i7 (i:=0) b2B rfl (aC rfl)) (j3 (i7 (i:=1) b2B rfl (aC rfl)) v7)))
   (λ _ _ _ _=>j0 B6 (j0 B6 (O3 ["take"] [] rfl (b3v K rfl (pv 0)) (λ _ _ _ _=>i7 (i:=0) b5r rfl (aC rfl)) (λ _ _ _ _=>R1 K5 (pv 0))) (t9 (a7w K rfl) rfl N.list dI (c5 (pv 1) c6))) (pv 2)))))⟩
theorem a4p (F:Fun K "house_rows" "house_rows" T3 f fd) (N:w8 mg) (G:Sg K w.params mg d):FnOk P w K mg base E4 (n+1) f fd ["houses","sizes"] (F0 K):=by
 refine F.ok scHr (λ vs H Q E h=>?_) (λ cdv A outer s H vs Q E hr h=>?_)
 ·obtain ⟨ba,xs,hs,z,kt,kg,rfl,_⟩:=h
  rfl
 obtain ⟨ba,xs,hs,z,kt,kg,rfl,hz,hB,hBk,hl,hkt,hkg,hlen,k⟩:=h;refine ⟨_,(hrT N G).2,?_⟩;obtain ⟨t,ht,hT⟩:=G.tt z hz;have xl:xs.length=hs.length:=Paired.length hBk;refine ⟨_,rfl,d,z,t,rfl,rfl,G.k,ht,t,_,rfl,.inr (hT _),λ sl hsl=>?_⟩;have e0:=Same.new hsl (.lst ((E2 z).map V.int));have hS0:upd H sl (.lst ((E2 z).map V.int)) sl=some (.lst ((E2 z).map V.int)):=upd_same;refine ⟨_,rfl,ba,rfl,⟨_,e0.seq hB⟩,λ l hl'=>?_⟩;refine P6 (u9 (e0.seq hB)) hl' (by rw [xl]; exact j8 (by lia)) (λ i y H2=>∃ a h,y=.ref a/\a≠l/\hs[i]?=some h/\H2 a=some (.lst ((v8 z h).map V.int)))
  (λ i y H2 H3 ⟨a,h,h1,h2,h3,h4⟩ e=>⟨a,h,h1,h2,h3,e a _ h2 h4⟩) (λ i x H2 ys N' hx e hl2 hN=>?_) (λ ys H2 e hl2 len pr=>?_)
 ·obtain ⟨h,hh,hHS⟩:=Paired.at hBk hx
  have hH2:=hHS.same (e0.trans e);obtain ⟨a,ta,ga,rfl,p1,p2,p3⟩:=hH2;have lh:=hlen h (aJ hh);refine ⟨a,_,rfl,p1,rfl,_,_,rfl,_,_,rfl,rfl,?_,?_⟩
  ·refine ⟨by simp,λ k w ek=>?_⟩
   have:¬ k<2:=λ hk=>by
    unfold blkσ at ek;rw [bK (by simpa using hk),cV] at ek
    split at ek <;> cases ek
   rw [bV (by lia),bV (by lia)]; exact ek
  refine ⟨_,rfl,ta,rfl,⟨_,p2⟩,λ a1 h1=>?_⟩;refine N9 (a3u p2) h1 (by rw [aA,lh.1]; exact j8 (by lia)) (λ x=>.int (-(vI x))) (λ j x H' N2 hx2 e2 hN2=>?_) ?_
  ·obtain ⟨x',rfl,_⟩:=U1 hx2
   exact ⟨Wk.set (by decide),_,rfl,_,rfl,hN2⟩
  have eg:(h.1.map V.int).map (λ x=>V.int (-(vI x)))=(h.1.map λ x=>-x).map V.int:=by rw [aM,aM]; rfl
  rw [eg];have s1:=Same.new h1 (.lst ((h.1.map λ x=>-x).map V.int));refine ⟨_,rfl,ga,_,rfl,.inr (s1.tseq p3),λ a2 h2=>?_⟩;have s2:=s1.trans (Same.new h2 (.lst (h.2.map V.int)));have n12:a1≠a2:=i4 upd_same h2;have sz:=j8 (show kt+kg+2<=1000 by lia);have sg:=a0a z;refine ⟨a1,a2,_,_,rfl,rfl,(by rw [i3 n12]; exact upd_same),upd_same,?_,λ a3 h3=>?_⟩
  ·rw [aA,aA,aA,lh.1,lh.2]; lia
  have s3:=s2.trans (Same.new h3 (.lst ((h.1.map λ x=>-x).map V.int++h.2.map V.int)));have sl3:=s3 _ _ (e _ _ hS0);refine ⟨_,rfl,a3,sl,_,_,rfl,rfl,upd_same,sl3,?_,λ a4 h4=>?_⟩
  ·rw [aO,aA,aA,aA,aA,lh.1,lh.2]; lia
  refine hN _ _ (s3.trans (Same.new h4 _)) ⟨a4,h,rfl,λ z'=>?_,hh,?_⟩
  ·rw [z',s3 _ _ hl2] at h4; cases h4
  ·rw [upd_same]
   unfold v8;rw [bC,bC]
 ·have hys:ys=(ys.map a5R).map V.ref:=by
   rw [aM];refine cK λ i=>?_;rw [aE]
   cases qi:ys[i]? with
   | none=>rfl
   | some y =>
    obtain ⟨a,_,rfl,_⟩:=pr i y qi;rfl
  refine k l H2 (ys.map a5R) (e0.trans e) (by rw [hl2]; rw [<- hys]) (by rw [aA,len,xl]) λ i a h hi hh=>?_;rw [aE] at hi
  cases qi:ys[i]? with
  | none=>rw [qi] at hi; cases hi
  | some y =>
   obtain ⟨a',h',rfl,_,h3,h4⟩:=pr i y qi;rw [qi] at hi;have:a'=a:=aS hi;subst this;rw [hh] at h3
   cases h3;exact h4
end
def M7 (z:Str) (h:c7):List Int:=aI h.1.length 0++h.2++E2 z
def N6 (z:Str) (h:c7):List Int:=h.1++aI h.2.length 0++aI (E2 z).length 0
def C4 (z:Str) (hs:List c7) (h:c7):List (List Int):=hs.map (v8 z)++[N6 z h]
def M9 (hs:List c7):List Int:=aI hs.length 0++[1]
theorem K8 (k:Nat):(aI k [V.int 0]).flatten=(aI k (0:Int)).map V.int:=by
 induction k with
 | zero=>rfl
 | succ k ih=>rw [eJ,gG,ih,eJ,bJ]; rfl
section
variable {P:Program} {w:World} {K:W.Frag} {mg:Str->Option Value} {base:Heap} {f Pt d:Addr} {fd:FuncData} {n:Nat} {C:Addr}
abbrev OfE (z:Str) (hs:List c7) (h:c7) (S:Lp.Bo):Prop:=Lp.Of (hs.length+1) (h.1.length+h.2.length+(E2 z).length) (T4 (C4 z hs h)) (E7 (M9 hs)) (E7 (M7 z h)) S
def a5K (K:W.Frag) (Pt:Addr):Sp:=λ vs H Q _=>∃ (ba:Addr) (hv:V) (xs:List V) (hs:List c7) (h:c7) (z:Str) (far:Int) (kt kg m q:Nat),vs=[.ref ba,hv,.str z]/\Q9 z/\SqL K H ba xs/\Bk K H xs hs/\HS K H hv h/\HG far kt kg h/\(∀ h∈hs,HG far kt kg h)/\far<=2 ^ 60 ∧
 hs.length<=16/\kt<=20/\kg<=20/\m=hs.length+1/\q=h.1.length+h.2.length+(E2 z).length/\LT Pt H ∧
 (∀ (S:Lp.Bo) (H':Hp) (t aa wa:Addr),OfE z hs h S->(∀ j,j<q->¬ S.T m j<0)->Sz 4000 m q S->Same1 Pt H H'->LT Pt H'->H' t=some (.tup [.int (S.T m q),.ref aa,.ref wa,.int S.d]) →
  H' aa=some (.lst ((p6 m q S).map V.int))->H' wa=some (.lst ((D7 m q S).map V.int))->Q (.ref t) H') ∧
 ∀ (S:Lp.Bo) (H':Hp) (c:Nat),OfE z hs h S->c<q->S.T m c<0->(∀ i,i<m->¬ 0<S.T i c)->Same1 Pt H H'->LT Pt H'->Q .non H'
theorem scEa:m6 ["houses","house","sizes","takes","gives","signs","earned","paid"] ["houses","house","sizes"] (i5 a0g):=⟨rfl,rfl,rfl,by decide +kernel,rfl,by decide +kernel,by decide +kernel⟩
noncomputable def eaT {cdv:Value} {A:Around} {outer:List Env} {s:Shared} {H:Hp} {E:XK} {f1 f2:Addr} {d1 d2:FuncData} (N:w8 mg) (G:Sg K w.params mg d) (Cg:D3 P w K mg base n "greatest" ["goal","rows","bounds"] (L0 K C Pt) f1 d1) (Ch:D3 P w K mg base n "house_rows" ["houses","sizes"] (F0 K) f2 d2)
  (hr:Room n (A.deeper (dB "greatest_earned" (i5 a0g) s.heap.objs.size f cdv))) :
  { t:TS // PSs (M0 E4 P w K mg base ["houses","house","sizes","takes","gives","signs","earned","paid"] "greatest_earned" (i5 a0g) f cdv A outer s H E).nox (v5 a0g) t } :=
 ⟨_,i6 (K4 (pv 1) (S5 rfl (j3 (i7 (i:=3) scEa.nd rfl (aC rfl)) (j3 (i7 (i:=4) scEa.nd rfl (aC rfl)) v7))))
  (i6 (j4 (i:=5) scEa.nd rfl (aC rfl) (t9 C8 rfl N.list dI (c5 (j7 (a6k K w.params rfl rfl) (a2p (v:=.ref d) rfl G.m rfl) (pv 2) (λ _ _=>rfl)) c6)))
  (m8 (j4 (i:=6) scEa.nd rfl (aC rfl) (j0 B6 (j0 B6 (j0 Q7 (v6 (c5 d0 c6)) (j9 j6 rfl N.len bR (c5 (pv 3) c6))) (t9 C8 rfl N.list dI (c5 (pv 4) c6))) (pv 5)))
  (m8 (j4 (i:=7) scEa.nd rfl (aC rfl) (j0 B6 (j0 B6 (t9 C8 rfl N.list dI (c5 (pv 3) c6)) (j0 Q7 (v6 (c5 d0 c6)) (j9 j6 rfl N.len bR (c5 (pv 4) c6)))) (j0 Q7 (v6 (c5 d0 c6)) (j9 j6 rfl N.len bR (c5 (pv 5) c6)))))
  (i8 (r6 (i9 Cg.ok hr rfl Cg.m Cg.k Cg.b .nil r8 (c5 (pv 6) (c5 (j0 B6 (i9 Ch.ok hr rfl Ch.m Ch.k Ch.b .nil r8 (c5 (pv 0) (c5 (pv 2) c6))) (v6 (c5 (pv 7) c6)))
   (c5 (j0 B6 (j0 Q7 (v6 (c5 d0 c6)) (j9 j6 rfl N.len bR (c5 (pv 0) c6))) (v6 (c5 d0 c6))) c6)))))))))⟩
theorem b0C:∀ k,k<20->Lp.bnd (2 ^ 60) (k+1)<2 ^ 4000:=by decide +kernel
theorem P8 {rows:List (List Int)} {i j:Nat} {row:List Int} (h:rows[i]?=some row):T4 rows i j=row.getD j 0:=by
 have e:rows.getD i []=row:=by rw [aG,h]; rfl
 unfold T4;rw [e]
theorem N7 {l:List Int} {M:Nat} (h:∀ x∈l,x.natAbs<=M) (j:Nat):(l.getD j 0).natAbs<=M:=by
 rw [aG]
 cases e:l[j]? with
 | none=>exact cB _
 | some x=>exact h x (aJ e)
theorem a0f (z:Str):∀ x∈E2 z,x.natAbs<=2 ^ 60:=by
 unfold E2
 by_cases h1:z="any"
 ·rw [if_pos h1]; decide
 by_cases h2:z="one"
 ·rw [if_neg h1,if_pos h2]; decide
 by_cases h3:z="less"
 ·rw [if_neg h1,if_neg h2,if_pos h3]; decide
 ·rw [if_neg h1,if_neg h2,if_neg h3]; decide
theorem b2J {z:Str} {hs:List c7} {h:c7} {far:Int} {kt kg:Nat} (hh:HG far kt kg h) (hhs:∀ h∈hs,HG far kt kg h) (hf:far<=2 ^ 60) (q:Nat) :
  ∀ v,Lp.Fits (2 ^ 60) (hs.length+1+1) (Lp.Vv (hs.length+1) q (T4 (C4 z hs h)) (E7 (M9 hs)) (E7 (M7 z h)) v):=by
 have ht:∀ g:c7,HG far kt kg g->∀ x∈g.1,x.natAbs<=2 ^ 60:=λ g hg x hx=>by have:=hg.t x hx; lia
 have hg':∀ g:c7,HG far kt kg g->∀ x∈g.2,x.natAbs<=2 ^ 60:=λ g hg x hx=>by have:=hg.g x hx; lia
 have z0:∀ k:Nat,∀ x∈List.replicate k (0:Int),x.natAbs<=2 ^ 60:=λ k x hx=>by rw [(fZ.mp hx).2]; decide
 have rows:∀ r∈C4 z hs h,∀ x∈r,x.natAbs<=2 ^ 60:=λ r hr x hx=>by
  unfold C4 at hr;rcases aQ.mp hr with hr | hr
  ·obtain ⟨g,hg,rfl⟩:=aK.mp hr
   unfold v8 at hx;rcases aQ.mp hx with hx | hx
   ·rcases aQ.mp hx with hx | hx
    ·obtain ⟨y,hy,rfl⟩:=aK.mp hx
     have:=ht g (hhs g hg) y hy;rw [eQ]; exact this
    ·exact hg' g (hhs g hg) x hx
   ·exact a0f z x hx
  ·rw [bN.mp hr] at hx
   unfold N6 at hx;rcases aQ.mp hx with hx | hx
   ·rcases aQ.mp hx with hx | hx
    ·exact ht h hh x hx
    ·exact z0 _ x hx
   ·exact z0 _ x hx
 have goal:∀ x∈M7 z h,x.natAbs<=2 ^ 60:=λ x hx=>by
  unfold M7 at hx;rcases aQ.mp hx with hx | hx
  ·rcases aQ.mp hx with hx | hx
   ·exact z0 _ x hx
   ·exact hg' h hh x hx
  ·exact a0f z x hx
 have bnds:∀ x∈M9 hs,x.natAbs<=2 ^ 60:=λ x hx=>by
  unfold M9 at hx;rcases aQ.mp hx with hx | hx
  ·exact z0 _ x hx
  ·rw [bN.mp hx]; decide
 intro v i _;unfold Lp.Vv
 split
 ·split
  ·unfold T4
   refine N7 (λ x hx=>?_) v;rw [aG] at hx
   cases e:(C4 z hs h)[i]? with
   | none=>rw [e] at hx; cases hx
   | some r=>rw [e] at hx; exact rows r (aJ e) x hx
  ·split
   ·rw [eQ]; exact N7 goal v
   ·exact cB _
 ·split
  ·split <;> decide
  ·split
   ·exact N7 bnds i
   ·exact cB _
end
section
variable {P:Program} {w:World} {K:W.Frag} {mg:Str->Option Value} {base:Heap} {f Pt d:Addr} {fd:FuncData} {n:Nat} {C:Addr}
theorem a7P {H':Hp} {rs:List Addr} {hs:List c7} {z:Str} (hl:rs.length=hs.length) (h:∀ (i:Nat) a g,rs[i]?=some a->hs[i]?=some g->H' a=some (.lst ((v8 z g).map V.int))):RowsL K H' (rs.map V.ref) (hs.map (v8 z)):=by
 induction hs generalizing rs with
 | nil =>
  cases rs with
  | nil=>exact .nil
  | cons a r=>simp at hl
 | cons g hs ih =>
  cases rs with
  | nil=>simp at hl
  | cons a r=>exact .cons ⟨a,rfl,SqL.of (h 0 a g rfl rfl)⟩ (ih (by simpa using hl) λ i b g' h1 h2=>h (i+1) b g' (by simpa using h1) (by simpa using h2))
theorem a8F {f1 f2:Addr} {d1 d2:FuncData} (F:Fun K "greatest_earned" "greatest_earned" a0g f fd) (N:w8 mg) (G:Sg K w.params mg d) (Cg:D3 P w K mg base n "greatest" ["goal","rows","bounds"] (L0 K C Pt) f1 d1) (Ch:D3 P w K mg base n "house_rows" ["houses","sizes"] (F0 K) f2 d2) :
  FnOk P w K mg base E4 (n+1) f fd ["houses","house","sizes"] (a5K K Pt):=by
 refine F.ok scEa (λ vs H Q E h=>?_) (λ cdv A outer s H vs Q E hr h=>?_)
 ·obtain ⟨ba,hv,xs,hs,h,z,far,kt,kg,m,q,rfl,_⟩:=h
  rfl
 obtain ⟨ba,hv,xs,hs,h,z,far,kt,kg,m,q,rfl,hz,hB,hBk,hHS,hh,hhs,hfar,h16,hkt,hkg,rfl,rfl,L,kT,kN⟩:=h;refine ⟨_,(eaT N G Cg Ch hr).2,?_⟩;obtain ⟨ha,ta,ga,rfl,p1,p2,p3⟩:=id hHS;obtain ⟨t,ht,hT⟩:=G.tt z hz;have xl:xs.length=hs.length:=Paired.length hBk;have sg:=a0a z;have s1k:=j8 (show (1000:Nat)<=1000 from aH _);have l1:=hh.lt;have l2:=hh.lg;refine ⟨_,rfl,ha,_,rfl,p1,rfl,_,_,rfl,_,_,rfl,rfl,?_⟩;refine ⟨_,rfl,d,z,t,rfl,rfl,G.k,ht,t,_,rfl,.inr (hT _),λ sl hsl=>?_⟩;have e0:=Same.new hsl (.lst ((E2 z).map V.int));have hS0:upd H sl (.lst ((E2 z).map V.int)) sl=some (.lst ((E2 z).map V.int)):=upd_same;refine ⟨λ σ' H1=>∃ ea:Addr,σ'=[some (.ref ba),some (.ref ha),some (.str z),some (.ref ta),some (.ref ga),some (.ref sl),some (.ref ea),none]/\Same (upd H sl (.lst ((E2 z).map V.int))) H1/\H1 ea=some (.lst ((M7 z h).map V.int)),?_,?_⟩
 ·refine ⟨(by show 1<=sizeLine; decide),λ a1 h1=>?_⟩
  have s1:=Same.new h1 (.lst [.int 0]);refine ⟨_,rfl,ta,_,rfl,.inr (s1.tseq (e0.tseq p2)),a1,_,_,rfl,rfl,upd_same,by lia,by rw [aA,l1]; lia,by rw [aA,l1,bF]; simp; lia,λ a2 h2=>?_⟩;rw [aA,bF,K8];have s2:=s1.trans (Same.new h2 (.lst ((aI h.1.length (0:Int)).map V.int)));refine ⟨_,rfl,ga,_,rfl,.inr (s2.tseq (e0.tseq p3)),λ a3 h3=>?_⟩;have s3:=s2.trans (Same.new h3 (.lst (h.2.map V.int)));have n23:a2≠a3:=i4 upd_same h3;refine ⟨a2,a3,_,_,rfl,rfl,(by rw [i3 n23]; exact upd_same),upd_same,?_,λ a4 h4=>?_⟩
  ·rw [aA,aA,aX,l1,l2]; lia
  have s4:=s3.trans (Same.new h4 (.lst ((aI h.1.length (0:Int)).map V.int++h.2.map V.int)));refine ⟨_,rfl,a4,sl,_,_,rfl,rfl,upd_same,s4 _ _ hS0,?_,λ a5 h5=>?_⟩
  ·rw [aO,aA,aA,aA,aX,l1,l2]; lia
  refine ⟨a5,rfl,s4.trans (Same.new h5 _),?_⟩;rw [upd_same];unfold M7;rw [bC,bC]
 intro σ1 H1 hM_; refine P0 λ G_ hG_=>?_; obtain ⟨ea,rfl,e1,he⟩:=hM_; subst hG_;have e01:=e0.trans e1;refine ⟨λ σ' H2=>∃ pa:Addr,σ'=[some (.ref ba),some (.ref ha),some (.str z),some (.ref ta),some (.ref ga),some (.ref sl),some (.ref ea),some (.ref pa)]/\Same H1 H2/\H2 pa=some (.lst ((N6 z h).map V.int)),?_,?_⟩
 ·refine ⟨_,rfl,ta,_,rfl,.inr (e01.tseq p2),λ a1 h1=>?_⟩
  have s1:=Same.new h1 (.lst (h.1.map V.int));refine ⟨(by show 1<=sizeLine; decide),λ a2 h2=>?_⟩;have s2:=s1.trans (Same.new h2 (.lst [.int 0]));have n12:a1≠a2:=i4 upd_same h2;refine ⟨_,rfl,ga,_,rfl,.inr (s2.tseq (e01.tseq p3)),a2,_,_,rfl,rfl,upd_same,by lia,by rw [aA,l2]; lia,by rw [aA,l2,bF]; simp; lia,λ a3 h3=>?_⟩;rw [aA,bF,K8];have s3:=s2.trans (Same.new h3 (.lst ((aI h.2.length (0:Int)).map V.int)));have c1:=(Same.new h3 (.lst ((aI h.2.length (0:Int)).map V.int))) a1 _ ((Same.new h2 (.lst [.int 0])) a1 _ upd_same);refine ⟨a1,a3,_,_,rfl,rfl,c1,upd_same,?_,λ a4 h4=>?_⟩
  ·rw [aA,aA,aX,l1,l2]; lia
  have s4:=s3.trans (Same.new h4 (.lst (h.1.map V.int++(aI h.2.length (0:Int)).map V.int)));refine ⟨(by show 1<=sizeLine; decide),λ a5 h5=>?_⟩;have s5:=s4.trans (Same.new h5 (.lst [.int 0]));have lz:((E2 z).map V.int).length=(E2 z).length:=aA _;refine ⟨_,rfl,sl,_,rfl,.inl (SqL.of (s5 _ _ (e1 _ _ hS0))),a5,_,_,rfl,rfl,upd_same,by lia,by rw [lz]; lia,by rw [lz,bF]; simp; lia,λ a6 h6=>?_⟩;rw [lz,bF,K8];have c4:=(Same.new h6 (.lst ((aI (E2 z).length (0:Int)).map V.int))) a4 _ ((Same.new h5 (.lst [.int 0])) a4 _ upd_same);refine ⟨a4,a6,_,_,rfl,rfl,c4,upd_same,?_,λ a7 h7=>?_⟩
  ·rw [aO,aA,aA,aA,aX,aX,l1,l2]; lia
  refine ⟨a7,rfl,(s5.trans (Same.new h6 _)).trans (Same.new h7 _),?_⟩;rw [upd_same];unfold N6;rw [bC,bC]
 intro σ2 H2 hM_; refine P0 λ G_ hG_=>?_; obtain ⟨pa,rfl,e2,hp⟩:=hM_; subst hG_;have e02:=e01.trans e2;refine ⟨_,rfl,_,rfl,_,rfl,?_⟩;refine ⟨ba,xs,hs,z,kt,kg,rfl,hz,e02.seq hB,hBk.same e02,by lia,by lia,by lia,λ g hg=>⟨(hhs g hg).lt,(hhs g hg).lg⟩,λ r H3 rs e3 hr3 lr hrs=>?_⟩;refine ⟨_,rfl,(by show 1<=sizeLine; decide),λ a1 h1=>?_⟩;have s1:=e3.trans (Same.new h1 (.lst [.ref pa]));have nr1:r≠a1:=i4 hr3 h1;refine ⟨r,a1,_,_,rfl,rfl,(by rw [i3 nr1]; exact hr3),upd_same,?_,λ a2 h2=>?_⟩
 ·rw [aA,lr]; simp; lia
 have t2:=(Same.new h1 (.lst [.ref pa])).trans (Same.new h2 (.lst (rs.map V.ref++[.ref pa])));have s2:=s1.trans (Same.new h2 (.lst (rs.map V.ref++[.ref pa])));refine ⟨(by show 1<=sizeLine; decide),λ a3 h3=>?_⟩;have t3:=t2.trans (Same.new h3 (.lst [.int 0]));have s3:=s2.trans (Same.new h3 (.lst [.int 0]));refine ⟨_,rfl,ba,_,rfl,.inl ((e02.trans s3).seq hB),a3,_,_,rfl,rfl,upd_same,by lia,by rw [xl]; lia,by rw [xl,bF]; simp; lia,λ a4 h4=>?_⟩;rw [xl,bF,K8];have t4:=t3.trans (Same.new h4 (.lst ((aI hs.length (0:Int)).map V.int)));have s4:=s3.trans (Same.new h4 (.lst ((aI hs.length (0:Int)).map V.int)));refine ⟨(by show 1<=sizeLine; decide),λ a5 h5=>?_⟩;have t5:=t4.trans (Same.new h5 (.lst [.int 1]));have s5:=s4.trans (Same.new h5 (.lst [.int 1]));have n45:a4≠a5:=i4 upd_same h5;refine ⟨a4,a5,_,_,rfl,rfl,(by rw [i3 n45]; exact upd_same),upd_same,?_,λ a6 h6=>?_⟩
 ·rw [aA,aX]; simp; lia
 have t6:=t5.trans (Same.new h6 (.lst ((aI hs.length (0:Int)).map V.int++[.int 1])));have s6:=s5.trans (Same.new h6 (.lst ((aI hs.length (0:Int)).map V.int++[.int 1])));have g3:∀ b o,upd (upd H3 a1 (.lst [.ref pa])) a2 (.lst (rs.map V.ref++[.ref pa])) b=some o->upd (upd (upd (upd (upd (upd H3 a1 (.lst [.ref pa])) a2 (.lst (rs.map V.ref++[.ref pa]))) a3 (.lst [.int 0])) a4 (.lst ((aI hs.length (0:Int)).map V.int))) a5 (.lst [.int 1])) a6 (.lst ((aI hs.length (0:Int)).map V.int++[.int 1])) b=some o :=
  (((Same.new h3 (.lst [.int 0])).trans (Same.new h4 (.lst ((aI hs.length (0:Int)).map V.int)))).trans (Same.new h5 (.lst [.int 1]))).trans (Same.new h6 (.lst ((aI hs.length (0:Int)).map V.int++[.int 1])))
 have eb:(aI hs.length (0:Int)).map V.int++[.int 1]=(M9 hs).map V.int:=by unfold M9; rw [bC]; rfl
 have hA:Same H (upd (upd (upd (upd (upd (upd H3 a1 (.lst [.ref pa])) a2 (.lst (rs.map V.ref++[.ref pa]))) a3 (.lst [.int 0])) a4 (.lst ((aI hs.length (0:Int)).map V.int))) a5 (.lst [.int 1])) a6 (.lst ((aI hs.length (0:Int)).map V.int++[.int 1]))):=e02.trans s6;refine ⟨ea,a2,a6,M7 z h,rs.map V.ref++[.ref pa],C4 z hs h,M9 hs,hs.length+1,h.1.length+h.2.length+(E2 z).length,2 ^ 60,rfl,SqL.of (s6 _ _ (e2 _ _ he)),SqL.of (g3 _ _ upd_same),?_,?_,?_,?_,?_,?_,by lia,by lia,?_,b2J hh hhs hfar _,b0C _ (by lia),L.same hA,λ S H' t' aa wa O hn sz e' L' g1 g2 g4=>kT S H' t' aa wa O hn sz (λ b o hb q'=>e' b o hb (hA b o q')) L' g1 g2 g4,λ S H' c O hc hneg hno e' L'=>kN S H' c O hc hneg hno (λ b o hb q'=>e' b o hb (hA b o q')) L'⟩
 ·unfold C4
  refine Paired.app ((a7P (K:=K) lr hrs).same t6) (.cons ⟨pa,rfl,SqL.of (s6 _ _ hp)⟩ .nil)
 ·rw [<- eb]; exact SqL.of upd_same
 ·unfold C4; simp
 ·unfold M9; simp
 ·unfold M7; simp [iY]
 ·intro r hr
  unfold C4 at hr;rcases aQ.mp hr with hr | hr
  ·obtain ⟨g,hg,rfl⟩:=aK.mp hr
   unfold v8;rw [aO,aO,aA,(hhs g hg).lt,(hhs g hg).lg,l1,l2]
  ·rw [bN.mp hr]
   unfold N6;simp;lia
 ·intro i hi
  unfold E7 M9;rw [aG]
  by_cases h':i<hs.length
  ·rw [bK (by simpa using h'),cV,if_pos h']; exact bL _
  ·rw [bZ (by simp; lia)]
   have:i - (aI hs.length (0:Int)).length=0:=by simp; lia
   rw [this]; decide
end
section
variable {P:Program} {w:World} {K:W.Frag} {mg:Str->Option Value} {base:Heap} {f Pt d:Addr} {fd:FuncData} {n:Nat} {C:Addr}
theorem b6p:m6 ["book","number","sizes"] ["book","number","sizes"] (i5 a6z):=⟨rfl,rfl,rfl,by decide +kernel,rfl,by decide +kernel,by decide +kernel⟩
theorem scHa:m6 ["houses","house","sizes","found","top","amounts","weights","bottom"] ["houses","house","sizes"] (i5 a9C):=⟨rfl,rfl,rfl,by decide +kernel,rfl,by decide +kernel,by decide +kernel⟩
end
end Rim
namespace Lp
section
variable {m q:Nat} {A:Nat->Nat->Int} {b c:Nat->Int} {S:Bo}
theorem Of.way (O:Of m q A b c S) {cc:Nat} (hc:cc<q) (neg:S.T m cc<0) (no:∀ i,i<m->¬ 0<S.T i cc):∃ y:Nat->Int,(∀ j,j<q->0<=y j)/\(∀ i,i<m->sumTo (λ j=>A i j*y j) q<=0)/\0<sumTo (λ j=>c j*y j) q:=by
 have K0:=(O.k _).mp (O.w.ray_ker (c:=cc) (by lia));obtain ⟨rows,goal⟩:=ker0.mp K0;have zc:ray m S cc (q+m+1)=0:=by
  rw [<- O.w.oq];exact O.w.ray_out (by lia) (by lia) (by lia)
 have zg:ray m S cc (q+m) = - S.T m cc:=by
  rw [<- O.w.im];exact O.w.ray_in (by lia) (by lia)
 have nn:∀ v,v<q+m->0<=ray m S cc v:=λ v hv=>by
  rcases O.w.all v hv with ⟨i,hi,e⟩ | ⟨j,hj,e⟩
  ·rw [<- e,O.w.ray_in (by lia) (by lia)]
   have:=no i hi;lia
  ·rw [<- e]
   by_cases hjc:j=cc
   ·subst hjc
    rw [Wf.ray_c];exact aL O.w.pos
   ·rw [O.w.ray_out (by lia) (by lia) hjc]; exact bL _
 refine ⟨ray m S cc,λ j hj=>nn j (by lia),λ i hi=>?_,by rw [<- goal,zg]; lia⟩;have r0:=rows i hi;rw [zc,bM,dO] at r0;have n0:=nn (q+i) (by lia);lia
theorem Of.bounded (O:Of m q A b c S) {i0 l cc:Nat} (h0:i0<m) (hl:l<m) (hA:∀ j,j<q->A i0 j+A l j=c j) (hc:cc<q) (neg:S.T m cc<0) (no:∀ i,i<m->¬ 0<S.T i cc):False:=by
 obtain ⟨y,_,rows,goal⟩:=O.way hc neg no;have r0:=rows i0 h0;have rl:=rows l hl;have e:sumTo (λ j=>c j*y j) q=sumTo (λ j=>A i0 j*y j) q+sumTo (λ j=>A l j*y j) q:=by
  rw [<- T7];refine sum_congr λ j hj=>?_;rw [<- hA j hj,cL]
 lia
end
end Lp
namespace Rim
open PySem L2 Fr
section
variable {P:Program} {w:World} {K:W.Frag} {mg:Str->Option Value} {base:Heap} {f Pt d:Addr} {fd:FuncData} {n:Nat} {C:Addr}
def FrsAt (H:Hp) (ys:List V) (xs:List Int) (D:Int):Prop:=ys.length=xs.length/\∀ (i:Nat) y,ys[i]?=some y->FrT H y (low (xs.getD i 0) D)
theorem FrsAt.same {H H':Hp} {ys:List V} {xs:List Int} {D:Int} (e:Same H H') (h:FrsAt H ys xs D):FrsAt H' ys xs D:=⟨h.1,λ i y hy=>(h.2 i y hy).same e⟩
end
section
variable {P:Program} {w:World} {K:W.Frag} {mg:Str->Option Value} {base:Heap} {f Pt d:Addr} {fd:FuncData} {n:Nat} {C:Addr}
end
theorem SqT.same1 {K:W.Frag} {P:Addr} {pos:Pos} {qual:Str} {H H':Hp} {a:Addr} {xs:List V} (T:LamTab P pos qual H) (e:Same1 P H H') (h:SqT K H a xs):SqT K H' a xs:=by
 have ne:∀ o,H a=some o->(∀ ps,o≠.tbl ps)->a≠P:=λ o q n z=>by
  subst z;rcases T with t | ⟨c,t,_⟩
  ·rw [q] at t; exact n _ (aS t)
  ·rw [q] at t; exact n _ (aS t)
 rcases h with (h | ⟨o,h⟩) | h
 ·exact .inl (.inl (e _ _ (ne _ h λ _=>nofun) h))
 ·exact .inl (.inr ⟨o,e _ _ (ne _ h λ _=>nofun) h⟩)
 ·exact .inr h
theorem HS.same1 {K:W.Frag} {Pt:Addr} {H H':Hp} {v:V} {h:c7} (T:LT Pt H) (e:Same1 Pt H H') (x:HS K H v h):HS K H' v h:=by
 obtain ⟨a,t,g,h0,h1,h2,h3⟩:=x;exact ⟨a,t,g,h0,SqT.same1 T e h1,SqT.same1 T e h2,SqT.same1 T e h3⟩
theorem Bk.same1 {K:W.Frag} {Pt:Addr} {H H':Hp} {vs:List V} {hs:List c7} (T:LT Pt H) (e:Same1 Pt H H') (x:Bk K H vs hs):Bk K H' vs hs:=Paired.imp' (λ _ _ r=>HS.same1 T e r) x
theorem A8 {l r:List Int} (j:Nat):(l++r).getD j 0=if j<l.length then l.getD j 0 else r.getD (j - l.length) 0:=by
 rw [aG,aG,aG]
 by_cases h:j<l.length
 ·rw [if_pos h,bK h]
 ·rw [if_neg h,bZ (by lia)]
theorem J4 (k j:Nat):(aI k (0:Int)).getD j 0=0:=by
 rw [aG,cV]
 split <;> rfl
theorem a0W (l:List Int) (j:Nat):(l.map λ x=>-x).getD j 0 = - l.getD j 0:=by
 rw [aG,aG,aE]
 cases l[j]? <;> rfl
theorem b0Y {z:Str} {hs:List c7} {h:c7} {i:Nat} (hi:hs[i]?=some h) (j:Nat):T4 (C4 z hs h) i j+T4 (C4 z hs h) hs.length j=E7 (M7 z h) j:=by
 have hil:i<hs.length:=(aU.mp hi).1;have e1:(C4 z hs h)[i]?=some (v8 z h):=by
  unfold C4;rw [bK (by rw [aA]; exact hil),aE,hi]; rfl
 have e2:(C4 z hs h)[hs.length]?=some (N6 z h):=by
  unfold C4;rw [bZ (by rw [aA]; exact aH _),aA,eF]; rfl
 rw [P8 e1,P8 e2];unfold E7 v8 N6 M7;simp only [A8,J4,a0W,aO,aA,aX]
 by_cases h1:j<h.1.length
 ·rw [if_pos (by lia),if_pos h1,if_pos (by lia),if_pos h1,if_pos (by lia),if_pos h1]; lia
 ·by_cases h2:j<h.1.length+h.2.length
  ·rw [if_pos h2,if_neg h1,if_pos h2,if_neg h1,if_pos h2,if_neg h1,dO]
  ·rw [if_neg h2,if_neg h2,if_neg h2,dO]
section
variable {P:Program} {w:World} {K:W.Frag} {mg:Str->Option Value} {base:Heap} {f Pt d CN:Addr} {fd:FuncData} {n:Nat} {C:Addr}
structure X6 (P:Program) (w:World) (K:W.Frag) (mg:Str->Option Value) (base:Heap) (n:Nat) (x:Str) (ps:List Str) (sp:Sp) (fa:Addr) (d:FuncData):Prop where
 ok:FnOk P w K mg base (CX1 P w) n fa d ps sp
 b:Binds K d ps []
 k:W.keepIn K (.ref fa)=true
 m:mg x=some (.ref fa)
abbrev mE (hs:List c7):Nat:=hs.length+1
abbrev qE (z:Str) (h:c7):Nat:=h.1.length+h.2.length+(E2 z).length
structure BookIn (K:W.Frag) (H:Hp) (ba:Addr) (xs:List V) (hs:List c7) (far:Int) (kt kg:Nat):Prop where
 l:SqL K H ba xs
 b:Bk K H xs hs
 g:∀ h∈hs,HG far kt kg h
 far:far<=2 ^ 60
 few:hs.length<=16
 t:kt<=20
 k:kg<=20
def Best (z:Str) (hs:List c7) (h:c7) (S:Lp.Bo):Prop:=OfE z hs h S/\(∀ j,j<qE z h->¬ S.T (mE hs) j<0)/\Sz 4000 (mE hs) (qE z h) S
def a1a (K:W.Frag) (CN Pt:Addr):Sp:=λ vs H Q E=>∃ (ba:Addr) (xs:List V) (hs:List c7) (number:Int) (z:Str) (far:Int) (kt kg:Nat),vs=[.ref ba,.int number,.str z]/\Q9 z/\BookIn K H ba xs hs far kt kg/\number.natAbs.log2<1920/\LT Pt H ∧
 (∀ (i:Nat) (h:c7) (S:Lp.Bo) (H':Hp) (u:V),number=(i:Int)->hs[i]?=some h->Best z hs h S->Same1 Pt H H'->LT Pt H'->FrT H' u (low (S.T (mE hs) (qE z h)) S.d)->Q u H')/\(¬ a0O xs.length number->E (.ref CN) none H)
theorem a7C {z:Str} {hs:List c7} {h:c7} {S:Lp.Bo} (B:Best z hs h S):0<S.d/\S.d<2 ^ 8000:=by
 refine ⟨B.1.w.pos,?_⟩;have h1:S.d.natAbs<2 ^ 4000:=B.2.2.2;have h2:(2:Nat) ^ 4000<=2 ^ 8000:=fB (by decide) (by decide);have h3:S.d=(S.d.natAbs:Int):=by have:=B.1.w.pos; lia
 rw [h3]
 exact_mod_cast bA h1 h2
theorem a7z {m q:Nat} {A:Nat->Nat->Int} {b c:Nat->Int} {S:Lp.Bo} (O:Lp.Of m q A b c S) (sz:Sz 4000 m q S) {v:Nat} (hv:v<q):Big 4000 (Lp.valIn m S q v):=by
 have hv':v<q+m:=by lia
 rcases O.w.all v hv' with ⟨i,hi,e⟩ | ⟨j,hj,e⟩
 ·have:Lp.valIn m S q v=S.T i q:=by
   unfold Lp.valIn;rw [Lp.sum_one hi λ k hk hn=>if_neg λ z=>hn (O.w.ii k i hk hi (z.trans e.symm)),if_pos e]
  rw [this];exact sz.1 i q (by lia) (by lia)
 ·have:Lp.valIn m S q v=0:=Lp.sum_zero λ k hk=>if_neg λ z=>O.w.io k j hk hj (z.trans e.symm)
  rw [this]
  show (0:Int).natAbs<2 ^ 4000
  exact iZ (by decide)
def a0I (K:W.Frag) (Pt:Addr):Sp:=λ vs H Q _=>∃ (ba:Addr) (hv:V) (xs:List V) (hs:List c7) (h:c7) (z:Str) (far:Int) (kt kg:Nat),vs=[.ref ba,hv,.str z]/\Q9 z/\BookIn K H ba xs hs far kt kg/\HS K H hv h/\HG far kt kg h/\LT Pt H ∧
 (∀ (S:Lp.Bo) (H':Hp) (u:V),Best z hs h S->Same1 Pt H H'->LT Pt H'->FrT H' u (low (S.T (mE hs) (qE z h)) S.d)->Q u H') ∧
 ∀ (S:Lp.Bo) (H':Hp) (c:Nat),OfE z hs h S->c<qE z h->S.T (mE hs) c<0->(∀ i,i<mE hs->¬ 0<S.T i c)->Same1 Pt H H'->LT Pt H'->Q .non H'
theorem b1U {f2 f3:Addr} {d2 d3:FuncData} (F:Fun K "held_against" "held_against" a9C f fd) (Ce:D3 P w K mg base n "greatest_earned" ["houses","house","sizes"] (a5K K Pt) f2 d2)
  (Cl:Cal P w K mg base n "lowest" ["top","bottom"] a1l f3 d3):FnOk P w K mg base E4 (n+1) f fd ["houses","house","sizes"] (a0I K Pt):=by
 refine F.ok scHa (λ vs H Q E h=>?_) (λ cdv A outer s H vs Q E hr h=>?_)
 ·obtain ⟨ba,hv,xs,hs,h,z,far,kt,kg,rfl,_⟩:=h
  rfl
 obtain ⟨ba,hv,xs,hs,h,z,far,kt,kg,rfl,hz,B,hH,gh,L,kG,kN⟩:=h;refine ⟨_,i6 (j4 (i:=3) scHa.nd rfl (aC rfl) (i9 Ce.ok hr rfl Ce.m Ce.k Ce.b .nil r8 (c5 (pv 0) (c5 (pv 1) (c5 (pv 2) c6)))))
  (i6 (A7 (m9 a0J (pv 3) J3 (p7 _)) (i8 (r6 J3)) t7)
  (i6 (K4 (pv 3) (S5 rfl (j3 (i7 (i:=4) scHa.nd rfl (aC rfl)) (j3 (i7 (i:=5) scHa.nd rfl (aC rfl)) (j3 (i7 (i:=6) scHa.nd rfl (aC rfl)) (j3 (i7 (i:=7) scHa.nd rfl (aC rfl)) v7))))))
  (i8 (r6 (i9 Cl.ok hr rfl Cl.m Cl.k Cl.b .nil r8 (c5 (pv 4) (c5 (pv 7) c6))))))),?_⟩
 refine ⟨_,rfl,_,rfl,_,rfl,ba,hv,xs,hs,h,z,far,kt,kg,mE hs,qE z h,rfl,hz,B.l,B.b,hH,gh,B.g,B.far,B.few,B.t,B.k,rfl,rfl,L,λ S H' t aa wa O hn sz e' L' g1 g2 g3=>?_,λ S H' c O hc hneg hno e' L'=>?_⟩
 ·have Bs:Best z hs h S:=⟨O,hn,sz⟩
  obtain ⟨b1,b2⟩:=a7C Bs;refine ⟨_,rfl,rfl,_,rfl,a0s ?_⟩;refine ⟨_,rfl,t,_,rfl,SqT.of g1,rfl,_,_,rfl,_,_,rfl,_,_,rfl,_,_,rfl,rfl,?_⟩;exact ⟨_,rfl,_,rfl,_,_,rfl,b1,b2,λ u H2 e2 hu=>kG S H2 u Bs (λ b o hb q'=>e2 _ _ (e' b o hb q')) (L'.same e2) hu⟩
 ·refine ⟨_,rfl,rfl,_,rfl,a4C ?_⟩
  exact kN S H' c O hc hneg hno e' L'
theorem a9J {f1 f2:Addr} {d1 d2:FuncData} (F:Fun K "share" "share" a6z f fd) (Ch:X6 P w K mg base n "house_of" ["book","number"] (a1o K CN) f1 d1) (Ce:D3 P w K mg base n "held_against" ["houses","house","sizes"] (a0I K Pt) f2 d2):FnOk P w K mg base (CX1 P w) (n+1) f fd ["book","number","sizes"] (a1a K CN Pt):=by
 refine F.ok1 b6p (λ vs H Q E h=>?_) (λ cdv A outer s H vs Q E hr h=>?_)
 ·obtain ⟨ba,xs,hs,number,z,far,kt,kg,rfl,_⟩:=h
  rfl
 obtain ⟨ba,xs,hs,number,z,far,kt,kg,rfl,hz,B,lm,L,kG,kE⟩:=h;refine ⟨_,i8 (r6 (i9 Ce.ok hr rfl Ce.m Ce.k Ce.b .nil r8 (c5 (pv 0) (c5 (i9 Ch.ok hr rfl Ch.m Ch.k Ch.b .nil Z6 (c5 (pv 0) (c5 (pv 1) c6))) (c5 (pv 2) c6))))),?_⟩;refine ⟨_,rfl,_,rfl,_,rfl,ba,xs,number,rfl,B.l,lm,λ i hv hi hx=>?_,kE⟩;obtain ⟨h,hh,hH⟩:=Paired.at B.b hx;have gh:=B.g h (aJ hh);refine ⟨_,rfl,ba,hv,xs,hs,h,z,far,kt,kg,rfl,hz,B,hH,gh,L,λ S H' u Bs e' L' hu=>kG i h S H' u hi hh Bs e' L' hu,λ S H' c O hc hneg hno e' L'=>(O.bounded (i0:=i) (l:=hs.length) (by have:=(aU.mp hh).1; lia) (by lia) (λ j _=>b0Y hh j) hc hneg hno).elim⟩
end
end Rim
namespace L2
open PySem
theorem Big.mono {n m:Nat} {i:Int} (h:Big n i) (hn:n<=m):Big m i:=Rim.Big.mono h hn
theorem Big.mul {n m:Nat} {i j:Int} (h:Big n i) (k:Big m j):Big (n+m) (i*j):=Rim.Big.mul h k
theorem Big.add {n:Nat} {i j:Int} (h:Big n i) (k:Big n j):Big (n+1) (i+j):=Rim.Big.add h k
end L2
namespace Fr
theorem a2K {a b:Int} (ha:0<a) (hb:0<b):a<=a*b:=by
 have:=eP (show (1:Int)<=b by lia) (aL ha);rw [dZ] at this;exact this
theorem a9b {b f D:Int} (hb:0<b) (hf:0<f) (h1:b∣D) (h2:f∣D):b / gI b f*f∣D:=by
 obtain ⟨m,rfl⟩:=lC (aL hb);obtain ⟨n,rfl⟩:=lC (aL hf);have e:(m:Int) / gI m n*n=((jA m n:Nat):Int):=by
  have e1:jA m n=m / Nat.gcd m n*n:=by
   unfold jA;rw [gN m n,Nat.mul_div_assoc n (Nat.gcd_dvd_left m n),gN]
  rw [e1];unfold gI;rw [Int.natCast_mul,Int.natCast_ediv];rfl
 rw [e,jB];exact Nat.lcm_dvd (jB.mp h1) (jB.mp h2)
theorem a7S {x D:Int} (hD:0<D):(low x D).2∣D:=⟨gI x D,by rw [aV]; exact (J8 (t:=x) hD).2⟩
theorem a4l {t b:Int} (hb:0<b):(low t b).2<=b:=eY hb (a7S hb)
end Fr
namespace Rim
open PySem L2 Fr
theorem a7y {t b:Int} {n:Nat} (hb:0<b) (h:Big n t):Big n (low t b).1:=by
 obtain ⟨h1,_⟩:=J8 (t:=t) hb;have hg:=Z7 (a:=t) hb;unfold Big at *;have e:t.natAbs=(gI t b).natAbs*(low t b).1.natAbs:=by rw [<- fP,<- h1]
 have:1<=(gI t b).natAbs:=by lia
 have:=iA (low t b).1.natAbs this;lia
section
variable {P:Program} {w:World} {K:W.Frag} {mg:Str->Option Value} {base:Heap} {f:Addr} {fd:FuncData} {n:Nat}
def b5s (K:W.Frag) (H:Hp) (ys:List V) (xs:List Int) (D:Int):Prop:=ys.length=xs.length/\∀ (i:Nat) y,ys[i]?=some y->FrV K H y (low (xs.getD i 0) D)
theorem FrsAt.v {H:Hp} {ys:List V} {xs:List Int} {D:Int} (h:FrsAt H ys xs D):b5s K H ys xs D:=⟨h.1,λ i y hy=>(h.2 i y hy).v⟩
end
theorem b3L {x D:Int} (hD:0<D) (hx:0<=x):0<=(low x D).1:=by
 obtain ⟨h1,_⟩:=J8 (t:=x) hD;have hg:=Z7 (a:=x) hD
 by_cases h:0<=(low x D).1
 ·exact h
 ·have:gI x D*(low x D).1<0:=Int.mul_neg_of_pos_of_neg hg (by lia)
  lia
section
variable {P:Program} {w:World} {K:W.Frag} {mg:Str->Option Value} {base:Heap} {f:Addr} {fd:FuncData} {n:Nat}
def a3y (z:Str) (s D:Int):Prop:=((z="one"\/z="less")->s<=D)/\((z="one"\/z="more")->D<=s)
theorem a2u:∀ {ws:List Int} {m:Nat},(∀ x∈ws,Big m x)->ws.length<=200->Big (m+200) ws.sum:=λ {ws m} h hl=>by
 have key:∀ l:List Int,(∀ x∈l,Big m x)->l.sum.natAbs<=l.length*2 ^ m:=λ l=>by
  induction l with
  | nil=>intro _; exact cB _
  | cons x r ih =>
   intro h;have h1:x.natAbs<2 ^ m:=h x cE;have h2:=ih λ y hy=>h y (bS _ hy);have h3:=kZ x r.sum;rw [bW,dM,gM];lia
 have h1:=key ws h;have h2:ws.length*2 ^ m<=200*2 ^ m:=iA _ hl;have h3:200*2 ^ m<2 ^ (m+200):=by
  rw [kY,gN];exact Nat.mul_lt_mul_of_pos_left (by decide) (iZ (by decide))
 exact eK (aZ h1 h2) h3
end
def col (rows:List (List Int)) (i:Nat):List Int:=rows.map λ r=>r.getD i 0
section
variable {P:Program} {w:World} {K:W.Frag} {mg:Str->Option Value} {base:Heap} {f g:Addr} {fd gd:FuncData} {n:Nat}
def K2 (j:Nat) (h:c7):List Int:=if j=0 then h.1 else h.2
end
end Rim
namespace L2
open PySem PySem.Spec PyProof.Rows
section
variable {xs ys:List V} {K:W.Frag} {l1 l2:Addr} {σ:St}
end
end L2
namespace Rim
open PySem L2 Fr
section
variable {P:Program} {w:World} {K:W.Frag} {mg:Str->Option Value} {base:Heap} {f:Addr} {fd:FuncData} {n:Nat}
def D6 (hs:List c7) (ws:List Int) (j i:Nat):Int:=(bB (·*·) (col (hs.map (K2 j)) i) ws).sum
end
theorem a3g {a b:Nat}:∀ {ns ws:List Int},(∀ x∈ns,Big a x)->(∀ x∈ws,Big b x)->∀ x∈List.zipWith (·*·) ns ws,Big (a+b) x
 | [],_,_,_,x,hx=>by simp at hx
 | _::_,[],_,_,x,hx=>by simp at hx
 | n::ns,w::ws,h1,h2,x,hx=>by
  rw [cH] at hx;rcases aR.mp hx with e | e
  ·rw [e]; exact (h1 n cE).mul (h2 w cE)
  ·exact a3g (λ y hy=>h1 y (bS _ hy)) (λ y hy=>h2 y (bS _ hy)) x e
theorem a3x {far:Int} {kt kg:Nat} {h:c7} (g:HG far kt kg h) (hf:far<=2 ^ 60) (j:Nat):∀ x∈K2 j h,Big 100 x:=λ x hx=>by
 have:0<=x/\x<=far:=by
  unfold K2 at hx
  by_cases h0:j=0
  ·rw [if_pos h0] at hx; have:=g.t x hx; lia
  ·rw [if_neg h0] at hx; exact g.g x hx
 exact (W8 (n:=61) this.1 (by lia)).mono (by decide)
section
variable {P:Program} {w:World} {K:W.Frag} {mg:Str->Option Value} {base:Heap} {f:Addr} {fd:FuncData} {n:Nat}
end
def PrA (H:Hp) (t:Addr) (pt pg:List Int) (ps D:Int):Prop:=∃ (fa ga:Addr) (u:V) (fts gts:List V),H t=some (.tup [.ref fa,.ref ga,u])/\H fa=some (.lst fts)/\FrsAt H fts pt D/\H ga=some (.lst gts)/\FrsAt H gts pg D/\FrT H u (low ps D)
theorem PrA.same {H H':Hp} {t:Addr} {pt pg:List Int} {ps D:Int} (e:Same H H') (h:PrA H t pt pg ps D):PrA H' t pt pg ps D:=by
 obtain ⟨fa,ga,u,fts,gts,h1,h2,h3,h4,h5,h6⟩:=h;exact ⟨fa,ga,u,fts,gts,e _ _ h1,e _ _ h2,h3.same e,e _ _ h4,h5.same e,h6.same e⟩
theorem FrsAt.snoc {H:Hp} {ys:List V} {xs:List Int} {D x:Int} {y:V} (h:FrsAt H ys xs D) (hy:FrT H y (low x D)):FrsAt H (ys++[y]) (xs++[x]) D:=by
 refine ⟨by simp [h.1],λ i u hu=>?_⟩;rw [A8]
 by_cases hi:i<ys.length
 ·rw [bK hi] at hu
  rw [if_pos (by rw [<- h.1]; exact hi)];exact h.2 i u hu
 ·rw [bZ (by lia)] at hu
  have hi0:i - ys.length=0:=by
   cases z:i - ys.length with
   | zero=>rfl
   | succ k=>rw [z] at hu; simp at hu
  rw [hi0] at hu;have:y=u:=by simpa using hu
  subst this;rw [if_neg (by rw [<- h.1]; exact hi),<- h.1,hi0];exact hy
theorem a4Y:∀ {xs ys:List Int} {a b:Int},xs.length=ys.length->(bB (·*·) (xs++[a]) (ys++[b])).sum=(bB (·*·) xs ys).sum+a*b
 | [],[],a,b,_=>by simp
 | x::xs,y::ys,a,b,h=>by
  rw [dA,dA,cH,cH,bW,bW,a4Y (by simpa using h),Int.add_assoc]
section
variable {P:Program} {w:World} {K:W.Frag} {mg:Str->Option Value} {base:Heap} {f:Addr} {fd:FuncData} {n:Nat}
structure PrN (pt pg:List Int) (ps D:Int) (kt kg:Nat):Prop where
 lt:pt.length=kt
 lg:pg.length=kg
 bt:∀ x∈pt,0<=x/\Big 5000 x
 bg:∀ x∈pg,0<=x/\Big 5000 x
 bs:Big 5000 ps
 d:0<D
 d2:D<2 ^ 4000
def D5 (h:c7) (pg:List Int) (ps:Int):Int:=(bB (·*·) h.2 pg).sum+ps
def O5 (h:c7) (pt:List Int):Int:=(bB (·*·) h.1 pt).sum
end
section
variable {P:Program} {w:World} {K:W.Frag} {mg:Str->Option Value} {base:Heap} {f:Addr} {fd:FuncData} {n:Nat}
def a2V (z:Str) (ps:Int):Prop:=((z="any"\/z="less")->ps<=0)/\((z="any"\/z="more")->0<=ps)
end
mutual
theorem K6:∀ d:PyData,d.canLay0=true->PyData.eqv d d=true
 | .none,_=>by rw [PyData.eqv]
 | .bool b,_=>by rw [PyData.eqv]; simp
 | .int i,_=>by rw [PyData.eqv]; simp
 | .str x,_=>by rw [PyData.eqv]; simp
 | .list xs,h=>by rw [PyData.eqv]; exact Y7 xs (by rw [PyData.canLay0] at h; exact h)
 | .tuple xs,h=>by rw [PyData.eqv]; exact Y7 xs (by rw [PyData.canLay0] at h; exact h)
 | .dict kvs,h=>by rw [PyData.canLay0] at h; cases h
theorem Y7:∀ ds:List PyData,PyData.canLayAll0 ds=true->PyData.eqvAll ds ds=true
 | [],_=>by rw [PyData.eqvAll]
 | d::r,h=>by
  rw [PyData.canLayAll0,dD] at h;rw [PyData.eqvAll,K6 d h.1,Y7 r h.2]; rfl
end
def dF (x:Q2):PyData:=.tuple [.int x.1,.int x.2]
theorem FrV.dp {K:W.Frag} {H:Hp} {v:V} {x:Q2} (h:FrV K H v x):Dp K H v (dF x):=by
 obtain ⟨a,rfl,q⟩:=h;exact .tup q (.cons (.int _) (.cons (.int _) .nil))
theorem K3 (x:Q2):(dF x).canLay0=true:=by
 unfold dF;rw [PyData.canLay0,PyData.canLayAll0,PyData.canLay0,PyData.canLayAll0,PyData.canLay0,PyData.canLayAll0]; rfl
theorem a2J (x:Q2):(dF x).depth<=60:=by
 unfold dF;simp [PyData.depth,PyData.depthAll]
theorem low_cross {x D:Int} (hD:0<D):(low x D).1*D=x*(low x D).2:=by
 obtain ⟨h1,h2⟩:=J8 (t:=x) hD;generalize (low x D).1=a at *;generalize (low x D).2=b at *;generalize gI x D=g at *;rw [h1,h2]
 ac_rfl
section
variable {P:Program} {w:World} {K:W.Frag} {mg:Str->Option Value} {base:Heap} {f:Addr} {fd:FuncData} {n:Nat}
end
section
variable {P:Program} {w:World} {K:W.Frag} {mg:Str->Option Value} {base:Heap} {f:Addr} {fd:FuncData} {n:Nat}
end
end Rim
namespace Lp
section
variable {m q:Nat} {A:Nat->Nat->Int} {b c:Nat->Int} {S S':Bo}
theorem a3l {g h:Nat->Int}:∀ {n:Nat},(∀ k,k<n->g k<=h k)->sumTo g n<=sumTo h n
 | 0,_=>bL _
 | n+1,e=>Int.add_le_add (a3l λ k hk=>e k (by lia)) (e n (by lia))
theorem a7N {g h:Nat->Int}:∀ n:Nat,sumTo (λ k=>g k - h k) n=sumTo g n - sumTo h n
 | 0=>rfl
 | n+1=>by
  show sumTo (λ k=>g k - h k) n+(g n - h n)=(sumTo g n+g n) - (sumTo h n+h n)
  rw [a7N n]; lia
theorem Of.weak (O:Of m q A b c S) (hn:∀ j,j<q->¬ S.T m j<0) {y:Nat->Int} {e:Int} (hy:∀ j,j<q->0<=y j) (hr:∀ i,i<m->sumTo (λ j=>A i j*y j) q<=b i*e):S.d*sumTo (λ j=>c j*y j) q<=e*S.T m q:=by
 obtain ⟨D1,D2⟩:=O.dual;have nn:∀ v,0<=valOut m q S v:=Of.valOut_nn λ j hj=>by have:=hn j hj; lia
 have e1:S.d*sumTo (λ j=>c j*y j) q=sumTo (λ j=>sumTo (λ i=>A i j*valOut m q S (q+i)) m*y j - valOut m q S j*y j) q:=by
  rw [<- A5];refine sum_congr λ j hj=>?_;rw [D1 j hj,cL,lD,aV (c j) S.d,aW]
 have e2:sumTo (λ j=>sumTo (λ i=>A i j*valOut m q S (q+i)) m*y j - valOut m q S j*y j) q<=sumTo (λ j=>sumTo (λ i=>A i j*valOut m q S (q+i)) m*y j) q:=by
  refine a3l λ j hj=>?_;have:=cF (nn j) (hy j hj);lia
 have e3:sumTo (λ j=>sumTo (λ i=>A i j*valOut m q S (q+i)) m*y j) q=sumTo (λ i=>valOut m q S (q+i)*sumTo (λ j=>A i j*y j) q) m:=by
  have x1:sumTo (λ j=>sumTo (λ i=>A i j*valOut m q S (q+i)) m*y j) q=sumTo (λ j=>sumTo (λ i=>valOut m q S (q+i)*(A i j*y j)) m) q:=by
   refine sum_congr λ j hj=>?_;rw [aV,<- A5];refine sum_congr λ i hi=>?_
   ac_rfl
  rw [x1,Y5];refine sum_congr λ i hi=>?_;rw [A5]
 have e4:sumTo (λ i=>valOut m q S (q+i)*sumTo (λ j=>A i j*y j) q) m<=sumTo (λ i=>e*(b i*valOut m q S (q+i))) m:=by
  refine a3l λ i hi=>?_;have:=eP (hr i hi) (nn (q+i));have x:valOut m q S (q+i)*(b i*e)=e*(b i*valOut m q S (q+i)):=by ac_rfl
  rw [x] at this;exact this
 rw [A5,D2] at e4;rw [e1];rw [e3] at e2;exact fU e2 e4
theorem Of.slack (O:Of m q A b c S) (hn:∀ j,j<q->¬ S.T m j<0) {l:Nat} (hl:l<m) (hw:0<valOut m q S (q+l)):sumTo (λ j=>A l j*valIn m S q j) q=b l*S.d:=by
 obtain ⟨p1,p2⟩:=O.primal;have nn:∀ v,0<=valOut m q S v:=Of.valOut_nn λ j hj=>by have:=hn j hj; lia
 have nx:=O.valIn_nn
 by_cases h0:valIn m S q (q+l)=0
 ·have:=p1 l hl
  lia
 ·exfalso
  have hp:0<valIn m S q (q+l):=by have:=nx (q+l); lia
  obtain ⟨D1,D2⟩:=O.dual;have e1:S.d*sumTo (λ j=>c j*valIn m S q j) q<=sumTo (λ i=>valOut m q S (q+i)*sumTo (λ j=>A i j*valIn m S q j) q) m:=by
   have x1:S.d*sumTo (λ j=>c j*valIn m S q j) q=sumTo (λ j=>sumTo (λ i=>A i j*valOut m q S (q+i)) m*valIn m S q j - valOut m q S j*valIn m S q j) q:=by
    rw [<- A5];refine sum_congr λ j hj=>?_;rw [D1 j hj,cL,lD,aV (c j) S.d,aW]
   have x2:sumTo (λ j=>sumTo (λ i=>A i j*valOut m q S (q+i)) m*valIn m S q j - valOut m q S j*valIn m S q j) q<=sumTo (λ j=>sumTo (λ i=>valOut m q S (q+i)*(A i j*valIn m S q j)) m) q:=by
    refine a3l λ j hj=>?_;have y:=cF (nn j) (nx j);have z:sumTo (λ i=>A i j*valOut m q S (q+i)) m*valIn m S q j=sumTo (λ i=>valOut m q S (q+i)*(A i j*valIn m S q j)) m:=by
     rw [aV,<- A5];refine sum_congr λ i hi=>?_
     ac_rfl
    lia
   rw [Y5] at x2;have x3:sumTo (λ i=>sumTo (λ j=>valOut m q S (q+i)*(A i j*valIn m S q j)) q) m=sumTo (λ i=>valOut m q S (q+i)*sumTo (λ j=>A i j*valIn m S q j) q) m:=sum_congr λ i hi=>by rw [A5]
   rw [x1,<- x3]; exact x2
  have e2:sumTo (λ i=>valOut m q S (q+i)*sumTo (λ j=>A i j*valIn m S q j) q) m<=sumTo (λ i=>S.d*(b i*valOut m q S (q+i)) - (if i=l then valOut m q S (q+l)*valIn m S q (q+l) else 0)) m:=by
   refine a3l λ i hi=>?_;have y:=p1 i hi;have z:=cF (nn (q+i)) (nx (q+i));have ez:valOut m q S (q+i)*sumTo (λ j=>A i j*valIn m S q j) q=S.d*(b i*valOut m q S (q+i)) - valOut m q S (q+i)*valIn m S q (q+i):=by
    have:sumTo (λ j=>A i j*valIn m S q j) q=b i*S.d - valIn m S q (q+i):=by lia
    rw [this,fR]
    congr 1
    ac_rfl
   rw [ez]
   by_cases hil:i=l
   ·subst hil
    rw [if_pos rfl]; exact bL _
   ·rw [if_neg hil]; lia
  have e3:sumTo (λ i=>S.d*(b i*valOut m q S (q+i)) - (if i=l then valOut m q S (q+l)*valIn m S q (q+l) else 0)) m=S.d*S.T m q - valOut m q S (q+l)*valIn m S q (q+l):=by
   rw [a7N,A5,D2,sum_one hl λ i hi hne=>if_neg hne,if_pos rfl]
  rw [p2] at e1;have:=cO hw hp;lia
end
end Lp
namespace Rim
open PySem L2 Fr
abbrev r9 (l x:List Int):Int:=(bB (·*·) l x).sum
theorem a4Z:∀ (l r x:List Int),r9 (l++r) x=r9 l (x.take l.length)+r9 r (x.drop l.length)
 | [],r,x=>by simp [r9]
 | a::l,r,[]=>by simp [r9]
 | a::l,r,y::x=>by
  have:=a4Z l r x;unfold r9 at *;rw [dA,cH,bW,this,dM,List.take_succ_cons,List.drop_succ_cons,cH,bW];lia
theorem a0p:∀ (l x:List Int),r9 (l.map λ y=>-y) x = - r9 l x
 | [],x=>by simp [r9]
 | a::l,[]=>by simp [r9]
 | a::l,y::x=>by
  have:=a0p l x;unfold r9 at *;rw [bJ,cH,bW,this,cH,bW,eM];lia
theorem N3:∀ (k:Nat) (x:List Int),r9 (aI k 0) x=0
 | 0,x=>by simp [r9]
 | k+1,[]=>by simp [r9]
 | k+1,y::x=>by
  have:=N3 k x;unfold r9 at *;rw [eJ,cH,bW,this]; lia
theorem E8:∀ (l x:List Int),r9 l x=r9 x l
 | [],x=>by simp [r9]
 | a::l,[]=>by simp [r9]
 | a::l,y::x=>by
  have:=E8 l x;unfold r9 at *;rw [cH,bW,this,cH,bW,aV]
theorem a9R:∀ {l x:List Int},(∀ y∈l,0<=y)->(∀ y∈x,0<=y)->0<=r9 l x
 | [],x,_,_=>by simp [r9]
 | a::l,[],_,_=>by simp [r9]
 | a::l,y::x,h1,h2=>by
  have:=a9R (l:=l) (x:=x) (λ z hz=>h1 z (.tail _ hz)) (λ z hz=>h2 z (.tail _ hz));unfold r9 at *;rw [cH,bW];have:=cF (h1 a (.head _)) (h2 y (.head _));lia
theorem E5:∀ (n:Nat) (l x:List Int),l.length=n->x.length=n->Lp.sumTo (λ j=>l.getD j 0*x.getD j 0) n=r9 l x
 | 0,l,x,h1,h2=>by
  rw [fF h1]; simp [r9,Lp.sumTo]
 | n+1,l,x,h1,h2=>by
  obtain ⟨l',a,rfl⟩:∃ l' a,l=l'++[a]:=⟨l.dropLast,l.getLast (by intro z; rw [z] at h1; cases h1),(lE _).symm⟩;obtain ⟨x',b,rfl⟩:∃ l' a,x=l'++[a]:=⟨x.dropLast,x.getLast (by intro z; rw [z] at h2; cases h2),(lE _).symm⟩;have l1:l'.length=n:=by simpa using h1
  have l2:x'.length=n:=by simpa using h2
  show Lp.sumTo _ n+_=_
  have e:Lp.sumTo (λ j=>(l'++[a]).getD j 0*(x'++[b]).getD j 0) n=Lp.sumTo (λ j=>l'.getD j 0*x'.getD j 0) n:=Lp.sum_congr λ j hj=>by
   rw [A8,A8,if_pos (by lia),if_pos (by lia)]
  rw [e,E5 n l' x' l1 l2]
  show _=(bB (·*·) (l'++[a]) (x'++[b])).sum
  rw [a4Y (by lia)]
  show r9 l' x'+(l'++[a]).getD n 0*(x'++[b]).getD n 0=_
  rw [A8,A8,if_neg (by lia),if_neg (by lia),l1,l2,eF]; rfl
theorem X7 {n:Nat} {F:Nat->Int} {j:Nat} (h:j<n):((aD n).map F).getD j 0=F j:=by
 rw [aG,aE,bQ h]; rfl
theorem a7a:∀ (l:List Int),r9 (l.map λ _=>1) l=l.sum
 | []=>rfl
 | a::l=>by
  have:=a7a l;unfold r9 at *;rw [bJ,cH,bW,this,bW,dP]
theorem a0B:∀ {l x:List Int},(∀ y∈l,0<=y)->(∀ y∈x,0<=y)->0<r9 l x->∃ j,j<x.length/\0<x.getD j 0
 | [],x,_,_,h=>by simp [r9] at h
 | a::l,[],_,_,h=>by simp [r9] at h
 | a::l,y::x,h1,h2,h=>by
  by_cases hy:0<y
  ·exact ⟨0,by simp,by simpa using hy⟩
  ·have y0:y=0:=by have:=h2 y (.head _); lia
   subst y0;have h':0<r9 l x:=by
    unfold r9 at *;rw [cH,bW] at h; lia
   obtain ⟨j,hj,hp⟩:=a0B (λ z hz=>h1 z (.tail _ hz)) (λ z hz=>h2 z (.tail _ hz)) h';exact ⟨j+1,by simp; lia,by simpa using hp⟩
theorem a0H:∀ {l x:List Int},(∀ y∈l,0<y)->(∀ y∈x,0<=y)->l.length=x.length->(∃ j,j<x.length/\0<x.getD j 0)->0<r9 l x
 | [],[],_,_,_,⟨j,hj,_⟩=>by simp at hj
 | a::l,y::x,h1,h2,hl,⟨j,hj,hp⟩=>by
  have nn:0<=r9 l x:=a9R (λ z hz=>aL (h1 z (.tail _ hz))) (λ z hz=>h2 z (.tail _ hz));have ya:=cF (aL (h1 a (.head _))) (h2 y (.head _))
  cases j with
  | zero =>
   have:0<a*y:=cO (h1 a (.head _)) (by simpa using hp);unfold r9 at *;rw [cH,bW]; lia
  | succ j =>
   have:=a0H (l:=l) (x:=x) (λ z hz=>h1 z (.tail _ hz)) (λ z hz=>h2 z (.tail _ hz)) (by simpa using hl) ⟨j,by simpa using hj,by simpa using hp⟩;unfold r9 at *;rw [cH,bW]; lia
 | [],_::_,_,_,hl,_=>by simp at hl
 | _::_,[],_,_,hl,_=>by simp at hl
theorem a7Q {m q:Nat} {A:Nat->Nat->Int} {b c:Nat->Int} {S:Lp.Bo} (O:Lp.Of m q A b c S) (sz:Sz 4000 m q S) {v:Nat} (hv:v<q+m):Big 4000 (Lp.valOut m q S v):=by
 rcases O.w.all v hv with ⟨i,hi,e⟩ | ⟨j,hj,e⟩
 ·have:Lp.valOut m q S v=0:=Lp.sum_zero λ k hk=>if_neg λ z=>O.w.io i k hi hk (e.trans z.symm)
  rw [this]
  show (0:Int).natAbs<2 ^ 4000
  exact iZ (by decide)
 ·have:Lp.valOut m q S v=S.T m j:=by
   unfold Lp.valOut;rw [Lp.sum_one hj λ k hk hn=>if_neg λ z=>hn (O.w.oo k j hk hj (z.trans e.symm)),if_pos e]
  rw [this];exact sz.1 m j (by lia) (by lia)
section
variable {m q:Nat} {rows:List (List Int)} {bnd goal:List Int} {S:Lp.Bo}
theorem a2k (O:Lp.Of m q (T4 rows) (E7 bnd) (E7 goal) S) {i:Nat} {row:List Int} (hi:i<m) (hr:rows[i]?=some row) (hl:row.length=q):r9 row (p6 m q S)<=bnd.getD i 0*S.d:=by
 have h:=O.primal.1 i hi;have nn:=O.valIn_nn (q+i);have e:Lp.sumTo (λ j=>T4 rows i j*Lp.valIn m S q j) q=r9 row (p6 m q S):=by
  rw [<- E5 q row (p6 m q S) hl (by unfold p6; simp)];refine Lp.sum_congr λ j hj=>?_;rw [P8 hr];unfold p6;rw [X7 hj]
 rw [e] at h
 show _<=E7 bnd i*S.d
 lia
theorem a3B (O:Lp.Of m q (T4 rows) (E7 bnd) (E7 goal) S) (hn:∀ j,j<q->¬ S.T m j<0) {i:Nat} {row:List Int} (hi:i<m) (hr:rows[i]?=some row) (hl:row.length=q) (hw:0<Lp.valOut m q S (q+i)):r9 row (p6 m q S)=bnd.getD i 0*S.d:=by
 have h:=O.slack hn hi hw;have e:Lp.sumTo (λ j=>T4 rows i j*Lp.valIn m S q j) q=r9 row (p6 m q S):=by
  rw [<- E5 q row (p6 m q S) hl (by unfold p6; simp)];refine Lp.sum_congr λ j hj=>?_;rw [P8 hr];unfold p6;rw [X7 hj]
 rw [e] at h;exact h
theorem a3o (O:Lp.Of m q (T4 rows) (E7 bnd) (E7 goal) S) (hl:goal.length=q):r9 goal (p6 m q S)=S.T m q:=by
 have h:=O.primal.2;have e:Lp.sumTo (λ j=>E7 goal j*Lp.valIn m S q j) q=r9 goal (p6 m q S):=by
  rw [<- E5 q goal (p6 m q S) hl (by unfold p6; simp)];refine Lp.sum_congr λ j hj=>?_;unfold p6;rw [X7 hj]; rfl
 rw [e] at h;exact h
theorem a0o (O:Lp.Of m q (T4 rows) (E7 bnd) (E7 goal) S) (hn:∀ j,j<q->¬ S.T m j<0) (hl:rows.length=m) {j:Nat} (hj:j<q):goal.getD j 0*S.d<=r9 (col rows j) (D7 m q S):=by
 have h:=O.dual.1 j hj;have nn:0<=Lp.valOut m q S j:=Lp.Of.valOut_nn (λ j hj=>by have:=hn j hj; lia) j;have e:Lp.sumTo (λ i=>T4 rows i j*Lp.valOut m q S (q+i)) m=r9 (col rows j) (D7 m q S):=by
  rw [<- E5 m (col rows j) (D7 m q S) (by unfold col; rw [aA]; exact hl) (by unfold D7; simp)];refine Lp.sum_congr λ i hi=>?_;unfold D7;rw [X7 hi]
  congr 1
  unfold T4 col;rw [aG (l:=jC _ rows),aE,aG (l:=rows),aF (by lia)]; rfl
 rw [e] at h
 show E7 goal j*S.d<=_
 lia
theorem a7s (O:Lp.Of m q (T4 rows) (E7 bnd) (E7 goal) S) (hl:bnd.length=m):r9 bnd (D7 m q S)=S.T m q:=by
 have h:=O.dual.2;have e:Lp.sumTo (λ i=>E7 bnd i*Lp.valOut m q S (q+i)) m=r9 bnd (D7 m q S):=by
  rw [<- E5 m bnd (D7 m q S) hl (by unfold D7; simp)];refine Lp.sum_congr λ i hi=>?_;unfold D7;rw [X7 hi]; rfl
 rw [e] at h;exact h
theorem b0A (hn:∀ j,j<q->¬ S.T m j<0):∀ x∈D7 m q S,0<=x:=λ x hx=>by
 unfold D7 at hx;obtain ⟨i,_,rfl⟩:=aK.mp hx;exact Lp.Of.valOut_nn (λ j hj=>by have:=hn j hj; lia) _
theorem a4E {A:Nat->Nat->Int} {b c:Nat->Int} (O:Lp.Of m q A b c S):∀ x∈p6 m q S,0<=x:=λ x hx=>by
 unfold p6 at hx;obtain ⟨i,_,rfl⟩:=aK.mp hx;exact O.valIn_nn i
theorem a4b:D7 (m+1) q S=(D7 (m+1) q S).take m++[Lp.valOut (m+1) q S (q+m)]:=by
 unfold D7;rw [fW,bC,gA (by simp)]; rfl
end
theorem a9I (a b c xs:List Int):r9 (a++b++c) xs=r9 a (xs.take a.length)+r9 b ((xs.drop a.length).take b.length)+r9 c (xs.drop (a.length+b.length)):=by
 rw [a4Z (a++b) c xs,a4Z a b,aO,List.take_take,eZ (by lia),List.drop_take,eI]
theorem T1 (a b c:List Int) (j:Nat):(a++b++c).getD j 0=if j<a.length then a.getD j 0 else if j<a.length+b.length then b.getD (j - a.length) 0 else c.getD (j - (a.length+b.length)) 0:=by
 rw [A8,aO]
 by_cases h1:j<a.length
 ·rw [if_pos (by lia),if_pos h1,A8,if_pos h1]
 ·by_cases h2:j<a.length+b.length
  ·rw [if_pos h2,if_neg h1,if_pos h2,A8,if_neg h1]
  ·rw [if_neg h2,if_neg h1,if_neg h2]
abbrev ptA (h:c7) (xs:List Int):List Int:=xs.take h.1.length
abbrev pgA (h:c7) (xs:List Int):List Int:=(xs.drop h.1.length).take h.2.length
abbrev psA (z:Str) (h:c7) (xs:List Int):Int:=r9 (xs.drop (h.1.length+h.2.length)) (E2 z)
theorem a2m {z:Str} {g h:c7} (h1:g.1.length=h.1.length) (h2:g.2.length=h.2.length) (xs:List Int):r9 (v8 z g) xs=D5 g (pgA h xs) (psA z h xs) - O5 g (ptA h xs):=by
 unfold v8 D5 O5;rw [a9I,aA,a0p,h1,h2,E8 (E2 z)];dsimp only [r9,ptA,pgA,psA];lia
theorem a5i {z:Str} {h:c7} (xs:List Int):r9 (N6 z h) xs=O5 h (ptA h xs):=by
 unfold N6 O5;rw [a9I,N3,N3];dsimp only [r9,ptA,pgA,psA];lia
theorem a5t {z:Str} {h:c7} (xs:List Int):r9 (M7 z h) xs=D5 h (pgA h xs) (psA z h xs):=by
 unfold M7 D5;rw [a9I,N3,aX,E8 (E2 z)];dsimp only [r9,ptA,pgA,psA];lia
theorem a5J (rows:List (List Int)) (r:List Int) (j:Nat):col (rows++[r]) j=col rows j++[r.getD j 0]:=by
 unfold col;rw [bC]; rfl
theorem V3 {a b:List Int} {x y:Int} (h:a.length=b.length):r9 (a++[x]) (b++[y])=r9 a b+x*y:=a4Y h
theorem a0d (s:Int):∀ (hs:List c7) (ws:List Int),hs.length=ws.length->r9 (hs.map λ _=>s) ws=s*ws.sum
 | [],[],_=>by simp [r9]
 | _::hs,w::ws,h=>by
  have:=a0d s hs ws (by simpa using h);unfold r9 at *;rw [bJ,cH,bW,this,bW,fQ]
 | [],_::_,h=>by simp at h
 | _::_,[],h=>by simp at h
section
variable {z:Str} {hs:List c7} {h:c7} {kt kg:Nat} (hk:∀ g∈hs,g.1.length=kt/\g.2.length=kg)
include hk
theorem a3U (ws:List Int) {j:Nat} (hj:j<kt):r9 (col (hs.map (v8 z)) j) ws = - D6 hs ws 0 j:=by
 have e:col (hs.map (v8 z)) j=(col (hs.map (K2 0)) j).map λ y=>-y:=by
  unfold col;rw [aM,aM,aM];refine cP λ g hg=>?_
  show (v8 z g).getD j 0 = - (K2 0 g).getD j 0
  have:=hk g hg;unfold v8;rw [T1,aA,if_pos (by lia),a0W]; rfl
 rw [e,a0p]; rfl
theorem a4d (ws:List Int) {j:Nat} (hj:j<kg):r9 (col (hs.map (v8 z)) (kt+j)) ws=D6 hs ws 1 j:=by
 have e:col (hs.map (v8 z)) (kt+j)=col (hs.map (K2 1)) j:=by
  unfold col;rw [aM,aM];refine cP λ g hg=>?_
  show (v8 z g).getD (kt+j) 0=(K2 1 g).getD j 0
  have:=hk g hg;unfold v8;rw [T1,aA,if_neg (by lia),if_pos (by lia),this.1,eI]; rfl
 rw [e]; rfl
theorem a5P {ws:List Int} (hw:hs.length=ws.length) (t:Nat):r9 (col (hs.map (v8 z)) (kt+kg+t)) ws=(E2 z).getD t 0*ws.sum:=by
 have e:col (hs.map (v8 z)) (kt+kg+t)=hs.map λ _=>(E2 z).getD t 0:=by
  unfold col;rw [aM];refine cP λ g hg=>?_
  show (v8 z g).getD (kt+kg+t) 0=_
  have:=hk g hg;unfold v8;rw [T1,aA,if_neg (by lia),if_neg (by lia),this.1,this.2,eI]
 rw [e,a0d _ _ _ hw]
end
structure b6X (z:Str) (hs:List c7) (h:c7) (S:Lp.Bo) (kt kg:Nat) (ws:List Int):Prop where
 lw:ws.length=hs.length
 nn:∀ x∈ws,0<=x/\Big 20000 x
 size:a3y z ws.sum S.d
 takes:∀ j,j<kt->D6 hs ws 0 j<=h.1.getD j 0*S.T (mE hs) (qE z h)
 gives:∀ j,j<kg->h.2.getD j 0*S.d<=D6 hs ws 1 j
 pos:0<S.T (mE hs) (qE z h)
 le:h∈hs->S.T (mE hs) (qE z h)<=S.d
 fair:∀ g∈hs,D5 g (pgA h (p6 (mE hs) (qE z h) S)) (psA z h (p6 (mE hs) (qE z h) S))<=O5 g (ptA h (p6 (mE hs) (qE z h) S))
 pays:O5 h (ptA h (p6 (mE hs) (qE z h) S))=S.d
 earns:D5 h (pgA h (p6 (mE hs) (qE z h) S)) (psA z h (p6 (mE hs) (qE z h) S))=S.T (mE hs) (qE z h)
 pr:PrN (ptA h (p6 (mE hs) (qE z h) S)) (pgA h (p6 (mE hs) (qE z h) S)) (psA z h (p6 (mE hs) (qE z h) S)) S.d kt kg
 sign:a2V z (psA z h (p6 (mE hs) (qE z h) S))
theorem a2B {z:Str} {xs:List Int} (hz:Q9 z) (nn:∀ x∈xs,0<=x):a2V z (r9 xs (E2 z)):=by
 rcases hz with rfl | rfl | rfl | rfl
 ·have:r9 xs (E2 "any")=0:=by show (bB _ xs []).sum=0; simp
  rw [this]; exact ⟨λ _=>bL _,λ _=>bL _⟩
 ·exact ⟨λ h=>absurd h (by decide),λ h=>absurd h (by decide)⟩
 ·refine ⟨λ _=>?_,λ h=>absurd h (by decide)⟩
  show (bB _ xs [-1]).sum<=0
  cases xs with
  | nil=>simp
  | cons x r=>have:=nn x (.head _); simp; lia
 ·refine ⟨λ h=>absurd h (by decide),λ _=>?_⟩
  show 0<=(bB _ xs [1]).sum
  cases xs with
  | nil=>simp
  | cons x r=>have:=nn x (.head _); simp; lia
theorem a5T {z:Str} {xs:List Int} (h:∀ x∈xs,Big 4000 x) (hl:xs.length<=200):Big 5000 (r9 xs (E2 z)):=by
 have:∀ y∈E2 z,Big 100 y:=λ y hy=>eK (a0f z y hy) (iB (by decide) (by decide));exact (a2u (a3g h this) (by rw [eL]; lia)).mono (by decide)
theorem a7F {z:Str} {hs:List c7} {h:c7} {S:Lp.Bo} {far:Int} {kt kg:Nat} (hz:Q9 z) (B:Best z hs h S) (hG:∀ g∈hs,HG far kt kg g) (gh:HG far kt kg h) (kt1:1<=kt) (kt4:kt<=20) (kg4:kg<=20) :
  b6X z hs h S kt kg ((D7 (mE hs) (qE z h) S).take hs.length):=by
 obtain ⟨O,hn,sz⟩:=B;have hk:∀ g∈hs,g.1.length=kt/\g.2.length=kg:=λ g hg=>⟨(hG g hg).lt,(hG g hg).lg⟩;have sg:=a0a z;generalize hm:mE hs=m at *;generalize hq:qE z h=q at *;have hm':m=hs.length+1:=hm.symm;have hq':q=kt+kg+(E2 z).length:=by rw [<- hq]; show h.1.length+h.2.length+_=_; rw [gh.lt,gh.lg]
 replace O:Lp.Of m q (T4 (C4 z hs h)) (E7 (M9 hs)) (E7 (M7 z h)) S:=by rw [hm',<- hq]; exact O
 have lr:(C4 z hs h).length=m:=by unfold C4; simp [hm']
 have lrow:∀ g∈hs,(v8 z g).length=q:=λ g hg=>by unfold v8; simp [(hk g hg).1,(hk g hg).2,hq']; lia
 have lpaid:(N6 z h).length=q:=by unfold N6; simp [gh.lt,gh.lg,hq']; lia
 have lgoal:(M7 z h).length=q:=by unfold M7; simp [gh.lt,gh.lg,hq']; lia
 have lb:(M9 hs).length=m:=by unfold M9; simp [hm']
 have la:(p6 m q S).length=q:=by unfold p6; simp
 have lw:(D7 m q S).length=m:=by unfold D7; simp
 have hsp:D7 m q S=(D7 m q S).take hs.length++[Lp.valOut m q S (q+hs.length)]:=by rw [hm']; exact a4b
 generalize hws:(D7 m q S).take hs.length=ws at *;generalize hwn:Lp.valOut m q S (q+hs.length)=wn at *;have lws:ws.length=hs.length:=by rw [<- hws,bU,lw]; lia
 have wnn:∀ x∈ws,0<=x/\Big 20000 x:=λ x hx=>by
  have hx':x∈D7 m q S:=by rw [hsp]; exact dC _ hx
  refine ⟨b0A hn x hx',?_⟩;unfold D7 at hx';obtain ⟨k,hk',rfl⟩:=aK.mp hx';exact (a7Q O sz (by have:=bO.mp hk'; lia)).mono (by decide)
 have pos:=O.w.pos;have eT:wn=S.T m q:=by
  have:=a7s O lb;rw [hsp] at this;unfold M9 at this;rw [V3 (by rw [aX]; exact lws.symm),N3] at this;lia
 have colA:∀ j,r9 (col (C4 z hs h) j) (D7 m q S)=r9 (col (hs.map (v8 z)) j) ws+(N6 z h).getD j 0*wn:=λ j=>by
  rw [hsp];unfold C4;rw [a5J,V3 (by unfold col; rw [aA,aA,lws])]
 have tk:∀ j,j<kt->D6 hs ws 0 j<=h.1.getD j 0*wn:=λ j hj=>by
  have:=a0o O hn lr (j:=j) (by lia);rw [colA,a3U hk ws hj] at this;unfold M7 N6 at this;rw [T1,T1,aX,if_pos (by rw [gh.lt]; lia),if_pos (by rw [gh.lt]; lia),J4] at this;lia
 have gv:∀ j,j<kg->h.2.getD j 0*S.d<=D6 hs ws 1 j:=λ j hj=>by
  have:=a0o O hn lr (j:=kt+j) (by lia);rw [colA,a4d hk ws hj] at this;unfold M7 N6 at this;rw [T1,T1,aX,aX,gh.lt,gh.lg,if_neg (by lia),if_pos (by lia),if_neg (by lia),if_pos (by lia),eI,J4] at this;lia
 have szc:∀ t,t<(E2 z).length->(E2 z).getD t 0*S.d<=(E2 z).getD t 0*ws.sum:=λ t ht=>by
  have:=a0o O hn lr (j:=kt+kg+t) (by lia);rw [colA,a5P hk lws.symm t] at this;unfold M7 N6 at this;rw [T1,T1,aX,aX,gh.lt,gh.lg,if_neg (by lia),if_neg (by lia),if_neg (by lia),if_neg (by lia),eI,J4] at this;lia
 have size:a3y z ws.sum S.d:=by
  rcases hz with rfl | rfl | rfl | rfl
  ·exact ⟨λ h=>absurd h (by decide),λ h=>absurd h (by decide)⟩
  ·have s0:(1:Int)*S.d<=1*ws.sum:=szc 0 (by decide)
   have s1:(-1:Int)*S.d <= -1*ws.sum:=szc 1 (by decide);exact ⟨λ _=>by lia,λ _=>by lia⟩
  ·have s1:(-1:Int)*S.d <= -1*ws.sum:=szc 0 (by decide)
   exact ⟨λ _=>by lia,λ h=>absurd h (by decide)⟩
  ·have s0:(1:Int)*S.d<=1*ws.sum:=szc 0 (by decide)
   exact ⟨λ h=>absurd h (by decide),λ _=>by lia⟩
 have posT:0<wn:=by
  obtain ⟨y,hy,y0⟩:=gh.p;obtain ⟨j,hj⟩:=cR hy;have hjl:j<kg:=by have:=(aU.mp hj).1; rw [gh.lg] at this; exact this
  have yD:h.2.getD j 0=y:=by rw [aG,hj]; rfl
  have g1:=gv j hjl;rw [yD] at g1;have g2:0<D6 hs ws 1 j:=gC (cO y0 pos) g1;have nnc:∀ x∈col (hs.map (K2 1)) j,0<=x:=λ x hx=>by
   unfold col at hx;obtain ⟨r,hr,rfl⟩:=aK.mp hx;obtain ⟨g,hg,rfl⟩:=aK.mp hr;have hg':=hG g hg;have hl:j<(K2 1 g).length:=by show j<g.2.length; rw [hg'.lg]; exact hjl
   rw [aG,aF hl];exact (hg'.g _ (cD hl)).1
  obtain ⟨k,hk1,hk2⟩:=a0B nnc (λ x hx=>(wnn x hx).1) g2;have pc:∀ x∈col (hs.map (K2 0)) 0,0<x:=λ x hx=>by
   unfold col at hx;obtain ⟨r,hr,rfl⟩:=aK.mp hx;obtain ⟨g,hg,rfl⟩:=aK.mp hr;have hg':=hG g hg;have hl:0<(K2 0 g).length:=by show 0<g.1.length; rw [hg'.lt]; lia
   rw [aG,aF hl];have:=(hg'.t _ (cD hl)).1
   show 0<(K2 0 g)[0]
   lia
  have g3:0<D6 hs ws 0 0:=a0H pc (λ x hx=>(wnn x hx).1) (by unfold col; rw [aA,aA,lws]) ⟨k,hk1,hk2⟩;have g4:=tk 0 (by lia);have hl:0<h.1.length:=by rw [gh.lt]; lia
  have h0:1<=h.1.getD 0 0:=by
   rw [aG,aF hl];exact (gh.t _ (cD hl)).1
  have g5:0<h.1.getD 0 0*wn:=gC g3 g4
  by_cases hw:0<wn
  ·exact hw
  ·have:=cF (show 0<=h.1.getD 0 0 by lia) (show 0 <= -wn by lia)
   rw [cY] at this;lia
 have fair:∀ g∈hs,D5 g (pgA h (p6 m q S)) (psA z h (p6 m q S))<=O5 g (ptA h (p6 m q S)):=λ g hg=>by
  obtain ⟨k,hk'⟩:=cR hg;have hkl:=(aU.mp hk').1;have hr:(C4 z hs h)[k]?=some (v8 z g):=by
   unfold C4;rw [bK (by rw [aA]; exact hkl),aE,hk']; rfl
  have:=a2k O (i:=k) (by lia) hr (lrow g hg);rw [a2m (h:=h) (by rw [(hk g hg).1,gh.lt]) (by rw [(hk g hg).2,gh.lg])] at this;unfold M9 at this;rw [A8,aX,if_pos hkl,J4,dG] at this;lia
 have hr:(C4 z hs h)[hs.length]?=some (N6 z h):=by
  unfold C4;rw [bZ (by rw [aA]; exact aH _),aA,eF]; rfl
 have pays:O5 h (ptA h (p6 m q S))=S.d:=by
  have:=a3B O hn (i:=hs.length) (by lia) hr lpaid (by rw [hwn]; exact posT);rw [a5i] at this;unfold M9 at this;rw [A8,aX,if_neg (by lia),eF] at this;rw [this];exact dP _
 have earns:D5 h (pgA h (p6 m q S)) (psA z h (p6 m q S))=S.T m q:=by rw [<- a5t]; exact a3o O lgoal
 have anb:∀ x∈p6 m q S,0<=x/\Big 4000 x:=λ x hx=>by
  refine ⟨a4E O x hx,?_⟩;unfold p6 at hx;obtain ⟨k,hk',rfl⟩:=aK.mp hx;exact a7z O sz (bO.mp hk')
 have d4:S.d<2 ^ 4000:=by
  have h1:S.d.natAbs<2 ^ 4000:=sz.2;have h3:S.d=(S.d.natAbs:Int):=by lia
  rw [h3]
  exact_mod_cast h1
 refine ⟨lws,wnn,size,λ j hj=>?_,gv,?_,?_,?_,?_,?_,?_,?_⟩
 ·rw [hm,hq,<- eT]; exact tk j hj
 ·rw [hm,hq,<- eT]; exact posT
 ·intro hin; rw [hm,hq,<- earns,<- pays]; exact fair h hin
 ·rw [hm,hq]; exact fair
 ·rw [hm,hq]; exact pays
 ·rw [hm,hq]; exact earns
 ·rw [hm,hq]
  refine ⟨?_,?_,λ x hx=>?_,λ x hx=>?_,?_,pos,d4⟩
  ·rw [bU,la,gh.lt]; lia
  ·rw [bU,cW,la,gh.lt,gh.lg]; lia
  ·have:=anb x (dQ hx)
   exact ⟨this.1,this.2.mono (by decide)⟩
  ·have:=anb x (dR (dQ hx))
   exact ⟨this.1,this.2.mono (by decide)⟩
  ·exact a5T (λ x hx=>(anb x (dR hx)).2) (by rw [cW,la]; lia)
 ·rw [hm,hq]
  exact a2B hz λ x hx=>(anb x (dR hx)).1
end Rim
namespace L2
open PySem PySem.Spec PyProof.Rows
theorem a8K {P:Program} {w:World} {K:W.Frag} {mg mb:Str->Option Value} {CX:CXT} {k:Nat} {fa a:Addr} {fd:FuncData} {x:Str} {sp:Sp} {s₁:Shared} {vs:List Value} {ns:List Int} {Ps:List Addr}
  (KX:K.In s₁.heap) (hns:s₁.heap.Ns mainGlobals mg) (hb:s₁.heap.Ns builtinsNs mb) (hbb:∀ x:Str,x≠"__name__"->mb x=bootBuiltins x) (hlim:s₁.heap.NoLimit) (hg:s₁.gens=#[])
  (ha:s₁.heap.get? a=some { cls:=.type "list",data:=.seq vs.toArray }) (hi:IntsAre vs ns) (hl:ns.length<=sizeLine) (hr:Room k callerA)
  (hT:∀ p∈Ps,∃ c,s₁.heap.TableAt c p #[]) (hKP:∀ p∈Ps,K.lookup p=none) (BM:X5 mg s₁.heap)
  (F:∀ base:Heap,K.In base->base.Ns mainGlobals mg->X5 mg base->FnOk P w K mg base CX k fa fd [x] sp) (hbind:∀ (s:Shared) (u:Value),BindsTo s fd ⟨[u],[]⟩ [(x,u)])
  (hsp:∀ H:Hp,(∀ p∈Ps,H p=some (.tbl #[]))->SqL K H a (ns.map V.int)->sp [.ref a] H (λ v _=>v=.bl true) λ _ _ _=>False)
  (hCX:∀ H e s',CX [] H s₁ (λ _ _ _=>False) e s'->False) :
  codeAny (model P w) callerA (.call (.ref fa) ⟨[.ref a],[]⟩) (λ r s'=>r=.ok (.ret (.bool true))/\OldK s₁.heap s'.heap/\s'.os=s₁.os/\AllBare s'.gens) s₁:=by
 have rv:=a4j hi;have lenV:=hi.length;have tabObj:∀ p∈Ps,s₁.heap.get? p=some { cls:=.none,data:=.fields #[] }:=λ p hp=>by
  obtain ⟨c,z⟩:=hT p hp;exact z.2
 have core:∀ H:Hp,(∀ b,H b=none\/(∃ o xs,H b=some (.frz o (.lst xs)))\/(b∈Ps/\H b=some (.tbl #[])))->(∀ p∈Ps,H p=some (.tbl #[]))->SqL K H a (ns.map V.int)->HOk P w H s₁.heap->(∀ b,H b≠none->b=a\/b∈Ps)->(H a≠none->K.lookup a=none) →
   codeAny (model P w) callerA (.call (.ref fa) ⟨[.ref a],[]⟩) (λ r s'=>r=.ok (.ret (.bool true))/\OldK s₁.heap s'.heap/\s'.os=s₁.os/\AllBare s'.gens) s₁:=by
  intro H hO hP hS hok hA hK;have base_of:∀ {b:Addr} {o:Obj},s₁.heap.get? b=some o->H b=none->(a3I s₁.heap H).get? b=some o:=λ e n=>b0v e n;have noA:∀ {b:Addr} {o:Obj} {es:Array DictEntry} {ep:Nat},s₁.heap.get? b=some o->o.data=.dict es ep->H b=none:=λ {b o es ep} e d=>by
   cases q:H b with
   | none=>rfl
   | some u =>
    rcases hA b (by rw [q]; simp) with e' | e'
    ·subst e'
     rw [ha] at e; cases e;have d':Data.seq vs.toArray _=Data.dict es ep:=d
     cases d'
    ·rw [tabObj b e'] at e; cases e
     have d':Data.fields #[]=Data.dict es ep:=d
     cases d'
  have nsK:∀ {b:Addr} {m:Str->Option Value},s₁.heap.Ns b m->(a3I s₁.heap H).Ns b m:=λ {b m} ⟨o,es,ep,e,d,r⟩=>⟨o,es,ep,base_of e (noA e d),d,r⟩;have hKb:K.In (a3I s₁.heap H):=λ b o e=>base_of (KX b o e) (by
   cases q:H b with
   | none=>rfl
   | some u =>
    rcases hA b (by rw [q]; simp) with e' | e'
    ·subst e'
     rw [hK (by rw [q]; simp)] at e; cases e
    ·rw [hKP b e'] at e; cases e)
  have hM:Mod K mg (a3I s₁.heap H):=⟨hKb,nsK hns,⟨mb,nsK hb,hbb⟩,let ⟨mc,h1,h2⟩:=hlim; ⟨mc,nsK h1,h2⟩⟩;have BM':X5 mg (a3I s₁.heap H):=by
   obtain ⟨bm,ob,b1,b2,b3,b4,b5,b6⟩:=BM;refine ⟨bm,ob,b1,b2,base_of b3 ?_,b4,b5,b6⟩
   cases q:H bm with
   | none=>rfl
   | some u =>
    rcases hA bm (by rw [q]; simp) with e' | e'
    ·subst e'
     rw [ha] at b3; cases b3; exact absurd b4 (by intro z; injection z with z; exact absurd z (by decide))
    ·rw [tabObj bm e'] at b3; cases b3; cases b4
  have e0:Env0 P w K mg (a3I s₁.heap H) callerA [] s₁ H:=⟨rfl,hM,λ b o e=>b1w e,jQ (a8H _ _),trivial,λ b hb=>absurd (show b∈([]:List Addr) from hb) (by simp),hok,.of_eq hg⟩;refine codeAny_mono ((F _ hKb (nsK hns) BM').run callerA [] s₁ H ⟨[.ref a],[]⟩ [.ref a] [.ref a] _ _ hr e0 (hbind s₁ (.ref a)) (.cons rfl .nil) (hsp H hP hS)) λ r s' h=>?_
  cases r with
  | error e=>exact (hCX H e s' h).elim
  | ok fl =>
   cases fl with
   | next=>exact cZ h
   | brk=>exact cZ h
   | cont=>exact cZ h
   | ret u =>
    obtain ⟨v,H',os,bare,un,hok',r',q⟩:=h;have q':v=.bl true:=q;subst q';obtain rfl:u=Value.bool true:=r';refine ⟨rfl,⟨λ b o e=>?_,λ b o e=>un.there b o e (by simp)⟩,os,bare⟩;rcases hO b with q | ⟨ob,xs,z⟩ | ⟨hbP,z⟩
    ·exact .inl (un.keep b o e q (by intro z; exact absurd (show b∈([]:List Addr) from z) (by simp)) (by simp))
    ·have z2:=un.frzs b ob _ z
     obtain ⟨e1,_⟩:=hok b _ z;obtain ⟨e2,_⟩:=hok' b _ z2;rw [e] at e1; cases e1;exact .inl e2
    ·obtain ⟨more,z2⟩:=un.tbls b _ z
     have e2:s'.heap.get? b=some { cls:=.none,data:=.fields (#[]++more) }:=hok' b _ z2;rw [tabObj b hbP] at e; cases e;obtain ⟨c,ht⟩:=hT b hbP;exact .inr (.inl ⟨ht.isCodeTable,rfl,#[],more,rfl,e2⟩)
 have aP:a ∉ Ps:=λ z=>by
  have:=tabObj a z;rw [ha] at this; cases this
 cases hk:K.lookup a with
 | some o =>
  have e:=KX a o hk;rw [ha] at e
  cases e;refine core (λ b=>if b∈Ps then some (.tbl #[]) else none) (λ b=>?_) (λ p hp=>if_pos hp) (.inr ⟨_,vs.toArray,_,hk,rfl,rfl,rfl,by rw [bD,lenV]; exact hl,by simpa using rv⟩) (λ b u z=>?_) (λ b z=>?_) λ z=>absurd (if_neg aP) z
  ·by_cases hb:b∈Ps
   ·exact .inr (.inr ⟨hb,if_pos hb⟩)
   ·exact .inl (if_neg hb)
  ·by_cases hb:b∈Ps
   ·have z':=(if_pos hb).symm.trans z
    cases z';exact tabObj b hb
   ·have z':=(if_neg hb).symm.trans z
    cases z'
  ·by_cases hb:b∈Ps
   ·exact .inr hb
   ·exact absurd (if_neg hb) z
 | none =>
  refine core (λ b=>if b=a then some (.frz { cls:=.type "list",data:=.seq vs.toArray } (.lst (ns.map V.int))) else if b∈Ps then some (.tbl #[]) else none) (λ b=>?_) (λ p hp=>?_) (.inl (.inr ⟨{ cls:=.type "list",data:=.seq vs.toArray },if_pos rfl⟩)) (λ b u z=>?_) (λ b z=>?_) λ _=>hk
  ·by_cases hb:b=a
   ·exact .inr (.inl ⟨_,_,if_pos hb⟩)
   ·by_cases hb2:b∈Ps
    ·exact .inr (.inr ⟨hb2,(if_neg hb).trans (if_pos hb2)⟩)
    ·exact .inl ((if_neg hb).trans (if_neg hb2))
  ·have hb:p≠a:=λ z=>aP (z ▸ hp)
   exact (if_neg hb).trans (if_pos hp)
  ·by_cases hb:b=a
   ·have z':=(if_pos hb).symm.trans z
    cases z';subst hb;exact ⟨ha,by rw [aA]; exact hl,vs,_,rv,ha⟩
   ·by_cases hb2:b∈Ps
    ·have z':=((if_neg hb).trans (if_pos hb2)).symm.trans z
     cases z';exact tabObj b hb2
    ·have z':=((if_neg hb).trans (if_neg hb2)).symm.trans z
     cases z'
  ·by_cases hb:b=a
   ·exact .inl hb
   ·by_cases hb2:b∈Ps
    ·exact .inr hb2
    ·exact absurd ((if_neg hb).trans (if_neg hb2)) z
theorem walk_ofT {l:W.OpenLaw} {n k:Nat} {q:Program} {loose:List Str} {XP:(Str->Option Value)->Heap->Prop} {YP:World->Heap->Prop} {d:DefRec} {K:Params->W.Frag} {CX:World->CXT} {sp:World->Sp} {x:Str} {Ts:List (Addr×Addr)}
  (hn:l.most=some n) (hn2:n<=sizeLine) (hdf:d.params.defaults=[]) (hr:Room k callerA)
  (hY:∀ (w:World) (h:Heap),YP w h->(K w.params).In h/\∀ t∈Ts,h.get? t.2=some (W.tabObj #[]))
  (hC:∀ (w:World),∀ t∈Ts,W.codeHdIn (K w.params) t.1 t.2=true/\(K w.params).lookup t.2=none)
  (F:∀ (w:World) (mg:Str->Option Value) (fa:Addr) (h:Heap),(K w.params).In h->h.Ns mainGlobals mg->mg d.name=some (.ref fa) →
   ∃ fd:FuncData,(∀ (s:Shared) (u:Value),BindsTo s fd ⟨[u],[]⟩ [(x,u)]) ∧
    ∀ base:Heap,(K w.params).In base->base.Ns mainGlobals mg->X5 mg base->(∀ t∈Ts,W.CodeHd base t.1 t.2)->FnOk l.prog w (K w.params) mg base (CX w) k fa fd [x] (sp w))
  (hsp:∀ (w:World) (H:Hp) (a:Addr) (ns:List Int),ns.length<=n->(∀ t∈Ts,H t.2=some (.tbl #[]))->SqL (K w.params) H a (ns.map V.int)->sp w [.ref a] H (λ v _=>v=.bl true) λ _ _ _=>False)
  (hCX:∀ (w:World) (H:Hp) (s:Shared) (e:Value) (s':Shared),CX w [] H s (λ _ _ _=>False) e s'->False) :
  W.WalkO q loose XP YP l.row.toRowW d [] (λ f vs=>iL f vs):=by
 refine Att.attach_call hn hdf λ w s₀ s₁ mg mb fa o pm cd doc a vs ns G Y ho hd hcd hmg hobj hints hlen hg=>?_;obtain ⟨KX,hTb⟩:=hY w _ Y;obtain ⟨fd,hb,hF⟩:=F w mg fa _ KX G.T.g hmg;have mem:∀ p∈Ts.map (·.2),∃ t∈Ts,t.2=p:=λ p hp=>by
  obtain ⟨t,h1,h2⟩:=aK.mp hp;exact ⟨t,h1,h2⟩
 refine a8K (Ps:=Ts.map (·.2)) KX G.T.g G.T.b G.T.builtins G.T.nolimit hg hobj hints (aZ hlen hn2) hr (λ p hp=>?_) (λ p hp=>?_) G.T.bmain (λ base kb nb bm=>hF base kb nb bm λ t ht=>W.codeHd_of_K kb (hC w t ht).1) hb (λ H hP hS=>hsp w H a ns hlen (λ t ht=>hP _ (List.mem_map_of_mem ht)) hS) λ H e s'=>hCX w H s₁ e s'
 ·obtain ⟨t,h1,rfl⟩:=mem p hp
  exact ⟨t.1,(W.codeHd_of_K KX (hC w t h1).1).tab (hTb t h1)⟩
 ·obtain ⟨t,h1,rfl⟩:=mem p hp
  exact (hC w t h1).2
end L2
namespace L2
open PySem
theorem Q8 {X:Cx} {P:Program} {w:World}:X4 (CX1 P w) X E0:=λ _ _ _ _ _ _ _ ⟨_,_,_,_,_,_,_,h⟩=>h.elim
theorem Same.to1 {P:Addr} {H H':Hp} (e:Same H H'):Same1 P H H':=λ b o _ h=>e b o h
theorem Same1.refl {P:Addr} {H:Hp}:Same1 P H H:=λ _ _ _ h=>h
theorem Same1.trans {P:Addr} {H H1 H2:Hp} (a:Same1 P H H1) (b:Same1 P H1 H2):Same1 P H H2:=λ c o n h=>b c o n (a c o n h)
theorem Same1.write {P a:Addr} {H H':Hp} {o:HO} (e:Same1 P H H') (h:H a=none):Same1 P H (upd H' a o):=λ b u n q=>by
 rw [i3 (i4 q h)]; exact e b u n q
theorem Same1.get {P:Addr} {pos:Pos} {qual:Str} {H H':Hp} {b:Addr} {o:HO} (T:LamTab P pos qual H) (e:Same1 P H H') (h:H b=some o) (n:∀ ps,o≠.tbl ps):H' b=some o:=e b o (λ z=>by
 subst z;rcases T with t | ⟨c,t,_⟩
 ·rw [h] at t; exact n _ (aS t)
 ·rw [h] at t; exact n _ (aS t)) h
theorem LamTab.write {P a:Addr} {pos:Pos} {qual:Str} {H:Hp} {xs:List V} {o:HO} (T:LamTab P pos qual H) (h:H a=some (.lst xs)):LamTab P pos qual (upd H a o):=by
 rcases T with e | ⟨c,e1,e2⟩
 ·exact .inl (by rw [i3 (λ z=>by rw [z,h] at e; cases e)]; exact e)
 ·exact .inr ⟨c,by rw [i3 (λ z=>by rw [z,h] at e1; cases e1)]; exact e1,by rw [i3 (λ z=>by rw [z,h] at e2; cases e2)]; exact e2⟩
end L2
namespace Rim
open PySem L2 Fr
theorem K1 {j:Nat} (h:j<=1000):((j:Int)).natAbs.log2<1920:=by
 rw [Int.natAbs_natCast]
 by_cases h0:j=0
 ·subst h0; decide
 ·exact lF ((iO h0).mpr (eK h (show 1000<2 ^ 10 by decide))) (by decide)
end Rim
namespace Lp
section
variable {m q:Nat} {A:Nat->Nat->Int} {b c:Nat->Int} {S:Bo}
theorem Of.bounded1 (O:Of m q A b c S) {l cc:Nat} (hl:l<m) (hA:∀ j,j<q->A l j=c j) (hc:cc<q) (neg:S.T m cc<0) (no:∀ i,i<m->¬ 0<S.T i cc):False:=by
 have K0:=(O.k _).mp (O.w.ray_ker (c:=cc) (by omega));obtain ⟨rows,goal⟩:=ker0.mp K0;have zc:ray m S cc (q+m+1)=0:=by
  rw [<- O.w.oq];exact O.w.ray_out (by omega) (by omega) (by omega)
 have zg:ray m S cc (q+m) = - S.T m cc:=by
  rw [<- O.w.im];exact O.w.ray_in (by omega) (by omega)
 have nl:0<=ray m S cc (q+l):=by
  rcases O.w.all (q+l) (by omega) with ⟨i,hi,e⟩ | ⟨j,hj,e⟩
  ·rw [<- e,O.w.ray_in (by omega) (by omega)]
   have:=no i hi;omega
  ·rw [<- e]
   by_cases hjc:j=cc
   ·subst hjc
    rw [Wf.ray_c];exact aL O.w.pos
   ·rw [O.w.ray_out (by omega) (by omega) hjc]; exact bL _
 have rl:=rows l hl;rw [zc,bM,dO] at rl;have e:sumTo (λ j=>c j*ray m S cc j) q=sumTo (λ j=>A l j*ray m S cc j) q:=sum_congr λ j hj=>by rw [hA j hj]
 rw [zg,e] at goal;omega
end
end Lp
namespace Rim
open PySem L2 Fr
def V1 (z:Str) (g:c7):List Int:=v8 z g++[g.2.sum - g.1.sum]
def M4 (z:Str) (h:c7):List Int:=aI (h.1.length+h.2.length+(E2 z).length) 0++[1]
def M2 (z:Str) (hs:List c7) (h:c7):List (List Int):=hs.map (V1 z)++[(V1 z h).map (λ x=>-x),M4 z h]
def a0r (hs:List c7):List Int:=aI hs.length 0++[0,1]
abbrev mF (hs:List c7):Nat:=hs.length+2
abbrev qF (z:Str) (h:c7):Nat:=h.1.length+h.2.length+(E2 z).length+1
abbrev OfF (z:Str) (hs:List c7) (h:c7) (S:Lp.Bo):Prop:=Lp.Of (mF hs) (qF z h) (T4 (M2 z hs h)) (E7 (a0r hs)) (E7 (M4 z h)) S
def a7r (z:Str) (hs:List c7) (h:c7) (S:Lp.Bo):Prop:=OfF z hs h S/\(∀ j,j<qF z h->¬ S.T (mF hs) j<0)/\Sz 4000 (mF hs) (qF z h) S
theorem b2u:(["takes","gives"]:List Str).Nodup:=by decide +kernel
theorem b2L:(["row","floor"]:List Str).Nodup:=by decide +kernel
theorem b5v:(["one"]:List Str).Nodup:=by decide +kernel
section
variable {P:Program} {w:World} {K:W.Frag} {mg:Str->Option Value} {base:Heap} {f Pt d:Addr} {fd:FuncData} {n:Nat} {C:Addr}
def a7T (K:W.Frag) (Pt:Addr):Sp:=λ vs H Q _=>∃ (ba:Addr) (xs:List V) (hs:List c7) (i:Nat) (h:c7) (z:Str) (far:Int) (kt kg:Nat),vs=[.ref ba,.int i,.str z]/\Q9 z/\BookIn K H ba xs hs far kt kg/\far<=2 ^ 50/\hs[i]?=some h/\LT Pt H ∧
 ∀ (S:Lp.Bo) (H':Hp) (t aa wa:Addr),a7r z hs h S->Same1 Pt H H'->LT Pt H'->H' t=some (.tup [.int (S.T (mF hs) (qF z h)),.ref aa,.ref wa,.int S.d]) →
  H' aa=some (.lst ((p6 (mF hs) (qF z h) S).map V.int))->H' wa=some (.lst ((D7 (mF hs) (qF z h) S).map V.int))->Q (.ref t) H'
theorem scFl:m6 ["houses","number","sizes","rows","floors","firm","goal"] ["houses","number","sizes"] (i5 a1z):=⟨rfl,rfl,rfl,by decide +kernel,rfl,by decide +kernel,by decide +kernel⟩
noncomputable def flT {cdv:Value} {A:Around} {outer:List Env} {s:Shared} {H:Hp} {E:XK} {f1 f2:Addr} {d1 d2:FuncData} (N:w8 mg) (Cg:D3 P w K mg base n "greatest" ["goal","rows","bounds"] (L0 K C Pt) f1 d1) (Ch:D3 P w K mg base n "house_rows" ["houses","sizes"] (F0 K) f2 d2)
  (hr:Room n (A.deeper (dB "greatest_floor" (i5 a1z) s.heap.objs.size f cdv))) :
  { t:TS // PSs (M0 E4 P w K mg base ["houses","number","sizes","rows","floors","firm","goal"] "greatest_floor" (i5 a1z) f cdv A outer s H E).nox (v5 a1z) t } :=
 ⟨_,i6 (j4 (i:=3) scFl.nd rfl (aC rfl) (i9 Ch.ok hr rfl Ch.m Ch.k Ch.b .nil r8 (c5 (pv 0) (c5 (pv 2) c6))))
  (m8 (X9 (i:=4) ["takes","gives"] [] scFl.nd rfl rfl rfl (w4 (pv 0)) (λ _ _ _ _=>D9 K (n:=2) rfl rfl (j3 (i7 (i:=0) b2u rfl (aC rfl)) (j3 (i7 (i:=1) b2u rfl (aC rfl)) v7)))
   (λ _ _ _ _=>j0 a2U (j9 (b0j K rfl rfl) rfl N.sum jD (c5 (pv 1) c6)) (j9 (b0j K rfl rfl) rfl N.sum jD (c5 (pv 0) c6))))
  (m8 (X9 (i:=3) ["row","floor"] [] scFl.nd rfl rfl rfl (a3i true true K rfl rfl N.zip (c5 (pv 3) (c5 (pv 4) c6))) (λ _ _ _ _=>D9 K (n:=2) rfl rfl (j3 (i7 (i:=0) b2L rfl (aC rfl)) (j3 (i7 (i:=1) b2L rfl (aC rfl)) v7)))
   (λ _ _ _ _=>j0 B6 (pv 0) (v6 (c5 (pv 1) c6))))
  (m8 (X9 (i:=5) ["one"] [] scFl.nd rfl rfl rfl (w4 (j7 j5 (pv 3) (pv 1) (λ _ _=>rfl))) (λ _ _ _ _=>i7 (i:=0) b5v rfl (aC rfl)) (λ _ _ _ _=>R1 K5 (pv 0)))
  (m8 (j4 (i:=6) scFl.nd rfl (aC rfl) (j0 B6 (j0 Q7 (v6 (c5 d0 c6)) (j0 a2U (j9 j6 rfl N.len bR (c5 (pv 5) c6)) d0)) (v6 (c5 d0 c6))))
  (i8 (r6 (i9 Cg.ok hr rfl Cg.m Cg.k Cg.b .nil r8 (c5 (pv 6) (c5 (j0 B6 (pv 3) (v6 (c5 (pv 5) (c5 (pv 6) c6))))
   (c5 (j0 B6 (j0 Q7 (v6 (c5 d0 c6)) (j9 j6 rfl N.len bR (c5 (pv 0) c6))) (v6 (c5 d0 (c5 d0 c6)))) c6))))))))))⟩
end
theorem a4w:∀ {l:List Int} {M:Nat},(∀ x∈l,x.natAbs<=M)->l.sum.natAbs<=l.length*M
 | [],_,_=>by simp
 | a::r,M,h=>by
  have h1:=h a (.head _);have h2:=a4w (l:=r) (M:=M) λ x hx=>h x (.tail _ hx);rw [bW,dM,gM];omega
theorem a5Q {z:Str} {g:c7} {far:Int} {kt kg:Nat} (hg:HG far kt kg g) (hf:far<=2 ^ 50) (hkt:kt<=20) (hkg:kg<=20):∀ x∈V1 z g,x.natAbs<=2 ^ 60:=λ x hx=>by
 have ht:∀ x∈g.1,x.natAbs<=2 ^ 50:=λ x hx=>by have:=hg.t x hx; omega
 have hg':∀ x∈g.2,x.natAbs<=2 ^ 50:=λ x hx=>by have:=hg.g x hx; omega
 have p:(2:Nat) ^ 50<=2 ^ 60:=by decide
 unfold V1 v8 at hx;rcases aQ.mp hx with hx | hx
 ·rcases aQ.mp hx with hx | hx
  ·rcases aQ.mp hx with hx | hx
   ·obtain ⟨y,hy,rfl⟩:=aK.mp hx
    have:=ht y hy;rw [eQ]; omega
   ·have:=hg' x hx; omega
  ·exact a0f z x hx
 ·rw [bN.mp hx]
  have h1:=a4w ht;have h2:=a4w hg';rw [hg.lt] at h1;rw [hg.lg] at h2;have h3:kt*2 ^ 50<=20*2 ^ 50:=iA _ hkt;have h4:kg*2 ^ 50<=20*2 ^ 50:=iA _ hkg;have h5:20*2 ^ 50+20*2 ^ 50<=(2:Nat) ^ 60:=by decide
  omega
theorem U9 {z:Str} {g:c7}:(V1 z g).length=g.1.length+g.2.length+(E2 z).length+1:=by unfold V1 v8; simp [iY]
theorem b4x {z:Str} {hs:List c7} {h:c7} {far:Int} {kt kg:Nat} (hh:HG far kt kg h) (hhs:∀ h∈hs,HG far kt kg h) (hf:far<=2 ^ 50) (hkt:kt<=20) (hkg:kg<=20) (q:Nat) :
  ∀ v,Lp.Fits (2 ^ 60) (mF hs+1) (Lp.Vv (mF hs) q (T4 (M2 z hs h)) (E7 (a0r hs)) (E7 (M4 z h)) v):=by
 have z0:∀ k:Nat,∀ x∈List.replicate k (0:Int),x.natAbs<=2 ^ 60:=λ k x hx=>by rw [(fZ.mp hx).2]; decide
 have goal:∀ x∈M4 z h,x.natAbs<=2 ^ 60:=λ x hx=>by
  unfold M4 at hx;rcases aQ.mp hx with hx | hx
  ·exact z0 _ x hx
  ·rw [bN.mp hx]; decide
 have rows:∀ r∈M2 z hs h,∀ x∈r,x.natAbs<=2 ^ 60:=λ r hr x hx=>by
  unfold M2 at hr;rcases aQ.mp hr with hr | hr
  ·obtain ⟨g,hg,rfl⟩:=aK.mp hr
   exact a5Q (hhs g hg) hf hkt hkg x hx
  ·simp only [aR,bY,or_false] at hr
   rcases hr with rfl | rfl
   ·obtain ⟨y,hy,rfl⟩:=aK.mp hx
    have:=a5Q (z:=z) hh hf hkt hkg y hy;rw [eQ]; exact this
   ·exact goal x hx
 have bnds:∀ x∈a0r hs,x.natAbs<=2 ^ 60:=λ x hx=>by
  unfold a0r at hx;rcases aQ.mp hx with hx | hx
  ·exact z0 _ x hx
  ·simp only [aR,bY,or_false] at hx
   rcases hx with rfl | rfl <;> decide
 intro v i _;unfold Lp.Vv
 split
 ·split
  ·unfold T4
   refine N7 (λ x hx=>?_) v;rw [aG] at hx
   cases e:(M2 z hs h)[i]? with
   | none=>rw [e] at hx; cases hx
   | some r=>rw [e] at hx; exact rows r (aJ e) x hx
  ·split
   ·rw [eQ]; exact N7 goal v
   ·exact cB _
 ·split
  ·split <;> decide
  ·split
   ·exact N7 bnds i
   ·exact cB _
theorem a6u {z:Str} {hs:List c7} {h:c7} (j:Nat):T4 (M2 z hs h) (hs.length+1) j=E7 (M4 z h) j:=by
 have:(M2 z hs h)[hs.length+1]?=some (M4 z h):=by
  unfold M2;rw [bZ (by simp),aA,eI]; rfl
 rw [P8 this]; rfl
section
variable {P:Program} {w:World} {K:W.Frag} {mg:Str->Option Value} {base:Heap} {f Pt d:Addr} {fd:FuncData} {n:Nat} {C:Addr}
theorem a9z {H':Hp} {rs:List Addr} {hs:List c7} {z:Str} (hl:rs.length=hs.length) (h:∀ (i:Nat) a g,rs[i]?=some a->hs[i]?=some g->H' a=some (.lst ((V1 z g).map V.int))):RowsL K H' (rs.map V.ref) (hs.map (V1 z)):=by
 induction hs generalizing rs with
 | nil =>
  cases rs with
  | nil=>exact .nil
  | cons a r=>simp at hl
 | cons g hs ih =>
  cases rs with
  | nil=>simp at hl
  | cons a r=>exact .cons ⟨a,rfl,SqL.of (h 0 a g rfl rfl)⟩ (ih (by simpa using hl) λ i b g' h1 h2=>h (i+1) b g' (by simpa using h1) (by simpa using h2))
theorem b0q {f1 f2:Addr} {d1 d2:FuncData} (F:Fun K "greatest_floor" "greatest_floor" a1z f fd) (N:w8 mg) (Cg:D3 P w K mg base n "greatest" ["goal","rows","bounds"] (L0 K C Pt) f1 d1) (Ch:D3 P w K mg base n "house_rows" ["houses","sizes"] (F0 K) f2 d2) :
  FnOk P w K mg base E4 (n+1) f fd ["houses","number","sizes"] (a7T K Pt):=by
 refine F.ok scFl (λ vs H Q E h=>?_) (λ cdv A outer s H vs Q E hr h=>?_)
 ·obtain ⟨ba,xs,hs,i,h,z,far,kt,kg,rfl,_⟩:=h
  rfl
 obtain ⟨ba,xs,hs,i,h,z,far,kt,kg,rfl,hz,B,hf,hh,L,k⟩:=h;refine ⟨_,(flT N Cg Ch hr).2,?_⟩;have xl:xs.length=hs.length:=Paired.length B.b;have few:=B.few;have k20:=B.t;have k21:=B.k;have sg:=a0a z;have gh:=B.g h (aJ hh);have hil:i<hs.length:=(aU.mp hh).1;have s1k:=j8 (show (1000:Nat)<=1000 from aH _);have lrow:∀ g∈hs,(V1 z g).length=kt+kg+(E2 z).length+1:=λ g hg=>by rw [U9,(B.g g hg).lt,(B.g g hg).lg]
 refine ⟨_,rfl,_,rfl,ba,xs,hs,z,kt,kg,rfl,hz,B.l,B.b,by omega,by omega,by omega,λ g hg=>⟨(B.g g hg).lt,(B.g g hg).lg⟩,λ r H1 rs e1 hr1 lr hrs=>?_⟩;refine ⟨λ σ' H2=>∃ fl:Addr,σ'=[some (.ref ba),some (.int i),some (.str z),some (.ref r),some (.ref fl),none,none]/\Same H1 H2/\H2 fl=some (.lst ((hs.map λ g=>g.2.sum - g.1.sum).map V.int)),?_,?_⟩
 ·refine ⟨_,rfl,ba,rfl,⟨_,e1.seq B.l⟩,λ l hl=>?_⟩
  refine P6 (u9 (e1.seq B.l)) hl (by omega) (λ j y _=>∃ g,hs[j]?=some g/\y=.int (g.2.sum - g.1.sum)) (λ _ _ _ _ r _=>r) (λ j x H2 ys N' hx e hl2 hN=>?_) (λ ys H2 e hl2 len pr=>?_)
  ·obtain ⟨g,hg,⟨a,ta,ga,rfl,p1,p2,p3⟩⟩:=Paired.at B.b hx
   have e':=e1.trans e;refine ⟨a,_,rfl,e'.tseq p1,rfl,_,_,rfl,_,_,rfl,rfl,?_,?_⟩
   ·refine ⟨by simp,λ k w ek=>?_⟩
    have:¬ k<2:=λ hk=>by
     unfold blkσ at ek;rw [bK (by simpa using hk),cV] at ek
     split at ek <;> cases ek
    rw [bV (by omega),bV (by omega)]; exact ek
   exact ⟨_,rfl,ga,_,rfl,.inr (e'.tseq p3),_,rfl,ta,_,rfl,.inr (e'.tseq p2),_,_,rfl,rfl,hN _ _ (Same.refl _) ⟨g,hg,rfl⟩⟩
  ·refine ⟨l,rfl,e,?_⟩
   rw [hl2]
   congr 2
   refine cK λ j=>?_
   by_cases hj:j<ys.length
   ·obtain ⟨g,g1,g2⟩:=pr j _ (aF hj)
    rw [aF hj,g2,aE,aE,g1]; rfl
   ·rw [bH (by omega),bH (by rw [aA,aA]; omega)]
 rintro σ1 H2 ⟨fl,rfl,e2,hfl⟩;refine ⟨λ σ' H3=>∃ (ra:Addr) (rs':List Addr),σ'=[some (.ref ba),some (.int i),some (.str z),some (.ref ra),some (.ref fl),none,none]/\Same H2 H3/\H3 ra=some (.lst (rs'.map V.ref))/\rs'.length=hs.length/\∀ (j:Nat) a g,rs'[j]?=some a->hs[j]?=some g->H3 a=some (.lst ((V1 z g).map V.int)),?_,?_⟩
 ·refine ⟨_,rfl,_,rfl,r,fl,rfl,⟨_,SqL.of (e2 _ _ hr1)⟩,⟨_,SqL.of hfl⟩,λ l hl=>?_⟩
  refine a4K (b1:=true) (b2:=true) (SqL.of (e2 _ _ hr1)) (SqL.of hfl) hl (by rw [aA,lr]; omega) (λ j y H3=>∃ a g,y=.ref a/\a≠l/\hs[j]?=some g/\H3 a=some (.lst ((V1 z g).map V.int)))
   (λ j y H3 H4 ⟨a,g,h1,h2,h3,h4⟩ e=>⟨a,g,h1,h2,h3,e a _ h2 h4⟩) (λ j x y H3 zs N' hx hy e hl2 hN=>?_) (λ zs H3 e hl2 len pr=>?_)
  ·obtain ⟨ra,hra,rfl⟩:∃ ra,rs[j]?=some ra/\x=.ref ra:=by
    rw [aE] at hx
    cases q1:rs[j]? with
    | none=>rw [q1] at hx; cases hx
    | some v=>rw [q1] at hx; cases hx; exact ⟨v,rfl,rfl⟩
   have hjl:j<hs.length:=by rw [<- lr]; exact (aU.mp hra).1
   have hg:hs[j]?=some hs[j]:=aF hjl;have hrow:=hrs j ra _ hra hg;have hyv:y=.int (hs[j].2.sum - hs[j].1.sum):=by
    rw [aE,aE,hg] at hy;exact (aS hy).symm
   subst hyv;generalize hs[j]=g at *;have gg:=B.g g (aJ hg);refine ⟨_,rfl,_,rfl,(by show 1<=sizeLine; decide),λ a1 h1=>?_⟩;have n1:ra≠a1:=i4 (e _ _ (e2 _ _ hrow)) h1;refine ⟨ra,a1,_,_,rfl,rfl,(by rw [i3 n1]; exact e _ _ (e2 _ _ hrow)),upd_same,?_,λ a2 h2=>?_⟩
   ·rw [aA]
    unfold v8;simp [gg.lt,gg.lg];omega
   have s2:=(Same.new h1 (.lst [V.int (g.2.sum - g.1.sum)])).trans (Same.new h2 (.lst ((v8 z g).map V.int++[V.int (g.2.sum - g.1.sum)])));refine hN _ _ s2 ⟨a2,g,rfl,λ zz=>?_,hg,?_⟩
   ·rw [zz,(Same.new h1 (.lst [V.int (g.2.sum - g.1.sum)])) _ _ hl2] at h2; cases h2
   ·rw [upd_same]
    unfold V1;rw [bC]; rfl
  ·have hzs:zs=(zs.map a5R).map V.ref:=by
    rw [aM];refine cK λ j=>?_;rw [aE]
    cases qj:zs[j]? with
    | none=>rfl
    | some y =>
     obtain ⟨a,_,rfl,_⟩:=pr j y qj;rfl
   refine ⟨l,zs.map a5R,rfl,e,by rw [hl2]; rw [<- hzs],by rw [aA,len,aA,aA,aA,lr,Nat.min_self],λ j a g hj hg=>?_⟩;rw [aE] at hj
   cases qj:zs[j]? with
   | none=>rw [qj] at hj; cases hj
   | some y =>
    obtain ⟨a',g',rfl,_,h3,h4⟩:=pr j y qj;rw [qj] at hj;have:a'=a:=aS hj;subst this;rw [hg] at h3
    cases h3;exact h4
 rintro σ2 H3 ⟨ra,rs',rfl,e3,hra,lr',hrs'⟩;have hi':i<rs'.length:=by omega
 have hri:rs'[i]?=some rs'[i]:=aF hi';generalize rs'[i]=ri at hri;have hrow:=hrs' i ri h hri hh;refine ⟨λ σ' H4=>∃ fa:Addr,σ'=[some (.ref ba),some (.int i),some (.str z),some (.ref ra),some (.ref fl),some (.ref fa),none]/\Same H3 H4/\H4 fa=some (.lst (((V1 z h).map λ x=>-x).map V.int)),?_,?_⟩
 ·refine ⟨_,rfl,_,rfl,ra,_,_,.ref ri,rfl,rfl,SqL.of hra,w6 (by rw [aE,hri]; rfl),ri,rfl,⟨_,SqL.of hrow⟩,λ l hl=>?_⟩
  refine N9 (u9 (SqL.of hrow)) hl (by rw [aA,lrow h (aJ hh)]; omega) (λ x=>.int (-(vI x))) (λ j x H' N2 hx2 e2 hN2=>?_) ?_
  ·obtain ⟨x',rfl,_⟩:=U1 hx2
   exact ⟨Wk.set (by decide),_,rfl,_,rfl,hN2⟩
  have eg:((V1 z h).map V.int).map (λ x=>V.int (-(vI x)))=((V1 z h).map λ x=>-x).map V.int:=by rw [aM,aM]; rfl
  rw [eg];exact ⟨l,rfl,Same.new hl _,upd_same⟩
 rintro σ3 H4 ⟨fa,rfl,e4,hfa⟩;have lfa:(((V1 z h).map λ x=>-x).map V.int).length=kt+kg+(E2 z).length+1:=by rw [aA,aA,lrow h (aJ hh)]
 refine ⟨λ σ' H5=>∃ ga:Addr,σ'=[some (.ref ba),some (.int i),some (.str z),some (.ref ra),some (.ref fl),some (.ref fa),some (.ref ga)]/\Same H4 H5/\H5 ga=some (.lst ((M4 z h).map V.int)),?_,?_⟩
 ·refine ⟨(by show 1<=sizeLine; decide),λ a1 h1=>?_⟩
  have s1:=Same.new h1 (.lst [.int 0]);have ek:((kt+kg+(E2 z).length+1:Nat):Int) - 1=((h.1.length+h.2.length+(E2 z).length:Nat):Int):=by rw [gh.lt,gh.lg]; omega
  refine ⟨_,rfl,fa,_,rfl,.inl (SqL.of (s1 _ _ hfa)),_,_,rfl,rfl,a1,_,_,rfl,rfl,upd_same,by rw [lfa,ek]; omega,by rw [lfa,ek,gh.lt,gh.lg]; omega,by rw [lfa,ek,bF,gh.lt,gh.lg]; simp; omega,λ a2 h2=>?_⟩;rw [lfa,ek,bF,K8];have s2:=s1.trans (Same.new h2 (.lst ((aI (h.1.length+h.2.length+(E2 z).length) (0:Int)).map V.int)));refine ⟨(by show 1<=sizeLine; decide),λ a3 h3=>?_⟩;have s3:=s2.trans (Same.new h3 (.lst [.int 1]));have n23:a2≠a3:=i4 upd_same h3;refine ⟨a2,a3,_,_,rfl,rfl,(by rw [i3 n23]; exact upd_same),upd_same,?_,λ a4 h4=>?_⟩
  ·rw [aA,aX,gh.lt,gh.lg]; simp; omega
  refine ⟨a4,rfl,s3.trans (Same.new h4 _),?_⟩;rw [upd_same];unfold M4;rw [bC]; rfl
 rintro σ4 H5 ⟨ga,rfl,e5,hga⟩;have e35:=e4.trans e5;refine ⟨_,rfl,_,rfl,_,rfl,_,rfl,(by show 2<=sizeLine; decide),λ a1 h1=>?_⟩;have s1:=Same.new h1 (.lst [V.ref fa,V.ref ga]);have nr1:ra≠a1:=i4 (e35 _ _ hra) h1;refine ⟨ra,a1,_,_,rfl,rfl,(by rw [i3 nr1]; exact e35 _ _ hra),upd_same,?_,λ a2 h2=>?_⟩
 ·rw [aA,lr']; simp; omega
 have s2:=s1.trans (Same.new h2 (.lst (rs'.map V.ref++[V.ref fa,V.ref ga])));refine ⟨(by show 1<=sizeLine; decide),λ a3 h3=>?_⟩;have s3:=s2.trans (Same.new h3 (.lst [.int 0]));have e05:=e1.trans (e2.trans (e3.trans e35));refine ⟨_,rfl,ba,_,rfl,.inl ((e05.trans s3).seq B.l),a3,_,_,rfl,rfl,upd_same,by omega,by rw [xl]; omega,by rw [xl,bF]; simp; omega,λ a4 h4=>?_⟩;rw [xl,bF,K8];have s4:=s3.trans (Same.new h4 (.lst ((aI hs.length (0:Int)).map V.int)));refine ⟨(by show 2<=sizeLine; decide),λ a5 h5=>?_⟩;have s5:=s4.trans (Same.new h5 (.lst [.int 0,.int 1]));have n45:a4≠a5:=i4 upd_same h5;refine ⟨a4,a5,_,_,rfl,rfl,(by rw [i3 n45]; exact upd_same),upd_same,?_,λ a6 h6=>?_⟩
 ·rw [aA,aX]; simp; omega
 have s6:=s5.trans (Same.new h6 (.lst ((aI hs.length (0:Int)).map V.int++[.int 0,.int 1])));have eb:(aI hs.length (0:Int)).map V.int++[.int 0,.int 1]=(a0r hs).map V.int:=by unfold a0r; rw [bC]; rfl
 have hA:=e05.trans s6;have g2:=(((Same.new h3 (.lst [.int 0])).trans (Same.new h4 (.lst ((aI hs.length (0:Int)).map V.int)))).trans (Same.new h5 (.lst [.int 0,.int 1]))).trans (Same.new h6 (.lst ((aI hs.length (0:Int)).map V.int++[.int 0,.int 1])));refine ⟨ga,a2,a6,M4 z h,rs'.map V.ref++[V.ref fa,V.ref ga],M2 z hs h,a0r hs,mF hs,qF z h,2 ^ 60,rfl,SqL.of (s6 _ _ hga),SqL.of (g2 _ _ upd_same),?_,?_,?_,?_,?_,?_,by show hs.length+2<900; omega,by show h.1.length+h.2.length+(E2 z).length+1<900; rw [gh.lt,gh.lg]; omega,?_,b4x gh B.g hf k20 k21 _,b0C _ (by show hs.length+2<20; omega),L.same hA,
  λ S H' t' aa wa O hn sz e' L' q1 q2 q3=>k S H' t' aa wa ⟨O,hn,sz⟩ (λ b o hb q'=>e' b o hb (hA b o q')) L' q1 q2 q3,λ S H' c O hc hneg hno e' L'=>(O.bounded1 (l:=hs.length+1) (by show hs.length+1<hs.length+2; omega) (λ j _=>a6u j) hc hneg hno).elim⟩
 ·unfold M2
  refine Paired.app ((a9z (K:=K) lr' hrs').same (e35.trans s6)) (.cons ⟨fa,rfl,SqL.of (s6 _ _ (e5 _ _ hfa))⟩ (.cons ⟨ga,rfl,SqL.of (s6 _ _ hga)⟩ .nil))
 ·rw [<- eb]; exact SqL.of upd_same
 ·unfold M2; simp
 ·unfold a0r; simp
 ·unfold M4; simp
 ·intro r' hr'
  unfold M2 at hr';rcases aQ.mp hr' with hr' | hr'
  ·obtain ⟨g,hg,rfl⟩:=aK.mp hr'
   rw [lrow g hg]
   show _=h.1.length+h.2.length+(E2 z).length+1
   rw [gh.lt,gh.lg]
  ·simp only [aR,bY,or_false] at hr'
   rcases hr' with rfl | rfl
   ·rw [aA,U9]
   ·unfold M4; simp
 ·intro j hj
  unfold E7 a0r;rw [aG]
  by_cases h':j<hs.length
  ·rw [bK (by simpa using h'),cV,if_pos h']; exact bL _
  ·rw [bZ (by simp; omega),aX]
   have hj':j<hs.length+2:=hj;have:j - hs.length=0\/j - hs.length=1:=by omega
   rcases this with q' | q' <;> rw [q'] <;> decide
end
structure b2z (z:Str) (hs:List c7) (h:c7) (pt pg:List Int) (ps:Int):Prop where
 lt:pt.length=h.1.length
 lg:pg.length=h.2.length
 tp:∀ x∈pt,0<x
 gp:∀ x∈pg,0<x
 sign:a2V z ps
 fair:∀ g∈hs,D5 g pg ps<=O5 g pt
 firm:D5 h pg ps=O5 h pt
def a0w (z:Str) (hs:List c7) (h:c7):Prop:=∃ pt pg ps,b2z z hs h pt pg ps
theorem a2C:∀ {l x y:List Int},x.length=y.length->r9 l (bB (·+·) x y)=r9 l x+r9 l y
 | [],x,y,_=>by simp [r9]
 | a::l,[],[],_=>by simp [r9]
 | a::l,b::x,c::y,h=>by
  have:=a2C (l:=l) (x:=x) (y:=y) (by simpa using h);unfold r9 at *;simp only [cH,bW];rw [this,fQ]; omega
 | a::l,[],c::y,h=>by simp at h
 | a::l,b::x,[],h=>by simp at h
theorem a0V:∀ {l:List Int} {k:Nat} {f:Int},l.length=k->r9 l (aI k f)=l.sum*f
 | [],k,f,_=>by simp [r9]
 | a::l,0,f,h=>by simp at h
 | a::l,k+1,f,h=>by
  have:=a0V (l:=l) (k:=k) (f:=f) (by simpa using h);unfold r9 at *;rw [eJ,cH,bW,this,bW,cL]
abbrev upL (xs:List Int) (f:Int):List Int:=xs.map (·+f)
theorem a9N {l xs:List Int} {f:Int} (h:l.length=xs.length):r9 l (upL xs f)=r9 l xs+l.sum*f:=by
 have e:upL xs f=bB (·+·) xs (aI xs.length f):=by
  unfold upL;refine cK λ i=>?_
  by_cases hi:i<xs.length
  ·rw [aE,hU,cV,if_pos hi,aF hi]; rfl
  ·rw [bH (by simp; omega),bH (by simp; omega)]
 rw [e,a2C (by simp),a0V h]
theorem a1b {z:Str} {g h:c7} (h1:g.1.length=h.1.length) (h2:g.2.length=h.2.length) {xs:List Int} {fl:Int} (hl:xs.length=h.1.length+h.2.length+(E2 z).length) :
  r9 (V1 z g) (xs++[fl])=D5 g (upL (pgA h xs) fl) (psA z h xs) - O5 g (upL (ptA h xs) fl):=by
 unfold V1;rw [V3 (by unfold v8; simp [h1,h2,hl]; omega),a2m h1 h2];unfold D5 O5;have e1:r9 g.2 (upL (pgA h xs) fl)=r9 g.2 (pgA h xs)+g.2.sum*fl:=a9N (by rw [h2,bU,cW]; omega);have e2:r9 g.1 (upL (ptA h xs) fl)=r9 g.1 (ptA h xs)+g.1.sum*fl:=a9N (by rw [h1,bU]; omega);dsimp only [r9] at *;rw [e1,e2,gX];omega
theorem a5x {m q:Nat} {S:Lp.Bo}:p6 m (q+1) S=(p6 m (q+1) S).take q++[Lp.valIn m S (q+1) q]:=by
 unfold p6;rw [fW,bC,gA (by simp)]; rfl
section
variable {z:Str} {hs:List c7} {h:c7} {S:Lp.Bo} {kt kg i:Nat}
theorem a1y (xs:List Int) (fl:Int) (hl:xs.length=h.1.length+h.2.length+(E2 z).length):r9 (M4 z h) (xs++[fl])=fl:=by
 unfold M4;rw [V3 (by simp [hl]),N3,fC,dP]
theorem b2R (i:Nat) {g:c7} (hg:hs[i]?=some g):(M2 z hs h)[i]?=some (V1 z g):=by
 have hil:i<hs.length:=(aU.mp hg).1;unfold M2;rw [bK (by rw [aA]; exact hil),aE,hg]; rfl
theorem b2M:(M2 z hs h)[hs.length]?=some ((V1 z h).map λ x=>-x):=by
 unfold M2;rw [bZ (by simp),aA,eF]; rfl
theorem a2D (hi:i<=hs.length):(a0r hs).getD i 0=0:=by
 unfold a0r;rw [A8,aX]
 by_cases h1:i<hs.length
 ·rw [if_pos h1,J4]
 ·rw [if_neg h1,show i - hs.length=0 by omega]; rfl
theorem a5o (hz:Q9 z) (B:a7r z hs h S) (hk:∀ g∈hs,g.1.length=kt/\g.2.length=kg) (hh:hs[i]?=some h) (hp:0<S.T (mF hs) (qF z h)) :
  b2z z hs h (upL (ptA h ((p6 (mF hs) (qF z h) S).take (qE z h))) (S.T (mF hs) (qF z h))) (upL (pgA h ((p6 (mF hs) (qF z h) S).take (qE z h))) (S.T (mF hs) (qF z h))) (psA z h ((p6 (mF hs) (qF z h) S).take (qE z h))):=by
 obtain ⟨O,hn,sz⟩:=B;have kh:=hk h (aJ hh);have hsp:p6 (mF hs) (qF z h) S=(p6 (mF hs) (qF z h) S).take (qE z h)++[Lp.valIn (mF hs) S (qF z h) (qE z h)]:=a5x;have la:(p6 (mF hs) (qF z h) S).length=qE z h+1:=by unfold p6; simp
 have lx:((p6 (mF hs) (qF z h) S).take (qE z h)).length=h.1.length+h.2.length+(E2 z).length:=by rw [bU,la]; show min (h.1.length+h.2.length+(E2 z).length) (h.1.length+h.2.length+(E2 z).length+1)=_; omega
 have nn:=a4E O;have eT:Lp.valIn (mF hs) S (qF z h) (qE z h)=S.T (mF hs) (qF z h):=by
  have:=a3o O (by unfold M4; simp);rw [hsp,a1y _ _ lx] at this;exact this
 generalize hxs:(p6 (mF hs) (qF z h) S).take (qE z h)=xs at *;have xnn:∀ x∈xs,0<=x:=λ x hx=>nn x (by rw [hsp]; exact dC _ hx);have fair:∀ g∈hs,D5 g (upL (pgA h xs) (S.T (mF hs) (qF z h))) (psA z h xs)<=O5 g (upL (ptA h xs) (S.T (mF hs) (qF z h))):=λ g hg=>by
  obtain ⟨k,hk'⟩:=cR hg;have hkl:=(aU.mp hk').1;have kg':=hk g hg;have:=a2k O (i:=k) (by show k<hs.length+2; omega) (b2R k hk') (by rw [U9,kg'.1,kg'.2,kh.1.symm,kh.2.symm]);rw [hsp,a1b (h:=h) (by rw [kg'.1,kh.1]) (by rw [kg'.2,kh.2]) lx,a2D (by omega),dG,eT] at this;omega
 refine ⟨by simp [lx]; omega,by simp [lx]; omega,λ x hx=>?_,λ x hx=>?_,a2B hz λ x hx=>xnn x (dR hx),fair,?_⟩
 ·obtain ⟨y,hy,rfl⟩:=aK.mp hx
  have:=xnn y (dQ hy); omega
 ·obtain ⟨y,hy,rfl⟩:=aK.mp hx
  have:=xnn y (dR (dQ hy)); omega
 ·have f1:=fair h (aJ hh)
  have:=a2k O (i:=hs.length) (by show hs.length<hs.length+2; omega) b2M (by rw [aA,U9]);rw [hsp,a0p,a1b (h:=h) rfl rfl lx,a2D (aH _),dG,eT] at this;omega
theorem a5p (hz:Q9 z) (B:a7r z hs h S) (hk:∀ g∈hs,g.1.length=kt/\g.2.length=kg) (hh:hs[i]?=some h) (R:a0w z hs h):0<S.T (mF hs) (qF z h):=by
 obtain ⟨O,hn,sz⟩:=B;obtain ⟨pt,pg,ps,R⟩:=R;have kh:=hk h (aJ hh);obtain ⟨sx,sl,snn,sv⟩:∃ sx:List Int,sx.length=(E2 z).length/\(∀ x∈sx,0<=x)/\r9 sx (E2 z)=ps:=by
  have sg:=R.sign;rcases hz with rfl | rfl | rfl | rfl
  ·have h1:=sg.1 (.inl rfl)
   have h2:=sg.2 (.inl rfl);exact ⟨[],rfl,nofun,by show (0:Int)=ps; omega⟩
  ·by_cases h0:0<=ps
   ·refine ⟨[ps,0],rfl,λ x hx=>?_,?_⟩
    ·simp only [aR,bY,or_false] at hx
     rcases hx with rfl | rfl
     ·exact h0
     ·exact bL _
    ·show ps*1+(0 * -1+0)=ps; omega
   ·refine ⟨[0,-ps],rfl,λ x hx=>?_,?_⟩
    ·simp only [aR,bY,or_false] at hx
     rcases hx with rfl | rfl
     ·exact bL _
     ·omega
    ·show 0*1+(-ps * -1+0)=ps; omega
  ·have h1:=sg.1 (.inr rfl)
   exact ⟨[-ps],rfl,λ x hx=>by rw [bN.mp hx]; omega,by show -ps * -1+0=ps; omega⟩
  ·have h1:=sg.2 (.inr rfl)
   exact ⟨[ps],rfl,λ x hx=>by rw [bN.mp hx]; exact h1,by show ps*1+0=ps; omega⟩
 have hxl:(pt.map (· - 1)++pg.map (· - 1)++sx).length=h.1.length+h.2.length+(E2 z).length:=by simp [R.lt,R.lg,sl]; omega
 have e1:upL (ptA h (pt.map (· - 1)++pg.map (· - 1)++sx)) 1=pt:=by
  unfold ptA upL;rw [cX,gA (by simp [R.lt]),aM];refine (cP λ x _=>?_).trans (lG _)
  show x - 1+1=x; omega
 have e2:upL (pgA h (pt.map (· - 1)++pg.map (· - 1)++sx)) 1=pg:=by
  unfold pgA upL;rw [cX,jE (by simp [R.lt]),gA (by simp [R.lg]),aM];refine (cP λ x _=>?_).trans (lG _)
  show x - 1+1=x; omega
 have e3:psA z h (pt.map (· - 1)++pg.map (· - 1)++sx)=ps:=by
  unfold psA;rw [jE (by simp [R.lt,R.lg])]; exact sv
 generalize hx0:pt.map (· - 1)++pg.map (· - 1)++sx=xs at *;have xnn:∀ x∈xs++[1],0<=x:=λ x hx=>by
  rcases aQ.mp hx with hx | hx
  ·rw [<- hx0] at hx
   rcases aQ.mp hx with hx | hx
   ·rcases aQ.mp hx with hx | hx
    ·obtain ⟨y,hy,rfl⟩:=aK.mp hx
     have:=R.tp y hy; omega
    ·obtain ⟨y,hy,rfl⟩:=aK.mp hx
     have:=R.gp y hy; omega
   ·exact snn x hx
  ·rw [bN.mp hx]; decide
 have lq:(xs++[1]).length=qF z h:=by rw [aO,hxl]; rfl
 have toD:∀ {row:List Int} {i:Nat},(M2 z hs h)[i]?=some row->row.length=qF z h->Lp.sumTo (λ j=>T4 (M2 z hs h) i j*(xs++[1]).getD j 0) (qF z h)=r9 row (xs++[1]):=λ {row i} hr hl=>by
  rw [<- E5 (qF z h) row (xs++[1]) hl lq];exact Lp.sum_congr λ j _=>by rw [P8 hr]
 have key:=O.weak hn (y:=λ j=>(xs++[1]).getD j 0) (e:=1) (λ j hj=>?_) λ k hk'=>?_
 ·have eg:Lp.sumTo (λ j=>E7 (M4 z h) j*(xs++[1]).getD j 0) (qF z h)=1:=by
   have:=E5 (qF z h) (M4 z h) (xs++[1]) (by unfold M4; simp) lq;rw [a1y _ _ hxl] at this;exact this
  rw [eg] at key;have:=O.w.pos;omega
 ·rw [aG,aF (by rw [lq]; exact hj)]
  exact xnn _ (cD _)
 ·have hk2:k<hs.length+2:=hk'
  show _<=E7 (a0r hs) k*1
  rw [dZ]
  by_cases c1:k<hs.length
  ·have hg:hs[k]?=some hs[k]:=aF c1
   have kg':=hk hs[k] (cD c1);rw [toD (b2R k hg) (by rw [U9,kg'.1,kg'.2,kh.1.symm,kh.2.symm]),a1b (h:=h) (by rw [kg'.1,kh.1]) (by rw [kg'.2,kh.2]) hxl,e1,e2,e3]
   show _<=(a0r hs).getD k 0
   rw [a2D (by omega)];have:=R.fair hs[k] (cD c1);omega
  ·by_cases c2:k=hs.length
   ·subst c2
    rw [toD b2M (by rw [aA,U9]),a0p,a1b (h:=h) rfl rfl hxl,e1,e2,e3]
    show _<=(a0r hs).getD hs.length 0
    rw [a2D (aH _)];have:=R.firm;omega
   ·have c3:k=hs.length+1:=by omega
    subst c3;have hr:(M2 z hs h)[hs.length+1]?=some (M4 z h):=by
     unfold M2;rw [bZ (by simp),aA,eI]; rfl
    rw [toD hr (by unfold M4; simp),a1y _ _ hxl]
    show (1:Int)<=(a0r hs).getD (hs.length+1) 0
    unfold a0r;rw [A8,aX,if_neg (by omega),eI]; decide
theorem b2a (hz:Q9 z) (B:a7r z hs h S) (hk:∀ g∈hs,g.1.length=kt/\g.2.length=kg) (hh:hs[i]?=some h):0<S.T (mF hs) (qF z h) ↔ a0w z hs h :=
 ⟨λ hp=>⟨_,_,_,a5o hz B hk hh hp⟩,a5p hz B hk hh⟩
end
end Rim
namespace L2
open PySem
section
variable {fr:List Nat} {tc:TT} {σ:St} {H1:Hp} {p:Addr} {D:Hp->Prop} {P:Addr} {pos:Pos} {qual:Str} {n:Nat}
theorem b0w (T:LamTab P pos qual H1) (hp:H1 p=none) (hz:n<sizeLine) (F:Nat->Bool)
  (step:∀ (i:Nat) H ys (N:Bool->Hp->Prop),i<n->Same1 P H1 H->LamTab P pos qual H->H p=some (.lst ys)->(∀ H3,Same1 P H H3->LamTab P pos qual H3->N (F i) H3)->tc ((blkσ 1 fr σ).set 0 (some (.int (i:Int)))) H N)
  (hd:∀ H,Same1 P H1 H->LamTab P pos qual H->H p=some (.lst (((aD n).filter F).map λ (i:Nat)=>V.int (i:Int)))->D H):lcI 1 fr (O6 0) tc (a8j 0) σ (Itr 0 n) H1 p D:=by
 refine ⟨λ i m ys H=>m=n - i/\i<=n/\ys=((aD i).filter F).map (λ (i:Nat)=>V.int (i:Int))/\Same1 P H1 H/\LamTab P pos qual H/\H p=some (.lst ys),⟨n,by simp,cB _,rfl,(Same.new hp _).to1,T.same (Same.new hp _),upd_same⟩,?_⟩;rintro i m ys H ⟨rfl,hi,rfl,e,L,hH⟩
 by_cases hlt:i<n
 ·refine .inr ⟨hlt,λ x H' y=>?_⟩
  obtain ⟨rfl,rfl⟩:=y;rw [fC];have tk:(aD (i+1)).filter F=(aD i).filter F++[i].filter F:=by rw [fW,gU]
  refine ⟨Wk.set (by decide),step i _ _ _ hlt e L hH λ H3 e3 L3=>?_⟩;have h3:=e3.get L hH nofun
  cases hq:F i with
  | false =>
   rw [if_neg bX];refine ⟨n - (i+1),by omega,rfl,hlt,?_,e.trans e3,L3,h3⟩;rw [tk]; simp [hq]
  | true =>
   rw [if_pos rfl];refine ⟨.int (i:Int),?_,h3,?_,n - (i+1),by omega,rfl,hlt,?_,(e.trans e3).write hp,L3.write h3,upd_same⟩
   ·show ((blkσ 1 fr σ).set 0 (some (.int (i:Int))))[0]?=some (some (.int (i:Int)))
    rw [cM (by simp [blkσ])]
   ·have h1:=eO F (aD i)
    rw [cQ] at h1;rw [aA];omega
   ·rw [tk]; simp [hq]
 ·have:i=n:=by omega
  subst this;exact .inl ⟨Nat.le_refl _,hd H e L hH⟩
end
end L2
namespace Rim
open PySem L2 Fr
open Classical in
noncomputable def a3G (z:Str) (hs:List c7):List Nat:=(aD hs.length).filter λ i=>decide (a0w z hs (hs.getD i ([],[])))
theorem b2l {z:Str} {hs:List c7} {i:Nat} (h:i∈a3G z hs):i<hs.length:=by
 unfold a3G at h;exact bO.mp (dL.mp h).1
theorem a3c {z:Str} {hs:List c7} {i:Nat} {h:c7} (hh:hs[i]?=some h):i∈a3G z hs ↔ a0w z hs h:=by
 have hil:=(aU.mp hh).1;have hd:hs.getD i ([],[])=h:=by rw [aG,hh]; rfl
 unfold a3G;rw [dL,bO,hd];simp [hil]
theorem a5d:∀ {l:List Int},(∀ x∈l,0<=x)->(∃ x∈l,0<x)->0<l.sum
 | [],_,⟨_,h,_⟩=>by cases h
 | a::r,h,⟨x,hx,hp⟩=>by
  have ha:=h a (.head _);have nn:0<=r.sum:=by
   have:∀ {l:List Int},(∀ x∈l,0<=x)->0<=l.sum:=λ {l}=>by
    induction l with
    | nil=>intro _; exact bL _
    | cons b s ih =>
     intro g;have h1:=g b (.head _);have h2:=ih λ y hy=>g y (.tail _ hy);rw [bW]; omega
   exact this λ y hy=>h y (.tail _ hy)
  rw [bW];rcases aR.mp hx with rfl | hx
  ·omega
  ·have:=a5d (l:=r) (λ y hy=>h y (.tail _ hy)) ⟨x,hx,hp⟩
   omega
theorem a2d {α:Type} {T G:α->Int}:∀ {l:List α},l≠[]->(∀ x∈l,0<G x)->∃ h∈l,∀ g∈l,T h*G g<=T g*G h
 | [],h,_=>absurd rfl h
 | [a],_,_=>⟨a,.head _,λ g hg=>by rw [bN.mp hg]; exact bL _⟩
 | a::b::r,_,hp=>by
  obtain ⟨h,hm,hl⟩:=a2d (T:=T) (G:=G) (l:=b::r) (by simp) λ x hx=>hp x (.tail _ hx)
  by_cases c:T h*G a<=T a*G h
  ·refine ⟨h,.tail _ hm,λ g hg=>?_⟩
   rcases aR.mp hg with rfl | hg
   ·exact c
   ·exact hl g hg
  ·refine ⟨a,.head _,λ g hg=>?_⟩
   rcases aR.mp hg with rfl | hg
   ·exact bL _
   ·have h1:=hl g hg
    have pa:=hp a (.head _);have ph:=hp h (.tail _ hm);have pg:=hp g (.tail _ hg);refine fA (a:=G h) ?_ ph;have e1:T a*G h*G g<=T h*G a*G g:=cI (by omega) (aL pg);have e2:T h*G g*G a<=T g*G h*G a:=cI h1 (aL pa);have x1:T a*G g*G h=T a*G h*G g:=by ac_rfl
    have x2:T h*G a*G g=T h*G g*G a:=by ac_rfl
    have x3:T g*G h*G a=T g*G a*G h:=by ac_rfl
    omega
theorem a5E {z:Str} {hs:List c7} {far:Int} {kt kg:Nat} (hG:∀ g∈hs,HG far kt kg g) (kt1:1<=kt) (hne:hs≠[]):∃ i,i∈a3G z hs:=by
 have pT:∀ g∈hs,0<g.1.sum:=λ g hg=>by
  have h:=hG g hg;refine a5d (λ x hx=>by have:=(h.t x hx).1; omega) ?_;have hl:0<g.1.length:=by rw [h.lt]; omega
  exact ⟨g.1[0],cD hl,by have:=(h.t _ (cD hl)).1; omega⟩
 have pG:∀ g∈hs,0<g.2.sum:=λ g hg=>a5d (λ x hx=>((hG g hg).g x hx).1) (hG g hg).p;obtain ⟨h,hm,hl⟩:=a2d (T:=λ g:c7=>g.1.sum) (G:=λ g:c7=>g.2.sum) hne pG;obtain ⟨i,hi⟩:=cR hm;refine ⟨i,(a3c hi).mpr ⟨List.replicate kt h.2.sum,aI kg h.1.sum,0,?_⟩⟩;have v1:∀ g∈hs,O5 g (aI kt h.2.sum)=g.1.sum*h.2.sum:=λ g hg=>a0V (hG g hg).lt;have v2:∀ g∈hs,D5 g (aI kg h.1.sum) 0=g.2.sum*h.1.sum:=λ g hg=>by
  have:r9 g.2 (aI kg h.1.sum)=g.2.sum*h.1.sum:=a0V (hG g hg).lg;unfold D5;dsimp only [r9] at this;rw [this,dO]
 refine ⟨by rw [aX,(hG h hm).lt],by rw [aX,(hG h hm).lg],λ x hx=>by rw [(fZ.mp hx).2]; exact pG h hm,λ x hx=>by rw [(fZ.mp hx).2]; exact pT h hm,⟨λ _=>bL _,λ _=>bL _⟩,λ g hg=>?_,?_⟩
 ·rw [v1 g hg,v2 g hg]
  have:=hl g hg;rw [aV g.2.sum]; exact this
 ·rw [v1 h hm,v2 h hm,aV]
section
variable {P:Program} {w:World} {K:W.Frag} {mg:Str->Option Value} {base:Heap} {f Pt d:Addr} {fd:FuncData} {n:Nat} {C:Addr}
def a4v (K:W.Frag) (Pt:Addr):Sp:=λ vs H Q _=>∃ (ba:Addr) (xs:List V) (hs:List c7) (z:Str) (far:Int) (kt kg:Nat),vs=[.ref ba,.str z]/\Q9 z/\BookIn K H ba xs hs far kt kg/\far<=2 ^ 50/\LT Pt H ∧
 ∀ (H':Hp) (r:Addr),Same1 Pt H H'->LT Pt H'->H r=none->H' r=some (.lst ((a3G z hs).map λ (i:Nat)=>V.int (i:Int)))->Q (.ref r) H'
theorem b6K:m6 ["book","sizes"] ["book","sizes"] (i5 a6w):=⟨rfl,rfl,rfl,by decide +kernel,rfl,by decide +kernel,by decide +kernel⟩
theorem b6x:(["number","book","sizes"]:List Str).Nodup:=by decide +kernel
theorem a9G {f1:Addr} {d1:FuncData} (F:Fun K "rim_of" "rim_of" a6w f fd) (N:w8 mg) (Cf:D3 P w K mg base n "greatest_floor" ["houses","number","sizes"] (a7T K Pt) f1 d1):FnOk P w K mg base E4 (n+1) f fd ["book","sizes"] (a4v K Pt):=by
 refine F.ok b6K (λ vs H Q E h=>?_) (λ cdv A outer s H vs Q E hr h=>?_)
 ·obtain ⟨ba,xs,hs,z,far,kt,kg,rfl,_⟩:=h
  rfl
 obtain ⟨ba,xs,hs,z,far,kt,kg,rfl,hz,B,hf,L,k⟩:=h;refine ⟨_,i8 (r6 (a6q ["number"] [0,1] rfl (V2 rfl N.range (c5 (j9 j6 rfl N.len bR (c5 (pv 0) c6)) c6)) (λ _ _ _ _=>i7 (i:=0) b6x rfl (aC rfl))
  (λ _ _ _ _=>m9 a0u (j7 (b3B K rfl) (i9 Cf.ok hr rfl Cf.m Cf.k Cf.b .nil r8 (c5 (pv 1) (c5 (pv 0) (c5 (pv 2) c6)))) d0 (λ _ _=>rfl)) d0 (p7 _)) (λ _ _ _ _=>pv 0))),?_⟩
 have xl:xs.length=hs.length:=Paired.length B.b;have few:=B.few;have s1k:=j8 (show (1000:Nat)<=1000 from aH _);have hk:∀ g∈hs,g.1.length=kt/\g.2.length=kg:=λ g hg=>⟨(B.g g hg).lt,(B.g g hg).lg⟩;refine ⟨_,rfl,ba,_,rfl,.inl B.l,_,rfl,by omega,by omega,?_⟩;rw [xl,bF];intro p hp;refine b0w (n:=hs.length) L hp (by omega) _ (λ i H2 ys N' hi e L2' hp2 hN=>?_) (λ H2 e L2' hp2=>k H2 p e L2' hp hp2);have hh:hs[i]?=some hs[i]:=aF hi;refine ⟨_,rfl,_,rfl,_,rfl,ba,xs,hs,i,hs[i],z,far,kt,kg,rfl,hz,⟨SqL.same1 L e B.l,Bk.same1 L e B.b,B.g,B.far,B.few,B.t,B.k⟩,hf,hh,L2',λ S H3 t aa wa BF e3 L3 ht _ _=>?_⟩;refine ⟨t,_,0,_,rfl,rfl,SqT.of ht,w6 (j:=0) rfl,_,_,rfl,rfl,_,rfl,?_⟩;have hd:hs.getD i ([],[])=hs[i]:=by rw [aG,hh]; rfl
 have eb:decide (S.T (mF hs) (qF z hs[i])>0)=(λ i=>@decide (a0w z hs (hs.getD i ([],[]))) (lH _)) i:=by
  have:=b2a hz BF hk hh
  show _=@decide (a0w z hs (hs.getD i ([],[]))) (lH _)
  rw [hd]
  by_cases c:0<S.T (mF hs) (qF z hs[i])
  ·have c2:=this.mp c
   rw [decide_eq_true (show S.T (mF hs) (qF z hs[i])>0 from c)];simp [c2]
  ·have c2:¬ a0w z hs hs[i]:=λ q=>c (this.mpr q)
   rw [decide_eq_false (show ¬ S.T (mF hs) (qF z hs[i])>0 from c)];simp [c2]
 rw [eb];exact hN H3 e3 L3
end
end Rim
namespace L2
open PySem
theorem b0B (K:W.Frag) {X:Cx} (h:X.K=K):OpR X (compareOp .NotIn) (rIn K true):=by subst h; exact a4o
section
variable {K:W.Frag} {l:Addr} {fr:List Nat} {tc:TT} {σ:St} {H1:Hp} {p:Addr} {D:Hp->Prop} {xs:List V}
theorem b2h (hl:SqL K H1 l xs) (hp:H1 p=none) (hz:xs.length<sizeLine) (F:Nat->Bool)
  (step:∀ (i:Nat) x H (N:Bool->Hp->Prop),xs[i]?=some x->Same H1 H->N (F i) H->tc (((blkσ 2 fr σ).set 0 (some (.int (i:Int)))).set 1 (some x)) H N)
  (hd:∀ H,Same H1 H->H p=some (.lst (((aD xs.length).filter F).map λ i=>xs.getD i .non))->D H):lcI 2 fr (a5m K 2 (V5 (O6 0) (V5 (O6 1) a6l))) tc (a8j 1) σ (Ite K l) H1 p D:=by
 refine ⟨λ i m ys H=>m=xs.length - i/\i<=xs.length/\ys=((aD i).filter F).map (λ i=>xs.getD i .non)/\Same H1 H/\H p=some (.lst ys),⟨xs.length,by simp,cB _,rfl,Same.new hp _,upd_same⟩,?_⟩;rintro i m ys H ⟨rfl,hi,rfl,e,hH⟩
 by_cases hlt:i<xs.length
 ·refine .inr ⟨⟨xs,xs[i],e.seq hl,aF hlt⟩,λ u H' y=>?_⟩
  obtain ⟨q,a,hq,rfl,rfl,hab⟩:=y;have ha:=hab xs (e.seq hl);have s1:=Same.new hq (.tup [.int (i:Int),a]);have tk:(aD (i+1)).filter F=(aD i).filter F++[i].filter F:=by rw [fW,gU]
  refine ⟨q,_,rfl,SqT.of upd_same,rfl,_,_,rfl,_,_,rfl,rfl,?_,?_⟩
  ·refine ⟨by simp,λ k w ek=>?_⟩
   have:¬ k<2:=λ hk=>by
    unfold blkσ at ek;rw [bK (by simpa using hk),cV] at ek
    split at ek <;> cases ek
   rw [bV (by omega),bV (by omega)]; exact ek
  refine step i a _ _ ha (e.trans s1) ?_;have h3:=s1 _ _ hH
  cases hq:F i with
  | false =>
   rw [if_neg bX];refine ⟨xs.length - (i+1),by omega,rfl,hlt,?_,e.trans s1,h3⟩;rw [tk]; simp [hq]
  | true =>
   rw [if_pos rfl];refine ⟨a,?_,h3,?_,xs.length - (i+1),by omega,rfl,hlt,?_,(e.trans s1).write hp,upd_same⟩
   ·show (((blkσ 2 fr σ).set 0 (some (.int (i:Int)))).set 1 (some a))[1]?=some (some a)
    rw [cM (by simp [blkσ])]
   ·have h1:=eO F (aD i)
    rw [cQ] at h1;rw [aA];omega
   ·rw [tk]
    simp [hq,ha]
 ·have:i=xs.length:=by omega
  subst this;exact .inl ⟨⟨xs,e.seq hl,aH _⟩,hd H e hH⟩
end
def a7g (k:Nat) (σ:St) (H:Hp):Nat:=match σ[k]? with
 | some (some (.ref a))=>(match H a with | some (.lst xs)=>xs.length | _=>0)
 | _=>0
end L2
namespace Rim
open PySem L2 Fr
abbrev A9 (hs:List c7) (left:List Nat):List c7:=left.map λ k=>hs.getD k ([],[])
noncomputable def plc (z:Str) (hs:List c7) (left:List Nat):List Nat:=a3G z (A9 hs left)
noncomputable def lvl (z:Str) (hs:List c7) (left:List Nat):List Nat:=(plc z hs left).map λ k=>left.getD k 0
noncomputable def rst (z:Str) (hs:List c7) (left:List Nat):List Nat:=((aD left.length).filter λ k=>!(plc z hs left).contains k).map λ k=>left.getD k 0
noncomputable def lev (z:Str) (hs:List c7):Nat->List Nat->List (List Nat)
 | 0,_=>[]
 | n+1,left=>if left=[] then [] else lvl z hs left::lev z hs n (rst z hs left)
abbrev y4 (l:List Nat):List V:=l.map λ (k:Nat)=>V.int (k:Int)
theorem W2 {z:Str} {hs:List c7}:∀ n,lev z hs n []=[]
 | 0=>rfl
 | n+1=>by unfold lev; rw [if_pos rfl]
theorem a5j {left:List Nat} {k:Nat} (h:k<left.length):left.getD k 0∈left:=by
 rw [aG,aF h]; exact cD h
section
variable {z:Str} {hs:List c7} {far:Int} {kt kg:Nat} {left:List Nat}
theorem a2P (hG:∀ g∈hs,HG far kt kg g) (hl:∀ k∈left,k<hs.length):∀ g∈A9 hs left,HG far kt kg g:=λ g hg=>by
 obtain ⟨k,hk,rfl⟩:=aK.mp hg;have:=hl k hk;rw [aG,aF this];exact hG _ (cD this)
theorem a2Y {k:Nat} (h:k∈plc z hs left):k<left.length:=by
 have:=b2l h;rw [aA] at this;exact this
theorem a4Q {k:Nat} (h:k∈rst z hs left):k∈left:=by
 unfold rst at h;obtain ⟨j,hj,rfl⟩:=aK.mp h;exact a5j (bO.mp (dL.mp hj).1)
theorem b4i (hG:∀ g∈hs,HG far kt kg g) (kt1:1<=kt) (hl:∀ k∈left,k<hs.length) (hne:left≠[]):(rst z hs left).length<left.length:=by
 obtain ⟨i,hi⟩:=a5E (z:=z) (a2P hG hl) kt1 (by simpa using hne);have hil:=a2Y (z:=z) (hs:=hs) (left:=left) hi;unfold rst;rw [aA];have h1:((aD left.length).filter λ k=>!(plc z hs left).contains k).length<(aD left.length).length:=by
  rw [List.length_filter_lt_length_iff_exists];exact ⟨i,bO.mpr hil,by simpa using (show i∈plc z hs left from hi)⟩
 rw [cQ] at h1;exact h1
end
def NatsAt (H:Hp) (as:List Addr) (ls:List (List Nat)):Prop:=as.length=ls.length/\∀ (k:Nat) a l,as[k]?=some a->ls[k]?=some l->H a=some (.lst (y4 l))
theorem NatsAt.snoc {H:Hp} {as:List Addr} {ls:List (List Nat)} {a:Addr} {l:List Nat} (h:NatsAt H as ls) (ha:H a=some (.lst (y4 l))):NatsAt H (as++[a]) (ls++[l]):=by
 refine ⟨by simp [h.1],λ k b m hb hm=>?_⟩
 by_cases hk:k<as.length
 ·rw [bK hk] at hb
  rw [bK (by rw [<- h.1]; exact hk)] at hm;exact h.2 k b m hb hm
 ·rw [bZ (by omega)] at hb
  rw [bZ (by rw [<- h.1]; omega),<- h.1] at hm;have:k - as.length=0:=by
   cases q:k - as.length with
   | zero=>rfl
   | succ j=>rw [q] at hb; simp at hb
  rw [this] at hb hm;simp at hb hm;subst hb hm;exact ha
section
variable {P:Program} {w:World} {K:W.Frag} {mg:Str->Option Value} {base:Heap} {f Pt d:Addr} {fd:FuncData} {n:Nat} {C:Addr}
theorem a3n {H:Hp} {ba p:Addr} {xs:List V} {hs:List c7} {far:Int} {kt kg:Nat} {left:List Nat} (B:BookIn K H ba xs hs far kt kg) (hl:∀ k∈left,k<hs.length) (hn:left.length<=16) (hp:H p=some (.lst (left.map λ k=>xs.getD k .non))) :
  BookIn K H p (left.map λ k=>xs.getD k .non) (A9 hs left) far kt kg:=by
 have xl:xs.length=hs.length:=Paired.length B.b;refine ⟨SqL.of hp,?_,a2P B.g hl,B.far,by rw [aA]; exact hn,B.t,B.k⟩
 clear hp hn
 induction left with
 | nil=>exact .nil
 | cons k r ih =>
  have hk:=hl k (.head _);have hx:xs[k]?=some xs[k]:=aF (by omega);obtain ⟨h,hh,q⟩:=Paired.at B.b hx;refine .cons ?_ (ih λ j hj=>hl j (.tail _ hj))
  show HS K H (xs.getD k V.non) (hs.getD k ([],[]))
  rw [aG,hx,aG,hh];exact q
def a5O (K:W.Frag) (Pt:Addr):Sp:=λ vs H Q _=>∃ (ba:Addr) (xs:List V) (hs:List c7) (z:Str) (far:Int) (kt kg:Nat),vs=[.ref ba,.str z]/\Q9 z/\BookIn K H ba xs hs far kt kg/\far<=2 ^ 50/\1<=kt/\LT Pt H ∧
 ∀ (H':Hp) (r:Addr) (as:List Addr),Same1 Pt H H'->LT Pt H'->H r=none->H' r=some (.lst (as.map V.ref))->NatsAt H' as (lev z hs hs.length (aD hs.length))->(∀ a∈as,H a=none)->Q (.ref r) H'
theorem scLv:m6 ["book","sizes","told","left","places"] ["book","sizes"] (i5 a0c):=⟨rfl,rfl,rfl,by decide +kernel,rfl,by decide +kernel,by decide +kernel⟩
theorem b4T:(["number","book"]:List Str).Nodup:=by decide +kernel
theorem b4U:(["place","left"]:List Str).Nodup:=by decide +kernel
theorem b2X:(["place","number","places"]:List Str).Nodup:=by decide +kernel
noncomputable def lvT {cdv:Value} {A:Around} {outer:List Env} {s:Shared} {H:Hp} {E:XK} {f1:Addr} {d1:FuncData} (N:w8 mg) (Cr:D3 P w K mg base n "rim_of" ["book","sizes"] (a4v K Pt) f1 d1)
  (hr:Room n (A.deeper (dB "levels" (i5 a0c) s.heap.objs.size f cdv))) :
  { t:TS // PSs (M0 E4 P w K mg base ["book","sizes","told","left","places"] "levels" (i5 a0c) f cdv A outer s H E).nox (v5 a0c) t } :=
 ⟨_,i6 (j4 (i:=2) scLv.nd rfl (aC rfl) (v6 c6))
  (m8 (j4 (i:=3) scLv.nd rfl (cC rfl) (t9 (Q0 rfl) rfl N.list dI (c5 (t9 a1Q rfl N.range hV (c5 (j9 j6 rfl N.len bR (c5 (pv 0) c6)) c6)) c6)))
  (i6 (a3w PassesOwn.never (b0O (pv 3) (λ _=>rfl))
   (m8 (j4 (i:=4) scLv.nd rfl (cC rfl) (i9 Cr.ok hr rfl Cr.m Cr.k Cr.b .nil r8 (c5 (O3 ["number"] [0] rfl (w4 (pv 3)) (λ _ _ _ _=>i7 (i:=0) b4T rfl (aC rfl)) (λ _ _ _ _=>j7 (U6 K rfl) (pv 1) (pv 0) (λ _ _=>rfl))) (c5 (pv 1) c6))))
   (m8 (U3 (a3e fE fX fY P4 (pv 2) (c5 (O3 ["place"] [3] rfl (w4 (pv 4)) (λ _ _ _ _=>i7 (i:=0) b4U rfl (aC rfl)) (λ _ _ _ _=>j7 (U6 K rfl) (pv 1) (pv 0) (λ _ _=>rfl))) c6)))
   (i8 (j4 (i:=3) scLv.nd rfl (cC rfl) (a6q ["place","number"] [4] rfl (a1f K rfl rfl N.enum (c5 (pv 3) c6)) (λ _ _ _ _=>D9 K (n:=2) rfl rfl (j3 (i7 (i:=0) b2X rfl (aC rfl)) (j3 (i7 (i:=1) b2X rfl (aC rfl)) v7)))
    (λ _ _ _ _=>m9 (b0B K rfl) (pv 0) (pv 2) rfl) (λ _ _ _ _=>pv 1)))))))
  (i8 (r6 (pv 2)))))⟩
end
theorem a2G (z:Str) (hs:List c7):(a3G z hs).length<=hs.length:=by
 unfold a3G;refine aZ (eO _ _) ?_;rw [cQ]; exact aH _
theorem S3 {z:Str} {hs:List c7} {left:List Nat} {n:Nat} (h:left≠[]):lev z hs (n+1) left=lvl z hs left::lev z hs n (rst z hs left):=by
 show (if left=[] then [] else _)=_
 rw [if_neg h]
theorem a7u {k:Nat}:∀ {l:List Nat},inV (.int (k:Int)) (y4 l)=l.contains k
 | []=>rfl
 | a::r=>by
  have:=a7u (k:=k) (l:=r);unfold inV at *
  show (((V.int (a:Int))::y4 r).any λ y=>eqV y (V.int (k:Int)))=_
  rw [iI,this,List.contains_cons]
  congr 1
  show eqV (.int (a:Int)) (.int (k:Int))=(k==a)
  by_cases h:k=a
  ·subst h; simp [eqV]
  ·have:¬ ((a:Int)=(k:Int)):=by omega
   have h1:((a:Int)==(k:Int))=false:=by simpa using this
   have h2:(k==a)=false:=by simpa using h
   show ((a:Int)==(k:Int))=(k==a)
   rw [h1,h2]
theorem b0h (l:List Nat):(y4 l).all a0Y=true:=by
 rw [eD];intro x hx;obtain ⟨k,_,rfl⟩:=aK.mp hx;rfl
theorem a2t {l:List Nat} {j:Nat} (h:j<l.length):(y4 l)[j]?=some (.int ((l.getD j 0:Nat):Int)):=by
 rw [aE,aF h,aG,aF h]; rfl
theorem T6 {l:List Nat} {j:Nat} {x:V} (h:(y4 l)[j]?=some x):∃ k,l[j]?=some k/\x=.int (k:Int):=by
 rw [aE] at h
 cases q:l[j]? with
 | none=>rw [q] at h; cases h
 | some k=>rw [q] at h; cases h; exact ⟨k,rfl,rfl⟩
theorem a2W (n:Nat):((aD n).map λ (i:Nat)=>V.int (0+(i:Int)))=y4 (aD n):=cP λ i _=>by rw [fC]
section
variable {P:Program} {w:World} {K:W.Frag} {mg:Str->Option Value} {base:Heap} {f Pt d:Addr} {fd:FuncData} {n:Nat} {C:Addr}
structure b4b (z:Str) (hs:List c7) (H H':Hp) (Pt td la:Addr) (left:List Nat) (as:List Addr) (done:List (List Nat)):Prop where
 e:Same1 Pt H H'
 L:LT Pt H'
 tdn:H td=none
 told:H' td=some (.lst (as.map V.ref))
 lst:H' la=some (.lst (y4 left))
 at_:NatsAt H' as done
 new:∀ a∈as,H a=none/\a≠td
 lt:∀ k∈left,k<hs.length
 all:∃ m,left.length<=m/\done++lev z hs m left=lev z hs hs.length (aD hs.length)
 few:done.length+left.length<=hs.length
theorem a8t {f1:Addr} {d1:FuncData} (F:Fun K "levels" "levels" a0c f fd) (N:w8 mg) (Cr:D3 P w K mg base n "rim_of" ["book","sizes"] (a4v K Pt) f1 d1):FnOk P w K mg base E4 (n+1) f fd ["book","sizes"] (a5O K Pt):=by
 refine F.ok scLv (λ vs H Q E h=>?_) (λ cdv A outer s H vs Q E hr h=>?_)
 ·obtain ⟨ba,xs,hs,z,far,kt,kg,rfl,_⟩:=h
  rfl
 obtain ⟨ba,xs,hs,z,far,kt,kg,rfl,hz,B,hf,kt1,L,k⟩:=h;refine ⟨_,(lvT N Cr hr).2,?_⟩;have xl:xs.length=hs.length:=Paired.length B.b;have few:=B.few;have s1k:=j8 (show (1000:Nat)<=1000 from aH _);refine ⟨(by show 0<=sizeLine; decide),λ td htd=>?_⟩;have s1:=Same.new htd (.lst []);refine ⟨λ σ' H'=>∃ la:Addr,σ'=[some (.ref ba),some (.str z),some (.ref td),some (.ref la),none]/\b4b z hs H H' Pt td la (aD hs.length) [] [],?_,?_⟩
 ·refine ⟨_,rfl,ba,_,rfl,.inl (s1.seq B.l),_,rfl,λ rg hrg=>?_⟩
  refine ⟨rg,0,xs.length,rfl,by rw [upd_same,fC],by decide,by decide,by omega,λ la hla=>?_⟩;have t3:=(Same.new hrg (.rng 0 (xs.length:Int))).trans (Same.new hla (.lst ((aD xs.length).map λ (i:Nat)=>V.int (0+(i:Int)))));have s3:=s1.trans t3;refine ⟨la,rfl,s3.to1,L.same s3,htd,t3 td _ upd_same,?_,⟨rfl,nofun⟩,nofun,λ j hj=>bO.mp hj,⟨hs.length,by simp,rfl⟩,by simp⟩;rw [upd_same,a2W,xl]
 rintro σ0 H0 ⟨la,rfl,U0⟩;refine a5z (λ σ H'=>∃ (la':Addr) (left:List Nat) (as:List Addr) (done:List (List Nat)) (o:Option V),σ=[some (.ref ba),some (.str z),some (.ref td),some (.ref la'),o]/\b4b z hs H H' Pt td la' left as done) (a7g 3)
  ⟨la,aD hs.length,[],[],_,rfl,U0⟩ ?_ (λ σ H Q Q' hq ⟨v,h1,b,h2,q⟩=>⟨v,h1,b,h2,hq _ _ q⟩)
 rintro σ H1 ⟨la1,left,as,done,o,rfl,U⟩;refine ⟨_,rfl,_,.inl ⟨_,SqL.of U.lst,rfl⟩,?_⟩;have lnil:(y4 left).isEmpty=left.isEmpty:=by cases left <;> rfl
 rw [lnil]
 cases hle:left.isEmpty with
 | true =>
  have hl0:left=[]:=by simpa using hle
  refine a0s ?_;obtain ⟨m,_,hm⟩:=U.all;rw [hl0,W2,iG] at hm;exact ⟨_,rfl,k H1 td as U.e U.L U.tdn U.told (by rw [<- hm]; exact U.at_) λ a ha=>(U.new a ha).1⟩
 | false =>
  refine a4C ?_;have hne:left≠[]:=λ q=>by rw [q] at hle; cases hle
  have hll:left.length<=16:=by have:=U.few; omega
  have B1:BookIn K H1 ba xs hs far kt kg:=⟨SqL.same1 L U.e B.l,Bk.same1 L U.e B.b,B.g,B.far,B.few,B.t,B.k⟩;refine ⟨λ σ' H2=>∃ pl:Addr,σ'=[some (.ref ba),some (.str z),some (.ref td),some (.ref la1),some (.ref pl)]/\b4b z hs H H2 Pt td la1 left as done/\H2 pl=some (.lst (y4 (plc z hs left))),?_,?_⟩
  ·refine ⟨_,rfl,la1,rfl,⟨_,SqL.of U.lst⟩,λ p hp=>?_⟩
   refine N9 (u9 (SqL.of U.lst)) hp (by rw [aA]; omega) (λ v=>xs.getD (vI v).toNat .non) (λ j x H2 N2 hx e hN=>?_) ?_
   ·obtain ⟨kk,hk,rfl⟩:=T6 hx
    have hkl:=U.lt kk (aJ hk);have hxk:xs[kk]?=some (xs.getD kk .non):=by rw [aG,aF (by omega)]; rfl
    have ev:(vI (V.int (kk:Int))).toNat=kk:=by simp [vI]
    rw [ev] at hN;exact ⟨Wk.set (by decide),_,rfl,_,rfl,ba,_,_,_,rfl,rfl,e.seq B1.l,w6 hxk,hN⟩
   have em:(y4 left).map (λ v=>xs.getD (vI v).toNat .non)=left.map λ k=>xs.getD k .non:=by
    rw [aM];refine cP λ j _=>?_
    show xs.getD (vI (V.int (j:Int))).toNat .non=_
    rw [show (vI (V.int (j:Int))).toNat=j by simp [vI]]
   rw [em];have s4:=Same.new hp (.lst (left.map λ k=>xs.getD k .non));have B2:BookIn K (upd H1 p (.lst (left.map λ k=>xs.getD k .non))) ba xs hs far kt kg:=⟨s4.seq B1.l,Bk.same s4 B1.b,B.g,B.far,B.few,B.t,B.k⟩;refine ⟨_,rfl,p,_,A9 hs left,z,far,kt,kg,rfl,hz,a3n B2 U.lt hll upd_same,hf,U.L.same s4,λ H2 r e2 L2' hrn hr2=>?_⟩;have e12:Same1 Pt H1 H2:=s4.to1.trans e2;refine ⟨r,rfl,⟨U.e.trans e12,L2',U.tdn,e12.get U.L U.told nofun,e12.get U.L U.lst nofun,⟨U.at_.1,λ j a l ha hl=>e12.get U.L (U.at_.2 j a l ha hl) nofun⟩,U.new,U.lt,U.all,U.few⟩,hr2⟩
  rintro σ1 H2 ⟨pl,rfl,U2,hpl⟩;have lp:(plc z hs left).length<=16:=by
   have:=a2G z (A9 hs left);rw [aA] at this;exact aZ this hll
  refine ⟨λ σ' H3=>∃ a:Addr,σ'=[some (.ref ba),some (.str z),some (.ref td),some (.ref la1),some (.ref pl)]/\Same1 Pt H H3/\LT Pt H3/\H3 td=some (.lst ((as++[a]).map V.ref))/\H3 la1=some (.lst (y4 left))/\H3 pl=some (.lst (y4 (plc z hs left)))/\NatsAt H3 (as++[a]) (done++[lvl z hs left])/\H a=none/\a≠td,?_,?_⟩
  ·refine ⟨_,rfl,.inl ⟨rfl,_,SqL.of U2.told⟩,?_⟩
   refine ⟨_,rfl,pl,rfl,⟨_,SqL.of hpl⟩,λ p hp=>?_⟩;refine N9 (u9 (SqL.of hpl)) hp (by rw [aA]; omega) (λ v=>.int ((left.getD (vI v).toNat 0:Nat):Int)) (λ j x H3 N2 hx e hN=>?_) ?_
   ·obtain ⟨kk,hk,rfl⟩:=T6 hx
    have hkl:=a2Y (aJ hk);have ev:(vI (V.int (kk:Int))).toNat=kk:=by simp [vI]
    rw [ev] at hN;exact ⟨Wk.set (by decide),_,rfl,_,rfl,la1,_,_,_,rfl,rfl,SqL.of (e _ _ U2.lst),w6 (a2t hkl),hN⟩
   have em:(y4 (plc z hs left)).map (λ v=>V.int ((left.getD (vI v).toNat 0:Nat):Int))=y4 (lvl z hs left):=by
    unfold lvl y4;rw [aM,aM];refine cP λ j _=>?_
    show V.int ((left.getD (vI (V.int (j:Int))).toNat 0:Nat):Int)=V.int ((left.getD j 0:Nat):Int)
    rw [show (vI (V.int (j:Int))).toNat=j by simp [vI]]
   rw [em];have s4:=Same.new hp (.lst (y4 (lvl z hs left)));have ntd:p≠td:=λ q=>by rw [q,U2.told] at hp; cases hp
   have hpH:H p=none:=by
    cases q:H p with
    | none=>rfl
    | some o =>
     exfalso
     by_cases hpP:p=Pt
     ·rw [hpP] at hp
      rcases U2.L with w' | ⟨_,w',_⟩ <;> rw [w'] at hp <;> cases hp
     ·rw [U2.e p o hpP q] at hp; cases hp
   have las:as.length<=16:=by rw [U2.at_.1]; have:=U2.few; omega
   refine ⟨td,_,_,rfl,rfl,s4 _ _ U2.told,by rw [aA]; omega,?_⟩;have td4:=s4 _ _ U2.told;refine ⟨p,rfl,(U2.e.trans s4.to1).write U2.tdn,(U2.L.same s4).write td4,by rw [upd_same,bC]; rfl,?_,?_,?_,hpH,ntd⟩
   ·have:la1≠td:=λ q=>by
     have h1:=U2.lst; rw [q,U2.told] at h1;have h2:=congrArg (λ o=>match o with | some (HO.lst xs)=>xs | _=>[]) h1;have h3:as.map V.ref=y4 left:=h2
     cases left with
     | nil=>exact hne rfl
     | cons a r =>
      cases as with
      | nil=>simp at h3
      | cons b r'=>simp at h3
    rw [i3 this]; exact s4 _ _ U2.lst
   ·have:pl≠td:=λ q=>by
     have h1:=hpl; rw [q,U2.told] at h1;have h2:=congrArg (λ o=>match o with | some (HO.lst xs)=>xs | _=>[]) h1;have h3:as.map V.ref=y4 (plc z hs left):=h2;obtain ⟨i,hi⟩:=a5E (z:=z) (a2P B.g U.lt) kt1 (by simpa using hne);have hi':i∈plc z hs left:=hi
     cases hq:plc z hs left with
     | nil=>rw [hq] at hi'; cases hi'
     | cons a r =>
      rw [hq] at h3
      cases as with
      | nil=>simp at h3
      | cons b r'=>simp at h3
    rw [i3 this]; exact s4 _ _ hpl
   ·refine NatsAt.snoc ⟨U2.at_.1,λ j a l ha hl=>?_⟩ ?_
    ·rw [i3 (U2.new a (aJ ha)).2]; exact s4 _ _ (U2.at_.2 j a l ha hl)
    ·rw [i3 ntd]; exact upd_same
  rintro σ2 H3 ⟨a,rfl,e3,L3,td3',la3,pl3,at3,aN,aT⟩;refine ⟨_,rfl,la1,rfl,⟨_,SqL.of la3⟩,λ p hp=>?_⟩;refine b2h (SqL.of la3) hp (by rw [aA]; omega) (λ j=>!(plc z hs left).contains j) (λ j x H4 N2 hx e hN=>?_) (λ H4 e hp4=>?_)
  ·refine ⟨_,rfl,_,rfl,pl,_,rfl,.inl (SqL.of (e _ _ pl3)),rfl,b0h _,_,rfl,?_⟩
   rw [if_pos rfl,a7u];exact hN
  have em:((aD (y4 left).length).filter λ j=>!(plc z hs left).contains j).map (λ i=>(y4 left).getD i .non)=y4 (rst z hs left):=by
   unfold rst y4;rw [aA,aM];refine cP λ j hj=>?_;have hjl:=bO.mp (dL.mp hj).1
   show (y4 left).getD j .non=V.int ((left.getD j 0:Nat):Int)
   rw [aG,a2t hjl]; rfl
  rw [em] at hp4;have hlt:=b4i (z:=z) B.g kt1 U.lt hne;refine ⟨⟨p,rst z hs left,as++[a],done++[lvl z hs left],_,rfl,e3.trans e.to1,L3.same e,U.tdn,e _ _ td3',hp4,⟨at3.1,λ j b l hb hl=>e _ _ (at3.2 j b l hb hl)⟩,λ b hb=>?_,λ j hj=>U.lt j (a4Q hj),?_,?_⟩,?_⟩
  ·rcases aQ.mp hb with hb | hb
   ·exact U.new b hb
   ·rw [bN.mp hb]; exact ⟨aN,aT⟩
  ·obtain ⟨m,hm1,hm2⟩:=U.all
   cases m with
   | zero=>have:left=[]:=fF (by omega); exact absurd this hne
   | succ m =>
    refine ⟨m,by omega,?_⟩;rw [S3 hne] at hm2;rw [cX]; exact hm2
  ·have:=U.few
   rw [aO,dN]; omega
  ·have l1:a7g 3 [some (.ref ba),some (.str z),some (.ref td),some (.ref p),some (.ref pl)] H4=(rst z hs left).length:=by
    show (match H4 p with | some (.lst xs)=>xs.length | _=>0)=_
    rw [hp4]; exact aA _
   have l2:a7g 3 [some (.ref ba),some (.str z),some (.ref td),some (.ref la1),o] H1=left.length:=by
    show (match H1 la1 with | some (.lst xs)=>xs.length | _=>0)=_
    rw [U.lst]; exact aA _
   show a7g 3 [some (.ref ba),some (.str z),some (.ref td),some (.ref p),some (.ref pl)] H4<_
   rw [l1,l2]; exact hlt
end
def O7 (z:Str) (h:c7):List Int:=aI h.1.length 0++h.2++aI (E2 z).length 0
def R3 (z:Str) (h:c7):List Int:=h.1++aI h.2.length 0++(E2 z).map (λ x=>-x)
def E6 (z:Str) (hs:List c7) (h:c7):List (List Int):=hs.map (v8 z)++[R3 z h]
theorem b6y:(["sign"]:List Str).Nodup:=by decide +kernel
section
variable {P:Program} {w:World} {K:W.Frag} {mg:Str->Option Value} {base:Heap} {f Pt d:Addr} {fd:FuncData} {n:Nat} {C:Addr}
abbrev OfG (z:Str) (hs:List c7) (h:c7) (S:Lp.Bo):Prop:=Lp.Of (hs.length+1) (h.1.length+h.2.length+(E2 z).length) (T4 (E6 z hs h)) (E7 (M9 hs)) (E7 (O7 z h)) S
def a7D (K:W.Frag) (Pt:Addr):Sp:=λ vs H Q _=>∃ (ba:Addr) (hv:V) (xs:List V) (hs:List c7) (h:c7) (z:Str) (far:Int) (kt kg m q:Nat),vs=[.ref ba,hv,.str z]/\Q9 z/\SqL K H ba xs/\Bk K H xs hs/\HS K H hv h/\HG far kt kg h/\(∀ h∈hs,HG far kt kg h)/\far<=2 ^ 60 ∧
 hs.length<=16/\kt<=20/\kg<=20/\m=hs.length+1/\q=h.1.length+h.2.length+(E2 z).length/\LT Pt H ∧
 (∀ (S:Lp.Bo) (H':Hp) (t aa wa:Addr),OfG z hs h S->(∀ j,j<q->¬ S.T m j<0)->Sz 4000 m q S->Same1 Pt H H'->LT Pt H'->H' t=some (.tup [.int (S.T m q),.ref aa,.ref wa,.int S.d]) →
  H' aa=some (.lst ((p6 m q S).map V.int))->H' wa=some (.lst ((D7 m q S).map V.int))->Q (.ref t) H') ∧
 ∀ (S:Lp.Bo) (H':Hp) (c:Nat),OfG z hs h S->c<q->S.T m c<0->(∀ i,i<m->¬ 0<S.T i c)->Same1 Pt H H'->LT Pt H'->Q .non H'
theorem scGi:m6 ["houses","house","sizes","takes","gives","signs","given","paid"] ["houses","house","sizes"] (i5 a1O):=⟨rfl,rfl,rfl,by decide +kernel,rfl,by decide +kernel,by decide +kernel⟩
noncomputable def giT {cdv:Value} {A:Around} {outer:List Env} {s:Shared} {H:Hp} {E:XK} {f1 f2:Addr} {d1 d2:FuncData} (N:w8 mg) (G:Sg K w.params mg d) (Cg:D3 P w K mg base n "greatest" ["goal","rows","bounds"] (L0 K C Pt) f1 d1) (Ch:D3 P w K mg base n "house_rows" ["houses","sizes"] (F0 K) f2 d2)
  (hr:Room n (A.deeper (dB "greatest_given" (i5 a1O) s.heap.objs.size f cdv))) :
  { t:TS // PSs (M0 E4 P w K mg base ["houses","house","sizes","takes","gives","signs","given","paid"] "greatest_given" (i5 a1O) f cdv A outer s H E).nox (v5 a1O) t } :=
 ⟨_,i6 (K4 (pv 1) (S5 rfl (j3 (i7 (i:=3) scGi.nd rfl (aC rfl)) (j3 (i7 (i:=4) scGi.nd rfl (aC rfl)) v7))))
  (i6 (j4 (i:=5) scGi.nd rfl (aC rfl) (t9 C8 rfl N.list dI (c5 (j7 (a6k K w.params rfl rfl) (a2p (v:=.ref d) rfl G.m rfl) (pv 2) (λ _ _=>rfl)) c6)))
  (m8 (j4 (i:=6) scGi.nd rfl (aC rfl) (j0 B6 (j0 B6 (j0 Q7 (v6 (c5 d0 c6)) (j9 j6 rfl N.len bR (c5 (pv 3) c6))) (t9 C8 rfl N.list dI (c5 (pv 4) c6))) (j0 Q7 (v6 (c5 d0 c6)) (j9 j6 rfl N.len bR (c5 (pv 5) c6)))))
  (m8 (j4 (i:=7) scGi.nd rfl (aC rfl) (j0 B6 (j0 B6 (t9 C8 rfl N.list dI (c5 (pv 3) c6)) (j0 Q7 (v6 (c5 d0 c6)) (j9 j6 rfl N.len bR (c5 (pv 4) c6)))) (O3 ["sign"] [] rfl (w4 (pv 5)) (λ _ _ _ _=>i7 (i:=0) b6y rfl (aC rfl)) (λ _ _ _ _=>R1 K5 (pv 0)))))
  (i8 (r6 (i9 Cg.ok hr rfl Cg.m Cg.k Cg.b .nil r8 (c5 (pv 6) (c5 (j0 B6 (i9 Ch.ok hr rfl Ch.m Ch.k Ch.b .nil r8 (c5 (pv 0) (c5 (pv 2) c6))) (v6 (c5 (pv 7) c6)))
   (c5 (j0 B6 (j0 Q7 (v6 (c5 d0 c6)) (j9 j6 rfl N.len bR (c5 (pv 0) c6))) (v6 (c5 d0 c6))) c6)))))))))⟩
theorem b4Z {z:Str} {hs:List c7} {h:c7} {far:Int} {kt kg:Nat} (hh:HG far kt kg h) (hhs:∀ h∈hs,HG far kt kg h) (hf:far<=2 ^ 60) (q:Nat) :
  ∀ v,Lp.Fits (2 ^ 60) (hs.length+1+1) (Lp.Vv (hs.length+1) q (T4 (E6 z hs h)) (E7 (M9 hs)) (E7 (O7 z h)) v):=by
 have ht:∀ g:c7,HG far kt kg g->∀ x∈g.1,x.natAbs<=2 ^ 60:=λ g hg x hx=>by have:=hg.t x hx; omega
 have hg':∀ g:c7,HG far kt kg g->∀ x∈g.2,x.natAbs<=2 ^ 60:=λ g hg x hx=>by have:=hg.g x hx; omega
 have z0:∀ k:Nat,∀ x∈List.replicate k (0:Int),x.natAbs<=2 ^ 60:=λ k x hx=>by rw [(fZ.mp hx).2]; decide
 have rows:∀ r∈E6 z hs h,∀ x∈r,x.natAbs<=2 ^ 60:=λ r hr x hx=>by
  unfold E6 at hr;rcases aQ.mp hr with hr | hr
  ·obtain ⟨g,hg,rfl⟩:=aK.mp hr
   unfold v8 at hx;rcases aQ.mp hx with hx | hx
   ·rcases aQ.mp hx with hx | hx
    ·obtain ⟨y,hy,rfl⟩:=aK.mp hx
     have:=ht g (hhs g hg) y hy;rw [eQ]; exact this
    ·exact hg' g (hhs g hg) x hx
   ·exact a0f z x hx
  ·rw [bN.mp hr] at hx
   unfold R3 at hx;rcases aQ.mp hx with hx | hx
   ·rcases aQ.mp hx with hx | hx
    ·exact ht h hh x hx
    ·exact z0 _ x hx
   ·obtain ⟨y,hy,rfl⟩:=aK.mp hx
    have:=a0f z y hy;rw [eQ]; exact this
 have goal:∀ x∈O7 z h,x.natAbs<=2 ^ 60:=λ x hx=>by
  unfold O7 at hx;rcases aQ.mp hx with hx | hx
  ·rcases aQ.mp hx with hx | hx
   ·exact z0 _ x hx
   ·exact hg' h hh x hx
  ·exact z0 _ x hx
 have bnds:∀ x∈M9 hs,x.natAbs<=2 ^ 60:=λ x hx=>by
  unfold M9 at hx;rcases aQ.mp hx with hx | hx
  ·exact z0 _ x hx
  ·rw [bN.mp hx]; decide
 intro v i _;unfold Lp.Vv
 split
 ·split
  ·unfold T4
   refine N7 (λ x hx=>?_) v;rw [aG] at hx
   cases e:(E6 z hs h)[i]? with
   | none=>rw [e] at hx; cases hx
   | some r=>rw [e] at hx; exact rows r (aJ e) x hx
  ·split
   ·rw [eQ]; exact N7 goal v
   ·exact cB _
 ·split
  ·split <;> decide
  ·split
   ·exact N7 bnds i
   ·exact cB _
end
section
variable {P:Program} {w:World} {K:W.Frag} {mg:Str->Option Value} {base:Heap} {f Pt d:Addr} {fd:FuncData} {n:Nat} {C:Addr}
theorem b0U {f1 f2:Addr} {d1 d2:FuncData} (F:Fun K "greatest_given" "greatest_given" a1O f fd) (N:w8 mg) (G:Sg K w.params mg d) (Cg:D3 P w K mg base n "greatest" ["goal","rows","bounds"] (L0 K C Pt) f1 d1) (Ch:D3 P w K mg base n "house_rows" ["houses","sizes"] (F0 K) f2 d2) :
  FnOk P w K mg base E4 (n+1) f fd ["houses","house","sizes"] (a7D K Pt):=by
 refine F.ok scGi (λ vs H Q E h=>?_) (λ cdv A outer s H vs Q E hr h=>?_)
 ·obtain ⟨ba,hv,xs,hs,h,z,far,kt,kg,m,q,rfl,_⟩:=h
  rfl
 obtain ⟨ba,hv,xs,hs,h,z,far,kt,kg,m,q,rfl,hz,hB,hBk,hHS,hh,hhs,hfar,h16,hkt,hkg,rfl,rfl,L,kT,kN⟩:=h;refine ⟨_,(giT N G Cg Ch hr).2,?_⟩;obtain ⟨ha,ta,ga,rfl,p1,p2,p3⟩:=id hHS;obtain ⟨t,ht,hT⟩:=G.tt z hz;have xl:xs.length=hs.length:=Paired.length hBk;have sg:=a0a z;have s1k:=j8 (show (1000:Nat)<=1000 from aH _);have l1:=hh.lt;have l2:=hh.lg;refine ⟨_,rfl,ha,_,rfl,p1,rfl,_,_,rfl,_,_,rfl,rfl,?_⟩;refine ⟨_,rfl,d,z,t,rfl,rfl,G.k,ht,t,_,rfl,.inr (hT _),λ sl hsl=>?_⟩;have e0:=Same.new hsl (.lst ((E2 z).map V.int));have hS0:upd H sl (.lst ((E2 z).map V.int)) sl=some (.lst ((E2 z).map V.int)):=upd_same;refine ⟨λ σ' H1=>∃ ea:Addr,σ'=[some (.ref ba),some (.ref ha),some (.str z),some (.ref ta),some (.ref ga),some (.ref sl),some (.ref ea),none]/\Same (upd H sl (.lst ((E2 z).map V.int))) H1/\H1 ea=some (.lst ((O7 z h).map V.int)),?_,?_⟩
 ·refine ⟨(by show 1<=sizeLine; decide),λ a1 h1=>?_⟩
  have s1:=Same.new h1 (.lst [.int 0]);refine ⟨_,rfl,ta,_,rfl,.inr (s1.tseq (e0.tseq p2)),a1,_,_,rfl,rfl,upd_same,by omega,by rw [aA,l1]; omega,by rw [aA,l1,bF]; simp; omega,λ a2 h2=>?_⟩;rw [aA,bF,K8];have s2:=s1.trans (Same.new h2 (.lst ((aI h.1.length (0:Int)).map V.int)));refine ⟨_,rfl,ga,_,rfl,.inr (s2.tseq (e0.tseq p3)),λ a3 h3=>?_⟩;have s3:=s2.trans (Same.new h3 (.lst (h.2.map V.int)));have n23:a2≠a3:=i4 upd_same h3;refine ⟨a2,a3,_,_,rfl,rfl,(by rw [i3 n23]; exact upd_same),upd_same,?_,λ a4 h4=>?_⟩
  ·rw [aA,aA,aX,l1,l2]; omega
  have s4:=s3.trans (Same.new h4 (.lst ((aI h.1.length (0:Int)).map V.int++h.2.map V.int)));refine ⟨(by show 1<=sizeLine; decide),λ a5 h5=>?_⟩;have s5:=s4.trans (Same.new h5 (.lst [.int 0]));have lz:((E2 z).map V.int).length=(E2 z).length:=aA _;refine ⟨_,rfl,sl,_,rfl,.inl (SqL.of (s5 _ _ hS0)),a5,_,_,rfl,rfl,upd_same,by omega,by rw [lz]; omega,by rw [lz,bF]; simp; omega,λ a6 h6=>?_⟩;rw [lz,bF,K8];have c4:=(Same.new h6 (.lst ((aI (E2 z).length (0:Int)).map V.int))) a4 _ ((Same.new h5 (.lst [.int 0])) a4 _ upd_same);refine ⟨a4,a6,_,_,rfl,rfl,c4,upd_same,?_,λ a7 h7=>?_⟩
  ·rw [aO,aA,aA,aA,aX,aX,l1,l2]; omega
  refine ⟨a7,rfl,(s5.trans (Same.new h6 _)).trans (Same.new h7 _),?_⟩;rw [upd_same];unfold O7;rw [bC,bC]
 rintro σ1 H1 ⟨ea,rfl,e1,he⟩;have e01:=e0.trans e1;refine ⟨λ σ' H2=>∃ pa:Addr,σ'=[some (.ref ba),some (.ref ha),some (.str z),some (.ref ta),some (.ref ga),some (.ref sl),some (.ref ea),some (.ref pa)]/\Same H1 H2/\H2 pa=some (.lst ((R3 z h).map V.int)),?_,?_⟩
 ·refine ⟨_,rfl,ta,_,rfl,.inr (e01.tseq p2),λ a1 h1=>?_⟩
  have s1:=Same.new h1 (.lst (h.1.map V.int));refine ⟨(by show 1<=sizeLine; decide),λ a2 h2=>?_⟩;have s2:=s1.trans (Same.new h2 (.lst [.int 0]));have n12:a1≠a2:=i4 upd_same h2;refine ⟨_,rfl,ga,_,rfl,.inr (s2.tseq (e01.tseq p3)),a2,_,_,rfl,rfl,upd_same,by omega,by rw [aA,l2]; omega,by rw [aA,l2,bF]; simp; omega,λ a3 h3=>?_⟩;rw [aA,bF,K8];have s3:=s2.trans (Same.new h3 (.lst ((aI h.2.length (0:Int)).map V.int)));have c1:=(Same.new h3 (.lst ((aI h.2.length (0:Int)).map V.int))) a1 _ ((Same.new h2 (.lst [.int 0])) a1 _ upd_same);refine ⟨a1,a3,_,_,rfl,rfl,c1,upd_same,?_,λ a4 h4=>?_⟩
  ·rw [aA,aA,aX,l1,l2]; omega
  have s4:=s3.trans (Same.new h4 (.lst (h.1.map V.int++(aI h.2.length (0:Int)).map V.int)));have lz:((E2 z).map V.int).length=(E2 z).length:=aA _;refine ⟨_,rfl,sl,rfl,⟨_,SqL.of (s4 _ _ (e1 _ _ hS0))⟩,λ a5 h5=>?_⟩;refine N9 (u9 (SqL.of (s4 _ _ (e1 _ _ hS0)))) h5 (by rw [lz]; omega) (λ x=>.int (-(vI x))) (λ j x H' N2 hx2 e2 hN2=>?_) ?_
  ·obtain ⟨x',rfl,_⟩:=U1 hx2
   exact ⟨Wk.set (by decide),_,rfl,_,rfl,hN2⟩
  have eg:((E2 z).map V.int).map (λ x=>V.int (-(vI x)))=((E2 z).map λ x=>-x).map V.int:=by rw [aM,aM]; rfl
  rw [eg];have n45:a4≠a5:=i4 upd_same h5;refine ⟨a4,a5,_,_,rfl,rfl,(by rw [i3 n45]; exact upd_same),upd_same,?_,λ a6 h6=>?_⟩
  ·rw [aO,aA,aA,aA,aA,aX,l1,l2]; omega
  refine ⟨a6,rfl,(s4.trans (Same.new h5 _)).trans (Same.new h6 _),?_⟩;rw [upd_same];unfold R3;rw [bC,bC]
 rintro σ2 H2 ⟨pa,rfl,e2,hp⟩;have e02:=e01.trans e2;refine ⟨_,rfl,_,rfl,_,rfl,?_⟩;refine ⟨ba,xs,hs,z,kt,kg,rfl,hz,e02.seq hB,hBk.same e02,by omega,by omega,by omega,λ g hg=>⟨(hhs g hg).lt,(hhs g hg).lg⟩,λ r H3 rs e3 hr3 lr hrs=>?_⟩;refine ⟨_,rfl,(by show 1<=sizeLine; decide),λ a1 h1=>?_⟩;have s1:=e3.trans (Same.new h1 (.lst [.ref pa]));have nr1:r≠a1:=i4 hr3 h1;refine ⟨r,a1,_,_,rfl,rfl,(by rw [i3 nr1]; exact hr3),upd_same,?_,λ a2 h2=>?_⟩
 ·rw [aA,lr]; simp; omega
 have t2:=(Same.new h1 (.lst [.ref pa])).trans (Same.new h2 (.lst (rs.map V.ref++[.ref pa])));have s2:=s1.trans (Same.new h2 (.lst (rs.map V.ref++[.ref pa])));refine ⟨(by show 1<=sizeLine; decide),λ a3 h3=>?_⟩;have t3:=t2.trans (Same.new h3 (.lst [.int 0]));have s3:=s2.trans (Same.new h3 (.lst [.int 0]));refine ⟨_,rfl,ba,_,rfl,.inl ((e02.trans s3).seq hB),a3,_,_,rfl,rfl,upd_same,by omega,by rw [xl]; omega,by rw [xl,bF]; simp; omega,λ a4 h4=>?_⟩;rw [xl,bF,K8];have t4:=t3.trans (Same.new h4 (.lst ((aI hs.length (0:Int)).map V.int)));have s4:=s3.trans (Same.new h4 (.lst ((aI hs.length (0:Int)).map V.int)));refine ⟨(by show 1<=sizeLine; decide),λ a5 h5=>?_⟩;have t5:=t4.trans (Same.new h5 (.lst [.int 1]));have s5:=s4.trans (Same.new h5 (.lst [.int 1]));have n45:a4≠a5:=i4 upd_same h5;refine ⟨a4,a5,_,_,rfl,rfl,(by rw [i3 n45]; exact upd_same),upd_same,?_,λ a6 h6=>?_⟩
 ·rw [aA,aX]; simp; omega
 have t6:=t5.trans (Same.new h6 (.lst ((aI hs.length (0:Int)).map V.int++[.int 1])));have s6:=s5.trans (Same.new h6 (.lst ((aI hs.length (0:Int)).map V.int++[.int 1])));have g3:∀ b o,upd (upd H3 a1 (.lst [.ref pa])) a2 (.lst (rs.map V.ref++[.ref pa])) b=some o->upd (upd (upd (upd (upd (upd H3 a1 (.lst [.ref pa])) a2 (.lst (rs.map V.ref++[.ref pa]))) a3 (.lst [.int 0])) a4 (.lst ((aI hs.length (0:Int)).map V.int))) a5 (.lst [.int 1])) a6 (.lst ((aI hs.length (0:Int)).map V.int++[.int 1])) b=some o :=
  (((Same.new h3 (.lst [.int 0])).trans (Same.new h4 (.lst ((aI hs.length (0:Int)).map V.int)))).trans (Same.new h5 (.lst [.int 1]))).trans (Same.new h6 (.lst ((aI hs.length (0:Int)).map V.int++[.int 1])))
 have eb:(aI hs.length (0:Int)).map V.int++[.int 1]=(M9 hs).map V.int:=by unfold M9; rw [bC]; rfl
 have hA:Same H (upd (upd (upd (upd (upd (upd H3 a1 (.lst [.ref pa])) a2 (.lst (rs.map V.ref++[.ref pa]))) a3 (.lst [.int 0])) a4 (.lst ((aI hs.length (0:Int)).map V.int))) a5 (.lst [.int 1])) a6 (.lst ((aI hs.length (0:Int)).map V.int++[.int 1]))):=e02.trans s6;refine ⟨ea,a2,a6,O7 z h,rs.map V.ref++[.ref pa],E6 z hs h,M9 hs,hs.length+1,h.1.length+h.2.length+(E2 z).length,2 ^ 60,rfl,SqL.of (s6 _ _ (e2 _ _ he)),SqL.of (g3 _ _ upd_same),?_,?_,?_,?_,?_,?_,by omega,by omega,?_,b4Z hh hhs hfar _,b0C _ (by omega),L.same hA,λ S H' t' aa wa O hn sz e' L' g1 g2 g4=>kT S H' t' aa wa O hn sz (λ b o hb q'=>e' b o hb (hA b o q')) L' g1 g2 g4,λ S H' c O hc hneg hno e' L'=>kN S H' c O hc hneg hno (λ b o hb q'=>e' b o hb (hA b o q')) L'⟩
 ·unfold E6
  refine Paired.app ((a7P (K:=K) lr hrs).same t6) (.cons ⟨pa,rfl,SqL.of (s6 _ _ hp)⟩ .nil)
 ·rw [<- eb]; exact SqL.of upd_same
 ·unfold E6; simp
 ·unfold M9; simp
 ·unfold O7; simp [iY]
 ·intro r hr
  unfold E6 at hr;rcases aQ.mp hr with hr | hr
  ·obtain ⟨g,hg,rfl⟩:=aK.mp hr
   unfold v8;rw [aO,aO,aA,(hhs g hg).lt,(hhs g hg).lg,l1,l2]
  ·rw [bN.mp hr]
   unfold R3;simp;omega
 ·intro i hi
  unfold E7 M9;rw [aG]
  by_cases h':i<hs.length
  ·rw [bK (by simpa using h'),cV,if_pos h']; exact bL _
  ·rw [bZ (by simp; omega)]
   have:i - (aI hs.length (0:Int)).length=0:=by simp; omega
   rw [this]; decide
end
structure b5m (z:Str) (hs:List c7) (h:c7) (S:Lp.Bo) (kt kg:Nat) (ws:List Int):Prop where
 lw:ws.length=hs.length
 nn:∀ x∈ws,0<=x/\Big 20000 x
 size:a3y z ws.sum (S.T (mE hs) (qE z h))
 takes:∀ j,j<kt->D6 hs ws 0 j<=h.1.getD j 0*S.T (mE hs) (qE z h)
 gives:∀ j,j<kg->h.2.getD j 0*S.d<=D6 hs ws 1 j
 pos:0<S.T (mE hs) (qE z h)
 le:S.T (mE hs) (qE z h)<=S.d
 fair:∀ g∈hs,D5 g (pgA h (p6 (mE hs) (qE z h) S)) (psA z h (p6 (mE hs) (qE z h) S))<=O5 g (ptA h (p6 (mE hs) (qE z h) S))
 pays:O5 h (ptA h (p6 (mE hs) (qE z h) S)) - psA z h (p6 (mE hs) (qE z h) S)=S.d
 gvs:r9 h.2 (pgA h (p6 (mE hs) (qE z h) S))=S.T (mE hs) (qE z h)
 pr:PrN (ptA h (p6 (mE hs) (qE z h) S)) (pgA h (p6 (mE hs) (qE z h) S)) (psA z h (p6 (mE hs) (qE z h) S)) (S.T (mE hs) (qE z h)) kt kg
 sign:a2V z (psA z h (p6 (mE hs) (qE z h) S))
theorem a8T {z:Str} {h:c7} (xs:List Int):r9 (R3 z h) xs=O5 h (ptA h xs) - psA z h xs:=by
 unfold R3 O5;rw [a9I,N3,a0p,aX,E8 (E2 z)];dsimp only [r9,ptA,pgA,psA];omega
theorem a8h {z:Str} {h:c7} (xs:List Int):r9 (O7 z h) xs=r9 h.2 (pgA h xs):=by
 unfold O7;rw [a9I,N3,N3,aX];dsimp only [r9,ptA,pgA,psA];omega
def BestG (z:Str) (hs:List c7) (h:c7) (S:Lp.Bo):Prop:=OfG z hs h S/\(∀ j,j<qE z h->¬ S.T (mE hs) j<0)/\Sz 4000 (mE hs) (qE z h) S
theorem a3E {z:Str} {hs:List c7} {h:c7} {S:Lp.Bo} {far:Int} {kt kg i:Nat} (hz:Q9 z) (B:BestG z hs h S) (hG:∀ g∈hs,HG far kt kg g) (hh:hs[i]?=some h) (kt1:1<=kt) (kt4:kt<=20) (kg4:kg<=20) :
  b5m z hs h S kt kg ((D7 (mE hs) (qE z h) S).take hs.length):=by
 obtain ⟨O,hn,sz⟩:=B;have gh:=hG h (aJ hh);have hil:i<hs.length:=(aU.mp hh).1;have hk:∀ g∈hs,g.1.length=kt/\g.2.length=kg:=λ g hg=>⟨(hG g hg).lt,(hG g hg).lg⟩;have sg:=a0a z;generalize hm:mE hs=m at *;generalize hq:qE z h=q at *;have hm':m=hs.length+1:=hm.symm;have hq':q=kt+kg+(E2 z).length:=by rw [<- hq]; show h.1.length+h.2.length+_=_; rw [gh.lt,gh.lg]
 replace O:Lp.Of m q (T4 (E6 z hs h)) (E7 (M9 hs)) (E7 (O7 z h)) S:=by rw [hm',<- hq]; exact O
 have lr:(E6 z hs h).length=m:=by unfold E6; simp [hm']
 have lrow:∀ g∈hs,(v8 z g).length=q:=λ g hg=>by unfold v8; simp [(hk g hg).1,(hk g hg).2,hq']; omega
 have lpaid:(R3 z h).length=q:=by unfold R3; simp [gh.lt,gh.lg,hq']; omega
 have lgoal:(O7 z h).length=q:=by unfold O7; simp [gh.lt,gh.lg,hq']; omega
 have lb:(M9 hs).length=m:=by unfold M9; simp [hm']
 have la:(p6 m q S).length=q:=by unfold p6; simp
 have lw:(D7 m q S).length=m:=by unfold D7; simp
 have hsp:D7 m q S=(D7 m q S).take hs.length++[Lp.valOut m q S (q+hs.length)]:=by rw [hm']; exact a4b
 generalize hws:(D7 m q S).take hs.length=ws at *;generalize hwn:Lp.valOut m q S (q+hs.length)=wn at *;have lws:ws.length=hs.length:=by rw [<- hws,bU,lw]; omega
 have wnn:∀ x∈ws,0<=x/\Big 20000 x:=λ x hx=>by
  have hx':x∈D7 m q S:=by rw [hsp]; exact dC _ hx
  refine ⟨b0A hn x hx',?_⟩;unfold D7 at hx';obtain ⟨k,hk',rfl⟩:=aK.mp hx';exact (a7Q O sz (by have:=bO.mp hk'; omega)).mono (by decide)
 have pos:=O.w.pos;have eT:wn=S.T m q:=by
  have:=a7s O lb;rw [hsp] at this;unfold M9 at this;rw [V3 (by rw [aX]; exact lws.symm),N3] at this;omega
 have colA:∀ j,r9 (col (E6 z hs h) j) (D7 m q S)=r9 (col (hs.map (v8 z)) j) ws+(R3 z h).getD j 0*wn:=λ j=>by
  rw [hsp];unfold E6;rw [a5J,V3 (by unfold col; rw [aA,aA,lws])]
 have tk:∀ j,j<kt->D6 hs ws 0 j<=h.1.getD j 0*wn:=λ j hj=>by
  have:=a0o O hn lr (j:=j) (by omega);rw [colA,a3U hk ws hj] at this;unfold O7 R3 at this;rw [T1,T1,aX,if_pos (by rw [gh.lt]; omega),if_pos (by rw [gh.lt]; omega),J4] at this;omega
 have gv:∀ j,j<kg->h.2.getD j 0*S.d<=D6 hs ws 1 j:=λ j hj=>by
  have:=a0o O hn lr (j:=kt+j) (by omega);rw [colA,a4d hk ws hj] at this;unfold O7 R3 at this;rw [T1,T1,aX,aX,gh.lt,gh.lg,if_neg (by omega),if_pos (by omega),if_neg (by omega),if_pos (by omega),eI,J4] at this;omega
 have szc:∀ t,t<(E2 z).length->(E2 z).getD t 0*wn<=(E2 z).getD t 0*ws.sum:=λ t ht=>by
  have:=a0o O hn lr (j:=kt+kg+t) (by omega);rw [colA,a5P hk lws.symm t] at this;unfold O7 R3 at this;rw [T1,T1,aX,aX,gh.lt,gh.lg,if_neg (by omega),if_neg (by omega),if_neg (by omega),if_neg (by omega),eI,J4,a0W,eM] at this;omega
 have size:a3y z ws.sum wn:=by
  rcases hz with rfl | rfl | rfl | rfl
  ·exact ⟨λ h=>absurd h (by decide),λ h=>absurd h (by decide)⟩
  ·have s0:(1:Int)*wn<=1*ws.sum:=szc 0 (by decide)
   have s1:(-1:Int)*wn <= -1*ws.sum:=szc 1 (by decide);exact ⟨λ _=>by omega,λ _=>by omega⟩
  ·have s1:(-1:Int)*wn <= -1*ws.sum:=szc 0 (by decide)
   exact ⟨λ _=>by omega,λ h=>absurd h (by decide)⟩
  ·have s0:(1:Int)*wn<=1*ws.sum:=szc 0 (by decide)
   exact ⟨λ h=>absurd h (by decide),λ _=>by omega⟩
 have posT:0<wn:=by
  obtain ⟨y,hy,y0⟩:=gh.p;obtain ⟨j,hj⟩:=cR hy;have hjl:j<kg:=by have:=(aU.mp hj).1; rw [gh.lg] at this; exact this
  have yD:h.2.getD j 0=y:=by rw [aG,hj]; rfl
  have g1:=gv j hjl;rw [yD] at g1;have g2:0<D6 hs ws 1 j:=gC (cO y0 pos) g1;have nnc:∀ x∈col (hs.map (K2 1)) j,0<=x:=λ x hx=>by
   unfold col at hx;obtain ⟨r,hr,rfl⟩:=aK.mp hx;obtain ⟨g,hg,rfl⟩:=aK.mp hr;have hg':=hG g hg;have hl:j<(K2 1 g).length:=by show j<g.2.length; rw [hg'.lg]; exact hjl
   rw [aG,aF hl];exact (hg'.g _ (cD hl)).1
  obtain ⟨k,hk1,hk2⟩:=a0B nnc (λ x hx=>(wnn x hx).1) g2;have pc:∀ x∈col (hs.map (K2 0)) 0,0<x:=λ x hx=>by
   unfold col at hx;obtain ⟨r,hr,rfl⟩:=aK.mp hx;obtain ⟨g,hg,rfl⟩:=aK.mp hr;have hg':=hG g hg;have hl:0<(K2 0 g).length:=by show 0<g.1.length; rw [hg'.lt]; omega
   rw [aG,aF hl];have:=(hg'.t _ (cD hl)).1
   show 0<(K2 0 g)[0]
   omega
  have g3:0<D6 hs ws 0 0:=a0H pc (λ x hx=>(wnn x hx).1) (by unfold col; rw [aA,aA,lws]) ⟨k,hk1,hk2⟩;have g4:=tk 0 (by omega);have hl:0<h.1.length:=by rw [gh.lt]; omega
  have h0:1<=h.1.getD 0 0:=by
   rw [aG,aF hl];exact (gh.t _ (cD hl)).1
  have g5:0<h.1.getD 0 0*wn:=gC g3 g4
  by_cases hw:0<wn
  ·exact hw
  ·have:=cF (show 0<=h.1.getD 0 0 by omega) (show 0 <= -wn by omega)
   rw [cY] at this;omega
 have fair:∀ g∈hs,D5 g (pgA h (p6 m q S)) (psA z h (p6 m q S))<=O5 g (ptA h (p6 m q S)):=λ g hg=>by
  obtain ⟨k,hk'⟩:=cR hg;have hkl:=(aU.mp hk').1;have hr:(E6 z hs h)[k]?=some (v8 z g):=by
   unfold E6;rw [bK (by rw [aA]; exact hkl),aE,hk']; rfl
  have:=a2k O (i:=k) (by omega) hr (lrow g hg);rw [a2m (h:=h) (by rw [(hk g hg).1,gh.lt]) (by rw [(hk g hg).2,gh.lg])] at this;unfold M9 at this;rw [A8,aX,if_pos hkl,J4,dG] at this;omega
 have hr:(E6 z hs h)[hs.length]?=some (R3 z h):=by
  unfold E6;rw [bZ (by rw [aA]; exact aH _),aA,eF]; rfl
 have pays:O5 h (ptA h (p6 m q S)) - psA z h (p6 m q S)=S.d:=by
  have:=a3B O hn (i:=hs.length) (by omega) hr lpaid (by rw [hwn]; exact posT);rw [a8T] at this;unfold M9 at this;rw [A8,aX,if_neg (by omega),eF] at this;rw [this];exact dP _
 have gvs:r9 h.2 (pgA h (p6 m q S))=S.T m q:=by rw [<- a8h (z:=z)]; exact a3o O lgoal
 have anb:∀ x∈p6 m q S,0<=x/\Big 4000 x:=λ x hx=>by
  refine ⟨a4E O x hx,?_⟩;unfold p6 at hx;obtain ⟨k,hk',rfl⟩:=aK.mp hx;exact a7z O sz (bO.mp hk')
 have d4:S.T m q<2 ^ 4000:=by
  have h1:(S.T m q).natAbs<2 ^ 4000:=sz.1 m q (by omega) (by omega);have h3:S.T m q=((S.T m q).natAbs:Int):=by omega
  rw [h3]
  exact_mod_cast h1
 refine ⟨lws,wnn,?_,λ j hj=>?_,gv,?_,?_,?_,?_,?_,?_,?_⟩
 ·rw [hm,hq,<- eT]; exact size
 ·rw [hm,hq,<- eT]; exact tk j hj
 ·rw [hm,hq,<- eT]; exact posT
 ·rw [hm,hq,<- gvs,<- pays]
  have:=fair h (aJ hh);unfold D5 at this;dsimp only [r9] at *;omega
 ·rw [hm,hq]; exact fair
 ·rw [hm,hq]; exact pays
 ·rw [hm,hq]; exact gvs
 ·rw [hm,hq]
  refine ⟨?_,?_,λ x hx=>?_,λ x hx=>?_,?_,by rw [<- eT]; exact posT,d4⟩
  ·rw [bU,la,gh.lt]; omega
  ·rw [bU,cW,la,gh.lt,gh.lg]; omega
  ·have:=anb x (dQ hx)
   exact ⟨this.1,this.2.mono (by decide)⟩
  ·have:=anb x (dR (dQ hx))
   exact ⟨this.1,this.2.mono (by decide)⟩
  ·exact a5T (λ x hx=>(anb x (dR hx)).2) (by rw [cW,la]; omega)
 ·rw [hm,hq]
  exact a2B hz λ x hx=>(anb x (dR hx)).1
theorem a8r {z:Str} {hs:List c7} {h:c7} {i:Nat} (hi:hs[i]?=some h) (j:Nat):T4 (E6 z hs h) i j+T4 (E6 z hs h) hs.length j=E7 (O7 z h) j:=by
 have hil:i<hs.length:=(aU.mp hi).1;have e1:(E6 z hs h)[i]?=some (v8 z h):=by
  unfold E6;rw [bK (by rw [aA]; exact hil),aE,hi]; rfl
 have e2:(E6 z hs h)[hs.length]?=some (R3 z h):=by
  unfold E6;rw [bZ (by rw [aA]; exact aH _),aA,eF]; rfl
 rw [P8 e1,P8 e2];unfold E7 v8 R3 O7;simp only [A8,J4,a0W,aO,aA,aX]
 by_cases h1:j<h.1.length
 ·rw [if_pos (by omega),if_pos h1,if_pos (by omega),if_pos h1,if_pos (by omega),if_pos h1]; omega
 ·by_cases h2:j<h.1.length+h.2.length
  ·rw [if_pos h2,if_neg h1,if_pos h2,if_neg h1,if_pos h2,if_neg h1,dO]
  ·rw [if_neg h2,if_neg h2,if_neg h2]; omega
section
variable {P:Program} {w:World} {K:W.Frag} {mg:Str->Option Value} {base:Heap} {f Pt d CN:Addr} {fd:FuncData} {n:Nat} {C:Addr}
theorem scGw:m6 ["book","number","sizes","top","amounts","weights","bottom"] ["book","number","sizes"] (i5 a4H):=⟨rfl,rfl,rfl,by decide +kernel,rfl,by decide +kernel,by decide +kernel⟩
def a0S (K:W.Frag) (CN Pt:Addr):Sp:=λ vs H Q E=>∃ (ba:Addr) (xs:List V) (hs:List c7) (number:Int) (z:Str) (far:Int) (kt kg:Nat),vs=[.ref ba,.int number,.str z]/\Q9 z/\BookIn K H ba xs hs far kt kg/\1<=kt/\number.natAbs.log2<1920/\LT Pt H ∧
 (∀ (i:Nat) (h:c7) (S:Lp.Bo) (H':Hp) (u:V),number=(i:Int)->hs[i]?=some h->BestG z hs h S->Same1 Pt H H'->LT Pt H'->FrT H' u (low S.d (S.T (mE hs) (qE z h)))->Q u H')/\(¬ a0O xs.length number->E (.ref CN) none H)
theorem a8Y {f1 f2 f3:Addr} {d1 d2 d3:FuncData} (F:Fun K "growth" "growth" a4H f fd) (Ch:X6 P w K mg base n "house_of" ["book","number"] (a1o K CN) f1 d1) (Ce:D3 P w K mg base n "greatest_given" ["houses","house","sizes"] (a7D K Pt) f2 d2)
  (Cl:Cal P w K mg base n "lowest" ["top","bottom"] a1l f3 d3):FnOk P w K mg base (CX1 P w) (n+1) f fd ["book","number","sizes"] (a0S K CN Pt):=by
 refine F.ok1 scGw (λ vs H Q E h=>?_) (λ cdv A outer s H vs Q E hr h=>?_)
 ·obtain ⟨ba,xs,hs,number,z,far,kt,kg,rfl,_⟩:=h
  rfl
 obtain ⟨ba,xs,hs,number,z,far,kt,kg,rfl,hz,B,kt1,lm,L,kG,kE⟩:=h;refine ⟨_,i6 (K4 (i9 Ce.ok hr rfl Ce.m Ce.k Ce.b .nil r8 (c5 (pv 0) (c5 (i9 Ch.ok hr rfl Ch.m Ch.k Ch.b .nil Z6 (c5 (pv 0) (c5 (pv 1) c6))) (c5 (pv 2) c6))))
   (S5 rfl (j3 (i7 (i:=3) scGw.nd rfl (aC rfl)) (j3 (i7 (i:=4) scGw.nd rfl (aC rfl)) (j3 (i7 (i:=5) scGw.nd rfl (aC rfl)) (j3 (i7 (i:=6) scGw.nd rfl (aC rfl)) v7))))))
  (PSs.nox (i8 (r6 (i9 Cl.ok hr rfl Cl.m Cl.k Cl.b .nil r8 (c5 (pv 6) (c5 (pv 3) c6)))))),?_⟩
 refine ⟨_,rfl,_,rfl,_,rfl,ba,xs,number,rfl,B.l,lm,λ i hv hi hx=>?_,kE⟩;obtain ⟨h,hh,hH⟩:=Paired.at B.b hx;have gh:=B.g h (aJ hh);refine ⟨_,rfl,ba,hv,xs,hs,h,z,far,kt,kg,mE hs,qE z h,rfl,hz,B.l,B.b,hH,gh,B.g,B.far,B.few,B.t,B.k,rfl,rfl,L,λ S H' t aa wa O hn sz e' L' g1 g2 g3=>?_,λ S H' c O hc hneg hno e' L'=>(O.bounded (i0:=i) (l:=hs.length) (by have:=(aU.mp hh).1; omega) (by omega) (λ j _=>a8r hh j) hc hneg hno).elim⟩;have Bs:BestG z hs h S:=⟨O,hn,sz⟩;have TD:=a3E hz Bs B.g hh kt1 B.t B.k;have b1:=TD.pos;have b2:S.T (mE hs) (qE z h)<2 ^ 8000:=jF TD.pr.d2 (by exact_mod_cast iB (show 1<2 by decide) (show 4000<8000 by decide));refine ⟨t,_,rfl,SqT.of g1,rfl,_,_,rfl,_,_,rfl,_,_,rfl,_,_,rfl,rfl,?_⟩;exact ⟨_,rfl,_,rfl,_,_,rfl,b1,b2,λ u H2 e2 hu=>kG i h S H2 u hi hh Bs (λ b o hb q'=>e2 _ _ (e' b o hb q')) (L'.same e2) hu⟩
end
structure Mx (z:Str) (hs:List c7) (ws:List Int) (D:Int):Prop where
 lw:ws.length=hs.length
 nn:∀ x∈ws,0<=x
 d:0<D
 size:a3y z ws.sum D
structure Px (z:Str) (hs:List c7) (kt kg:Nat) (pt pg:List Int) (ps:Int):Prop where
 lt:pt.length=kt
 lg:pg.length=kg
 tn:∀ x∈pt,0<=x
 gn:∀ x∈pg,0<=x
 sign:a2V z ps
 fair:∀ g∈hs,D5 g pg ps<=O5 g pt
theorem B9 (a b:Int) (l x:List Int):r9 (a::l) (b::x)=a*b+r9 l x:=rfl
theorem a3a {f:c7->List Int} {k:Nat}:∀ {hs:List c7} {ws p:List Int},ws.length=hs.length->(∀ g∈hs,(f g).length=k)->p.length=k →
  r9 (hs.map λ g=>r9 (f g) p) ws=r9 ((aD k).map λ j=>r9 (hs.map λ g=>(f g).getD j 0) ws) p
 | [],ws,p,_,_,hp=>by
  have e:∀ (l:List Nat) (p:List Int),r9 (l.map λ _=>(0:Int)) p=0:=λ l=>by
   induction l with
   | nil=>intro p; simp [r9]
   | cons a r ih =>
    intro p
    cases p with
    | nil=>simp [r9]
    | cons b p=>rw [bJ,B9,ih p]; omega
  show (0:Int)=_
  rw [show ((aD k).map λ j=>r9 (([]:List c7).map λ g=>(f g).getD j 0) ws)=(aD k).map λ _=>(0:Int) from cP λ j _=>by simp [r9],e]
 | g::hs,[],p,h,_,_=>by simp at h
 | g::hs,w::ws,p,h,hk,hp=>by
  have ih:=a3a (f:=f) (k:=k) (hs:=hs) (ws:=ws) (p:=p) (by simpa using h) (λ x hx=>hk x (.tail _ hx)) hp;rw [bJ,B9,ih];have e1:((aD k).map λ j=>r9 ((g::hs).map λ g=>(f g).getD j 0) (w::ws))=bB (·+·) ((f g).map λ x=>x*w) ((aD k).map λ j=>r9 (hs.map λ g=>(f g).getD j 0) ws):=by
   have lg:=hk g (.head _);refine cK λ j=>?_
   by_cases hj:j<k
   ·rw [aE,bQ hj,hU,aE,aE,bQ hj,aF (by rw [lg]; exact hj)]
    simp only [fD];rw [bJ,B9,aG,aF (by rw [lg]; exact hj)]; rfl
   ·rw [bH (by simp; omega),bH (by simp; omega)]
  rw [e1,E8 (bB _ _ _) p,a2C (by simp [hk g (.head _)]),E8 p,E8 p]
  congr 1
  have:∀ (l p:List Int),r9 (l.map λ x=>x*w) p=r9 l p*w:=λ l=>by
   induction l with
   | nil=>intro p; simp [r9]
   | cons a r ih =>
    intro p
    cases p with
    | nil=>simp [r9]
    | cons b p =>
     rw [bJ,B9,B9,ih p,cL]
     congr 1
     ac_rfl
  rw [this]
theorem S9:∀ {l m p:List Int},l.length=m.length->(∀ x∈p,0<=x)->(∀ j,j<l.length->l.getD j 0<=m.getD j 0)->r9 l p<=r9 m p
 | [],[],p,_,_,_=>bL _
 | a::l,b::m,[],_,_,_=>bL _
 | a::l,b::m,c::p,h,hp,hj=>by
  have ih:=S9 (l:=l) (m:=m) (p:=p) (by simpa using h) (λ x hx=>hp x (.tail _ hx)) λ j hl=>by
   have:=hj (j+1) (by simpa using hl)
   simpa using this
  have h0:a<=b:=by simpa using hj 0 (by simp)
  rw [B9,B9];have:=cI h0 (hp c (.head _));omega
 | [],_::_,_,h,_,_=>by simp at h
 | _::_,[],_,h,_,_=>by simp at h
theorem J6 (s:Int):∀ (l p:List Int),r9 (l.map λ x=>x*s) p=r9 l p*s
 | [],p=>by simp [r9]
 | a::l,[]=>by simp [r9]
 | a::l,b::p=>by
  rw [bJ,B9,B9,J6 s l p,cL]
  congr 1
  ac_rfl
section
variable {z:Str} {hs:List c7} {h:c7} {kt kg:Nat} {ws pt pg:List Int} {D ps:Int}
theorem a0R (j i:Nat):D6 hs ws j i=r9 (hs.map λ g=>(K2 j g).getD i 0) ws:=by
 unfold D6 col;rw [aM]; rfl
theorem a3p (hz:Q9 z) (M:Mx z hs ws D) (P:Px z hs kt kg pt pg ps) (hk:∀ g∈hs,g.1.length=kt/\g.2.length=kg) :
  r9 ((aD kg).map λ j=>D6 hs ws 1 j) pg+ps*D<=r9 ((aD kt).map λ j=>D6 hs ws 0 j) pt:=by
 have e0:r9 (hs.map λ g=>O5 g pt) ws=r9 ((aD kt).map λ j=>D6 hs ws 0 j) pt:=by
  have:=a3a (f:=λ g=>g.1) (hs:=hs) (ws:=ws) (p:=pt) M.lw (λ g hg=>(hk g hg).1) P.lt;rw [show (λ j=>D6 hs ws 0 j)=λ j=>r9 (hs.map λ g=>g.1.getD j 0) ws from funext λ j=>a0R 0 j];exact this
 have e1:r9 (hs.map λ g=>r9 g.2 pg) ws=r9 ((aD kg).map λ j=>D6 hs ws 1 j) pg:=by
  have:=a3a (f:=λ g=>g.2) (hs:=hs) (ws:=ws) (p:=pg) M.lw (λ g hg=>(hk g hg).2) P.lg;rw [show (λ j=>D6 hs ws 1 j)=λ j=>r9 (hs.map λ g=>g.2.getD j 0) ws from funext λ j=>a0R 1 j];exact this
 have e2:r9 (hs.map λ g=>D5 g pg ps) ws=r9 (hs.map λ g=>r9 g.2 pg) ws+ps*ws.sum:=by
  have:∀ (hs:List c7) (ws:List Int),hs.length=ws.length->r9 (hs.map λ g=>D5 g pg ps) ws=r9 (hs.map λ g=>r9 g.2 pg) ws+ps*ws.sum:=λ hs=>by
   induction hs with
   | nil =>
    intro ws hl;rw [fF hl.symm]; simp [r9]
   | cons g r ih =>
    intro ws hl
    cases ws with
    | nil=>simp at hl
    | cons w ws =>
     have:=ih ws (by simpa using hl);rw [bJ,bJ,B9,B9,this,bW];have e:D5 g pg ps=r9 g.2 pg+ps:=rfl;rw [e,cL,fQ];omega
  exact this hs ws M.lw.symm
 have le:r9 (hs.map λ g=>D5 g pg ps) ws<=r9 (hs.map λ g=>O5 g pt) ws:=by
  refine S9 (by simp) M.nn λ j hj=>?_;have hj':j<hs.length:=by simpa using hj
  rw [aG,aG,aE,aE,aF hj'];exact P.fair _ (cD hj')
 have sz:ps*D<=ps*ws.sum:=by
  obtain ⟨s1,s2⟩:=M.size;obtain ⟨g1,g2⟩:=P.sign;rcases hz with c | c | c | c
  ·have:=g1 (.inl c); have:=g2 (.inl c)
   have:ps=0:=by omega
   rw [this]; simp
  ·have a1:=s1 (.inl c)
   have a2:=s2 (.inl c);have:ws.sum=D:=by omega
   rw [this]; exact bL _
  ·have a1:=g1 (.inr c)
   have a2:=s1 (.inr c);have:=eP a2 (show 0 <= -ps by omega);rw [eM,eM] at this;omega
  ·have a1:=g2 (.inr c)
   have a2:=s2 (.inr c);exact eP a2 a1
 rw [e0,e2,e1] at le;omega
structure Shr (z:Str) (hs:List c7) (h:c7) (kt kg:Nat) (A B:Int) (ws:List Int) (D:Int):Prop where
 m:Mx z hs ws D
 t:∀ j,j<kt->D6 hs ws 0 j*B<=h.1.getD j 0*A*D
 g:∀ j,j<kg->h.2.getD j 0*D<=D6 hs ws 1 j
structure Gro (z:Str) (hs:List c7) (h:c7) (kt kg:Nat) (A B:Int) (ws:List Int) (D:Int):Prop where
 m:Mx z hs ws D
 t:∀ j,j<kt->D6 hs ws 0 j<=h.1.getD j 0*D
 g:∀ j,j<kg->h.2.getD j 0*A*D<=D6 hs ws 1 j*B
theorem Z5 {k:Nat} {F:Nat->Int} {j:Nat} (h:j<k):((aD k).map F).getD j 0=F j:=X7 h
theorem Shr.weak {A B:Int} (hz:Q9 z) (S:Shr z hs h kt kg A B ws D) (P:Px z hs kt kg pt pg ps) (hk:∀ g∈hs,g.1.length=kt/\g.2.length=kg) (h1:h.1.length=kt) (h2:h.2.length=kg) (hB:0<B):D5 h pg ps*B<=A*O5 h pt:=by
 have L:=a3p hz S.m P hk;have dp:=S.m.d;have a1:r9 h.2 pg*D<=r9 ((aD kg).map λ j=>D6 hs ws 1 j) pg:=by
  rw [<- J6];refine S9 (by simp [h2]) P.gn λ j hj=>?_;have hj':j<kg:=by simpa [h2] using hj
  rw [Z5 hj',aG,aE,aF (by omega)];have:=S.g j hj';rw [aG,aF (by omega)] at this;exact this
 have a2:r9 ((aD kt).map λ j=>D6 hs ws 0 j) pt*B<=r9 h.1 pt*(A*D):=by
  rw [<- J6,<- J6];refine S9 (by simp [h1]) P.tn λ j hj=>?_;have hj':j<kt:=by simpa using hj
  rw [aG,aE,aE,bQ hj',aG,aE,aF (by omega)];have:=S.t j hj';rw [aG,aF (by omega)] at this
  show D6 hs ws 0 j*B<=h.1[j]*(A*D)
  rw [<- aW]; exact this
 refine fA (a:=D) ?_ dp;have e1:D5 h pg ps=r9 h.2 pg+ps:=rfl;have e2:O5 h pt=r9 h.1 pt:=rfl;rw [e1,e2];have b1:=cI L (aL hB);have b2:=cI a1 (aL hB);have x1:(r9 h.2 pg+ps)*B*D=r9 h.2 pg*D*B+ps*D*B:=by rw [cL,cL]; congr 1 <;> ac_rfl
 have x2:A*r9 h.1 pt*D=r9 h.1 pt*(A*D):=by ac_rfl
 rw [cL] at b1;rw [x1,x2];omega
theorem Gro.weak {A B:Int} (hz:Q9 z) (S:Gro z hs h kt kg A B ws D) (P:Px z hs kt kg pt pg ps) (hk:∀ g∈hs,g.1.length=kt/\g.2.length=kg) (h1:h.1.length=kt) (h2:h.2.length=kg) (hB:0<B):A*r9 h.2 pg<=(O5 h pt - ps)*B:=by
 have L:=a3p hz S.m P hk;have dp:=S.m.d;have a1:r9 h.2 pg*(A*D)<=r9 ((aD kg).map λ j=>D6 hs ws 1 j) pg*B:=by
  rw [<- J6,<- J6];refine S9 (by simp [h2]) P.gn λ j hj=>?_;have hj':j<kg:=by simpa [h2] using hj
  rw [aG,aE,aF (by omega),aG,aE,aE,bQ hj'];have:=S.g j hj';rw [aG,aF (by omega)] at this
  show h.2[j]*(A*D)<=D6 hs ws 1 j*B
  rw [<- aW]; exact this
 have a2:r9 ((aD kt).map λ j=>D6 hs ws 0 j) pt<=r9 h.1 pt*D:=by
  rw [<- J6];refine S9 (by simp [h1]) P.tn λ j hj=>?_;have hj':j<kt:=by simpa using hj
  rw [Z5 hj',aG,aE,aF (by omega)];have:=S.t j hj';rw [aG,aF (by omega)] at this;exact this
 refine fA (a:=D) ?_ dp;have e2:O5 h pt=r9 h.1 pt:=rfl;rw [e2];have b1:=cI L (aL hB);have b2:=cI a2 (aL hB);have x1:(r9 h.1 pt - ps)*B*D=r9 h.1 pt*D*B - ps*D*B:=by rw [gX,gX]; congr 1 <;> ac_rfl
 have x2:A*r9 h.2 pg*D=r9 h.2 pg*(A*D):=by ac_rfl
 rw [cL] at b1;rw [x1,x2];omega
def IsShare (z:Str) (hs:List c7) (h:c7) (kt kg:Nat) (A B:Int):Prop:=0<B/\(∃ ws D,Shr z hs h kt kg A B ws D)/\∃ pt pg ps,Px z hs kt kg pt pg ps/\0<O5 h pt/\D5 h pg ps*B=A*O5 h pt
def IsGrow (z:Str) (hs:List c7) (h:c7) (kt kg:Nat) (A B:Int):Prop:=0<B/\(∃ ws D,Gro z hs h kt kg A B ws D)/\∃ pt pg ps,Px z hs kt kg pt pg ps/\0<r9 h.2 pg/\A*r9 h.2 pg=(O5 h pt - ps)*B
theorem IsShare.le {A B A' B':Int} (hz:Q9 z) (I:IsShare z hs h kt kg A B) (hk:∀ g∈hs,g.1.length=kt/\g.2.length=kg) (h1:h.1.length=kt) (h2:h.2.length=kg) (hB:0<B') {ws:List Int} {D:Int} (S:Shr z hs h kt kg A' B' ws D):A*B'<=A'*B:=by
 obtain ⟨b,_,pt,pg,ps,P,pp,e⟩:=I;have w:=S.weak hz P hk h1 h2 hB;refine fA (a:=O5 h pt) ?_ pp;have x:=cI w (aL b);have y1:D5 h pg ps*B'*B=D5 h pg ps*B*B':=by ac_rfl
 rw [y1,e] at x;have y2:A*O5 h pt*B'=A*B'*O5 h pt:=by ac_rfl
 have y3:A'*O5 h pt*B=A'*B*O5 h pt:=by ac_rfl
 omega
theorem IsGrow.ge {A B A' B':Int} (hz:Q9 z) (I:IsGrow z hs h kt kg A B) (hk:∀ g∈hs,g.1.length=kt/\g.2.length=kg) (h1:h.1.length=kt) (h2:h.2.length=kg) (hB:0<B') {ws:List Int} {D:Int} (S:Gro z hs h kt kg A' B' ws D):A'*B<=A*B':=by
 obtain ⟨b,_,pt,pg,ps,P,pp,e⟩:=I;have w:=S.weak hz P hk h1 h2 hB;refine fA (a:=r9 h.2 pg) ?_ pp;have x:=cI w (aL b);have y1:(O5 h pt - ps)*B'*B=(O5 h pt - ps)*B*B':=by ac_rfl
 rw [y1,<- e] at x;have y2:A'*r9 h.2 pg*B=A'*B*r9 h.2 pg:=by ac_rfl
 have y3:A*r9 h.2 pg*B'=A*B'*r9 h.2 pg:=by ac_rfl
 omega
theorem IsShare.eq {A B A' B':Int} (hz:Q9 z) (I:IsShare z hs h kt kg A B) (J:IsShare z hs h kt kg A' B') (hk:∀ g∈hs,g.1.length=kt/\g.2.length=kg) (h1:h.1.length=kt) (h2:h.2.length=kg):A*B'=A'*B:=by
 obtain ⟨_,⟨ws,D,S⟩,_⟩:=id J;obtain ⟨_,⟨ws',D',S'⟩,_⟩:=id I;have a:=I.le hz hk h1 h2 J.1 S;have b:=J.le hz hk h1 h2 I.1 S';omega
theorem IsGrow.eq {A B A' B':Int} (hz:Q9 z) (I:IsGrow z hs h kt kg A B) (J:IsGrow z hs h kt kg A' B') (hk:∀ g∈hs,g.1.length=kt/\g.2.length=kg) (h1:h.1.length=kt) (h2:h.2.length=kg):A*B'=A'*B:=by
 obtain ⟨_,⟨ws,D,S⟩,_⟩:=id J;obtain ⟨_,⟨ws',D',S'⟩,_⟩:=id I;have a:=I.ge hz hk h1 h2 J.1 S;have b:=J.ge hz hk h1 h2 I.1 S';omega
theorem Best.is {S:Lp.Bo} {far:Int} (hz:Q9 z) (B:Best z hs h S) (hG:∀ g∈hs,HG far kt kg g) (gh:HG far kt kg h) (kt1:1<=kt) (kt4:kt<=20) (kg4:kg<=20):IsShare z hs h kt kg (S.T (mE hs) (qE z h)) S.d:=by
 have T:=a7F hz B hG gh kt1 kt4 kg4;have dp:=B.1.w.pos;refine ⟨dp,⟨_,_,⟨T.lw,λ x hx=>(T.nn x hx).1,dp,T.size⟩,λ j hj=>?_,T.gives⟩,_,_,_,⟨T.pr.lt,T.pr.lg,λ x hx=>(T.pr.bt x hx).1,λ x hx=>(T.pr.bg x hx).1,T.sign,T.fair⟩,by rw [T.pays]; exact dp,by rw [T.pays,T.earns]⟩;exact cI (T.takes j hj) (aL dp)
theorem BestG.is {S:Lp.Bo} {far:Int} {i:Nat} (hz:Q9 z) (B:BestG z hs h S) (hG:∀ g∈hs,HG far kt kg g) (hh:hs[i]?=some h) (kt1:1<=kt) (kt4:kt<=20) (kg4:kg<=20):IsGrow z hs h kt kg S.d (S.T (mE hs) (qE z h)):=by
 have T:=a3E hz B hG hh kt1 kt4 kg4;refine ⟨T.pos,⟨_,_,⟨T.lw,λ x hx=>(T.nn x hx).1,T.pos,T.size⟩,T.takes,λ j hj=>cI (T.gives j hj) (aL T.pos)⟩,_,_,_,⟨T.pr.lt,T.pr.lg,λ x hx=>(T.pr.bt x hx).1,λ x hx=>(T.pr.bg x hx).1,T.sign,T.fair⟩,by rw [T.gvs]; exact T.pos,by rw [T.pays,T.gvs]⟩
end
def M3 (n i:Nat):List Int:=(aD n).map λ k=>if k=i then 1 else 0
theorem a1N:∀ {n i:Nat} {l:List Int},l.length=n->i<n->r9 l (M3 n i)=l.getD i 0:=λ {n i l} hl hi=>by
 rw [<- E5 n l (M3 n i) hl (by unfold M3; simp),Lp.sum_one hi λ k hk hn=>by unfold M3; rw [X7 hk,if_neg hn,bM]];unfold M3;rw [X7 hi,if_pos rfl,dZ]
theorem a8U {n i:Nat} (hi:i<n):(M3 n i).sum=1:=by
 have h1:=a7a (M3 n i);rw [<- h1,show (M3 n i).map (λ _=>(1:Int))=aI n 1 by unfold M3; rw [aM]; exact List.eq_replicate_iff.mpr ⟨by simp,λ b hb=>by obtain ⟨_,_,rfl⟩:=aK.mp hb; rfl⟩,a1N (by simp) hi,aG,cV,if_pos hi]; rfl
section
variable {z:Str} {hs:List c7} {h:c7} {kt kg i:Nat}
theorem b1A (hi:i<hs.length):Mx z hs (M3 hs.length i) 1 :=
 ⟨by unfold M3; simp,λ x hx=>by
  unfold M3 at hx;obtain ⟨k,_,rfl⟩:=aK.mp hx
  split <;> decide,by decide,by rw [a8U hi]; exact ⟨λ _=>bL _,λ _=>bL _⟩⟩
theorem a4i (hh:hs[i]?=some h) (j k:Nat):D6 hs (M3 hs.length i) j k=(K2 j h).getD k 0:=by
 have hi:i<hs.length:=(aU.mp hh).1;rw [a0R,a1N (by simp) hi,aG (l:=jC _ hs),aE,hh]; rfl
theorem a9m (hh:hs[i]?=some h):Shr z hs h kt kg 1 1 (M3 hs.length i) 1 :=
 ⟨b1A (aU.mp hh).1,λ j _=>by rw [a4i hh]; show h.1.getD j 0*1<=h.1.getD j 0*1*1; omega,λ j _=>by rw [a4i hh]; show h.2.getD j 0*1<=h.2.getD j 0; omega⟩
end
theorem a8E {l:List Int} {k:Nat}:r9 l (aI k 0)=0:=by rw [E8]; exact N3 k l
def IsNone (z:Str) (hs:List c7) (h:c7) (kt kg:Nat):Prop:=∃ pt pg ps,Px z hs kt kg pt pg ps/\O5 h pt<=0/\0<D5 h pg ps
theorem a1Y:∀ {l p:List Int} (m:List Int),l.length=p.length->(∀ x∈l,1<=x)->(∀ x∈p,0<=x)->r9 l p<=0->r9 m p=0
 | [],[],m,_,_,_,_=>by rw [E8]; simp [r9]
 | a::l,b::p,m,hl,h1,h2,h=>by
  rw [B9] at h;have nn:0<=r9 l p:=by
   have:∀ (l p:List Int),(∀ x∈l,1<=x)->(∀ x∈p,0<=x)->0<=r9 l p:=λ l=>by
    induction l with
    | nil=>intro p _ _; simp [r9]
    | cons a r ih =>
     intro p h1 h2
     cases p with
     | nil=>simp [r9]
     | cons b p =>
      rw [B9];have:=ih p (λ x hx=>h1 x (.tail _ hx)) λ x hx=>h2 x (.tail _ hx);have:=cF (show 0<=a by have:=h1 a (.head _); omega) (h2 b (.head _));omega
   exact this _ _ (λ x hx=>h1 x (.tail _ hx)) λ x hx=>h2 x (.tail _ hx)
  have hb:=h2 b (.head _);have ha:=h1 a (.head _);have hab:=cI ha hb;have b0:b=0:=by omega
  subst b0
  cases m with
  | nil=>simp [r9]
  | cons c m =>
   rw [B9,a1Y m (by simpa using hl) (λ x hx=>h1 x (.tail _ hx)) (λ x hx=>h2 x (.tail _ hx)) (by omega)];omega
 | [],_::_,_,h,_,_,_=>by simp at h
 | _::_,[],_,h,_,_,_=>by simp at h
section
variable {z:Str} {hs hs':List c7} {h:c7} {kt kg:Nat} {far:Int}
theorem none_of {S:Lp.Bo} {c:Nat} (hz:Q9 z) (O:OfE z hs h S) (hc:c<qE z h) (neg:S.T (mE hs) c<0) (no:∀ i,i<mE hs->¬ 0<S.T i c) (hG:∀ g∈hs,HG far kt kg g) (gh:HG far kt kg h):IsNone z hs h kt kg:=by
 obtain ⟨y,yn,rows,goal⟩:=O.way hc neg no;have hq:qE z h=h.1.length+h.2.length+(E2 z).length:=rfl;have hk:∀ g∈hs,g.1.length=h.1.length/\g.2.length=h.2.length:=λ g hg=>⟨(hG g hg).lt.trans gh.lt.symm,(hG g hg).lg.trans gh.lg.symm⟩;have lx:((aD (qE z h)).map y).length=qE z h:=by simp
 have sd:∀ l:List Int,l.length=qE z h->Lp.sumTo (λ j=>l.getD j 0*y j) (qE z h)=r9 l ((aD (qE z h)).map y):=λ l hl=>by
  rw [<- E5 _ l _ hl lx];exact Lp.sum_congr λ j hj=>by rw [X7 hj]
 have xn:∀ x∈(aD (qE z h)).map y,0<=x:=λ x hx=>by
  obtain ⟨j,hj,rfl⟩:=aK.mp hx;exact yn j (bO.mp hj)
 have fair:∀ g∈hs,D5 g (pgA h ((aD (qE z h)).map y)) (psA z h ((aD (qE z h)).map y))<=O5 g (ptA h ((aD (qE z h)).map y)):=λ g hg=>by
  obtain ⟨k,hk'⟩:=cR hg;have hkl:=(aU.mp hk').1;have hr:(C4 z hs h)[k]?=some (v8 z g):=by
   unfold C4;rw [bK (by rw [aA]; exact hkl),aE,hk']; rfl
  have r:=rows k (by omega);rw [show (λ j=>T4 (C4 z hs h) k j*y j)=λ j=>(v8 z g).getD j 0*y j from funext λ j=>by rw [P8 hr],sd _ (by unfold v8; simp [(hk g hg).1,(hk g hg).2]; omega),a2m (h:=h) (hk g hg).1 (hk g hg).2] at r;omega
 have hr:(C4 z hs h)[hs.length]?=some (N6 z h):=by
  unfold C4;rw [bZ (by rw [aA]; exact aH _),aA,eF]; rfl
 have pd:=rows hs.length (by omega);rw [show (λ j=>T4 (C4 z hs h) hs.length j*y j)=λ j=>(N6 z h).getD j 0*y j from funext λ j=>by rw [P8 hr],sd _ (by unfold N6; simp; omega),a5i] at pd;have gl:0<r9 (M7 z h) ((aD (qE z h)).map y):=by
  rw [<- sd _ (by unfold M7; simp; omega)]; exact goal
 rw [a5t] at gl;refine ⟨_,_,_,⟨?_,?_,λ x hx=>xn x (dQ hx),λ x hx=>xn x (dR (dQ hx)),a2B hz λ x hx=>xn x (dR hx),fair⟩,pd,gl⟩
 ·rw [bU,lx]
  have:=gh.lt
  show min h.1.length (h.1.length+h.2.length+(E2 z).length)=kt
  omega
 ·rw [bU,cW,lx]
  have:=gh.lg
  show min h.2.length (h.1.length+h.2.length+(E2 z).length - h.1.length)=kg
  omega
theorem IsNone.no (hz:Q9 z) (N:IsNone z hs h kt kg) (hk:∀ g∈hs,g.1.length=kt/\g.2.length=kg) (gh:HG far kt kg h) {ws:List Int} {D:Int} (M:Mx z hs ws D) (g:∀ j,j<kg->h.2.getD j 0*D<=D6 hs ws 1 j):False:=by
 obtain ⟨pt,pg,ps,P,p0,e0⟩:=N;have L:=a3p hz M P hk;have z0:=a1Y ((aD kt).map λ j=>D6 hs ws 0 j) (l:=h.1) (p:=pt) (by rw [gh.lt,P.lt]) (λ x hx=>(gh.t x hx).1) P.tn p0;rw [z0] at L;have a1:r9 h.2 pg*D<=r9 ((aD kg).map λ j=>D6 hs ws 1 j) pg:=by
  rw [<- J6];refine S9 (by simp [gh.lg]) P.gn λ j hj=>?_;have hj':j<kg:=by simpa [gh.lg] using hj
  rw [Z5 hj',aG,aE,aF (by rw [gh.lg]; exact hj')];have:=g j hj';rw [aG,aF (by rw [gh.lg]; exact hj')] at this;exact this
 have e1:D5 h pg ps=r9 h.2 pg+ps:=rfl;have:0<D5 h pg ps*D:=cO e0 M.d;rw [e1,cL] at this;omega
theorem IsNone.notShare (hz:Q9 z) (N:IsNone z hs h kt kg) (hk:∀ g∈hs,g.1.length=kt/\g.2.length=kg) (gh:HG far kt kg h) {A B:Int} (I:IsShare z hs h kt kg A B):False:=by
 obtain ⟨_,⟨ws,D,S⟩,_⟩:=I;exact N.no hz hk gh S.m S.g
theorem a7i:∀ {hs:List c7} {ws:List Int},ws.length=hs.length->(∀ x∈ws,0<=x)->(∀ g∈hs,g∈hs')->∃ ws':List Int,ws'.length=hs'.length/\(∀ x∈ws',0<=x)/\∀ f:c7->Int,r9 (hs'.map f) ws'=r9 (hs.map f) ws
 | [],ws,hl,_,_=>by
  rw [fF hl];exact ⟨List.replicate hs'.length 0,by simp,λ x hx=>by rw [(fZ.mp hx).2]; exact bL _,λ f=>by rw [a8E]; simp [r9]⟩
 | g::r,[],hl,_,_=>by simp at hl
 | g::r,w::ws,hl,hn,hm=>by
  obtain ⟨ws1,l1,n1,f1⟩:=a7i (hs:=r) (ws:=ws) (by simpa using hl) (λ x hx=>hn x (.tail _ hx)) λ x hx=>hm x (.tail _ hx);obtain ⟨i,hi⟩:=cR (hm g (.head _));have hil:=(aU.mp hi).1;have lu:(M3 hs'.length i).length=hs'.length:=by unfold M3; simp
  refine ⟨List.zipWith (·+·) ws1 ((M3 hs'.length i).map λ x=>x*w),by simp [l1,lu],λ x hx=>?_,λ f=>?_⟩
  ·obtain ⟨j,hj⟩:=cR hx
   rw [hU] at hj
   split at hj
   ·rename_i a b e1 e2
    have ha:=n1 a (aJ e1);rw [aE] at e2
    cases e3:(M3 hs'.length i)[j]? with
    | none=>rw [e3] at e2; cases e2
    | some u =>
     rw [e3] at e2
     cases e2;have hu:0<=u:=by
      have:=aJ e3;unfold M3 at this;obtain ⟨k,_,rfl⟩:=aK.mp this
      split <;> decide
     have:=cF hu (hn w (.head _))
     cases hj
     show 0<=a+u*w
     omega
   ·cases hj
  ·rw [a2C (by simp [l1,lu]),f1 f,E8 (hs'.map f) (jC _ _),J6,E8 (M3 _ _),a1N (by simp) hil,bJ,B9,aG,aE,hi]
   show _+f g*w=f g*w+_
   omega
theorem Mx.sub {ws:List Int} {D:Int} (M:Mx z hs ws D) (hm:∀ g∈hs,g∈hs'):∃ ws',Mx z hs' ws' D/\∀ j i,D6 hs' ws' j i=D6 hs ws j i:=by
 obtain ⟨ws',l,n,f⟩:=a7i M.lw M.nn hm;have s:ws'.sum=ws.sum:=by
  have:=f λ _=>1;rw [a0d 1 hs' ws' l.symm,a0d 1 hs ws M.lw.symm] at this;omega
 exact ⟨ws',⟨l,n,M.d,by rw [s]; exact M.size⟩,λ j i=>by rw [a0R,a0R]; exact f _⟩
theorem Shr.sub {A B:Int} {ws:List Int} {D:Int} (S:Shr z hs h kt kg A B ws D) (hm:∀ g∈hs,g∈hs'):∃ ws',Shr z hs' h kt kg A B ws' D:=by
 obtain ⟨ws',M,e⟩:=S.m.sub hm;exact ⟨ws',M,λ j hj=>by rw [e]; exact S.t j hj,λ j hj=>by rw [e]; exact S.g j hj⟩
theorem Gro.sub {A B:Int} {ws:List Int} {D:Int} (S:Gro z hs h kt kg A B ws D) (hm:∀ g∈hs,g∈hs'):∃ ws',Gro z hs' h kt kg A B ws' D:=by
 obtain ⟨ws',M,e⟩:=S.m.sub hm;exact ⟨ws',M,λ j hj=>by rw [e]; exact S.t j hj,λ j hj=>by rw [e]; exact S.g j hj⟩
theorem Px.sub {pt pg:List Int} {ps:Int} (P:Px z hs' kt kg pt pg ps) (hm:∀ g∈hs,g∈hs'):Px z hs kt kg pt pg ps:=⟨P.lt,P.lg,P.tn,P.gn,P.sign,λ g hg=>P.fair g (hm g hg)⟩
theorem IsShare.same {A B:Int} (I:IsShare z hs h kt kg A B) (h1:∀ g∈hs,g∈hs') (h2:∀ g∈hs',g∈hs):IsShare z hs' h kt kg A B:=by
 obtain ⟨b,⟨ws,D,S⟩,pt,pg,ps,P,pp,e⟩:=I;obtain ⟨ws',S'⟩:=S.sub h1;exact ⟨b,⟨ws',D,S'⟩,pt,pg,ps,P.sub h2,pp,e⟩
theorem IsGrow.same {A B:Int} (I:IsGrow z hs h kt kg A B) (h1:∀ g∈hs,g∈hs') (h2:∀ g∈hs',g∈hs):IsGrow z hs' h kt kg A B:=by
 obtain ⟨b,⟨ws,D,S⟩,pt,pg,ps,P,pp,e⟩:=I;obtain ⟨ws',S'⟩:=S.sub h1;exact ⟨b,⟨ws',D,S'⟩,pt,pg,ps,P.sub h2,pp,e⟩
theorem IsNone.notIn (hz:Q9 z) (N:IsNone z hs h kt kg) (hG:∀ g∈hs,HG far kt kg g) (hm:h∈hs):False:=by
 obtain ⟨i,hi⟩:=cR hm;have S:=a9m (z:=z) (kt:=kt) (kg:=kg) hi;exact N.no hz (λ g hg=>⟨(hG g hg).lt,(hG g hg).lg⟩) (hG h hm) S.m S.g
end
theorem O4 {X:Cx} {l:List Stmt}:PSs X l λ _ _ _=>False:=λ _ _ _ _ _ _ h=>h.elim
structure ShU (z:Str) (hs:List c7) (h:c7) (kt kg:Nat) (A B:Int):Prop where
 s:IsShare z hs h kt kg A B
 a:Big 20000 A
 p:0<A
 b:0<B
 c:B<2 ^ 8000
theorem Best.u {z:Str} {hs:List c7} {h:c7} {kt kg:Nat} {S:Lp.Bo} {far:Int} (hz:Q9 z) (B:Best z hs h S) (hG:∀ g∈hs,HG far kt kg g) (gh:HG far kt kg h) (kt1:1<=kt) (kt4:kt<=20) (kg4:kg<=20):ShU z hs h kt kg (S.T (mE hs) (qE z h)) S.d:=by
 have T:=a7F hz B hG gh kt1 kt4 kg4;obtain ⟨b1,b2⟩:=a7C B;exact ⟨B.is hz hG gh kt1 kt4 kg4,(B.2.2.1 _ _ (by omega) (by omega)).mono (by decide),T.pos,b1,b2⟩
theorem ShU.fr {z:Str} {hs:List c7} {h:c7} {kt kg:Nat} {A B A' B':Int} {far:Int} (hz:Q9 z) (x:ShU z hs h kt kg A B) (y:IsShare z hs h kt kg A' B') (hG:∀ g∈hs,HG far kt kg g) (gh:HG far kt kg h):Fr.low A B=Fr.low A' B' :=
 a2L x.b y.1 (x.s.eq hz y (λ g hg=>⟨(hG g hg).lt,(hG g hg).lg⟩) gh.lt gh.lg)
def Z2 {α:Type} (l:List α) (i:Nat):List α:=l.take i++l.drop (i+1)
theorem a5C {α:Type} {l:List α} {i:Nat} {g:α} (h:g∈Z2 l i):g∈l:=by
 rcases aQ.mp h with h | h
 ·exact dQ h
 ·exact dR h
theorem b0i {α:Type} {l:List α} {i:Nat}:(Z2 l i).length<=l.length:=by unfold Z2; simp; omega
theorem Paired.take {α β:Type} {F:α->β->Prop}:∀ {l₁:List α} {l₂:List β} (i:Nat),cS F l₁ l₂->cS F (l₁.take i) (l₂.take i)
 | _,_,0,_=>.nil
 | _,_,_+1,.nil=>.nil
 | _,_,i+1,.cons r t=>.cons r (Paired.take i t)
theorem Paired.drop {α β:Type} {F:α->β->Prop}:∀ {l₁:List α} {l₂:List β} (i:Nat),cS F l₁ l₂->cS F (l₁.drop i) (l₂.drop i)
 | _,_,0,h=>h
 | _,_,_+1,.nil=>.nil
 | _,_,i+1,.cons _ t=>Paired.drop i t
theorem Paired.app {α β:Type} {F:α->β->Prop}:∀ {l₁ m₁:List α} {l₂ m₂:List β},cS F l₁ l₂->cS F m₁ m₂->cS F (l₁++m₁) (l₂++m₂)
 | _,_,_,_,.nil,h=>h
 | _,_,_,_,.cons r t,h=>.cons r (Paired.app t h)
theorem Bk.out {K:W.Frag} {H:Hp} {xs:List V} {hs:List c7} (i:Nat) (B:Bk K H xs hs):Bk K H (Z2 xs i) (Z2 hs i):=Paired.app (Paired.take i B) (Paired.drop (i+1) B)
section
variable {P:Program} {w:World} {K:W.Frag} {mg:Str->Option Value} {base:Heap} {f Pt d CN CB:Addr} {fd:FuncData} {n:Nat} {C:Addr}
def b1P (K:W.Frag) (Pt:Addr):Sp:=λ vs H Q _=>∃ (ba:Addr) (hv:V) (xs:List V) (hs:List c7) (h:c7) (z:Str) (far:Int) (kt kg:Nat),vs=[.ref ba,hv,.str z]/\Q9 z/\BookIn K H ba xs hs far kt kg/\1<=kt/\HS K H hv h/\HG far kt kg h/\LT Pt H ∧
 (∀ (A B:Int) (H':Hp) (u:V),ShU z hs h kt kg A B->Same1 Pt H H'->LT Pt H'->FrT H' u (low A B)->Q u H')/\∀ H':Hp,IsNone z hs h kt kg->Same1 Pt H H'->LT Pt H'->Q .non H'
theorem a9y (F:FnOk P w K mg base E4 n f fd ["houses","house","sizes"] (a0I K Pt)):FnOk P w K mg base E4 n f fd ["houses","house","sizes"] (b1P K Pt):=F.imp λ vs H Q E h=>by
 obtain ⟨ba,hv,xs,hs,h,z,far,kt,kg,rfl,hz,B,kt1,hH,gh,L,kG,kN⟩:=h;exact ⟨ba,hv,xs,hs,h,z,far,kt,kg,rfl,hz,B,hH,gh,L,λ S H' u Bs e L' hu=>kG _ _ H' u (Bs.u hz B.g gh kt1 B.t B.k) e L' hu,λ S H' c O hc hneg hno e L'=>kN H' (none_of hz O hc hneg hno B.g gh) e L'⟩
def b0S (K:W.Frag) (CN Pt:Addr):Sp:=λ vs H Q E=>∃ (ba:Addr) (xs:List V) (hs:List c7) (number:Int) (z:Str) (far:Int) (kt kg:Nat),vs=[.ref ba,.int number,.str z]/\Q9 z/\BookIn K H ba xs hs far kt kg/\1<=kt/\number.natAbs.log2<1920/\LT Pt H ∧
 (∀ (i:Nat) (h:c7) (A B:Int) (H':Hp) (u:V),number=(i:Int)->hs[i]?=some h->ShU z hs h kt kg A B->Same1 Pt H H'->LT Pt H'->FrT H' u (low A B)->Q u H')/\(¬ a0O xs.length number->E (.ref CN) none H)
theorem a1w (F:FnOk P w K mg base (CX1 P w) n f fd ["book","number","sizes"] (a1a K CN Pt)):FnOk P w K mg base (CX1 P w) n f fd ["book","number","sizes"] (b0S K CN Pt):=F.imp λ vs H Q E h=>by
 obtain ⟨ba,xs,hs,number,z,far,kt,kg,rfl,hz,B,kt1,lm,L,kG,kE⟩:=h;exact ⟨ba,xs,hs,number,z,far,kt,kg,rfl,hz,B,lm,L,λ i h S H' u hi hh Bs e L' hu=>kG i h _ _ H' u hi hh (Bs.u hz B.g (B.g h (aJ hh)) kt1 B.t B.k) e L' hu,kE⟩
def a3N (K:W.Frag) (CN:Addr):Sp:=λ vs H Q E=>∃ (a:Addr) (xs:List V) (m:Int),vs=[.ref a,.int m]/\SqL K H a xs/\xs.length<=1000/\m.natAbs.log2<1920 ∧
 (∀ (i:Nat) (l:Addr) (H':Hp),m=(i:Int)->i<xs.length->Same H H'->H l=none->H' l=some (.lst (Z2 xs i))->Q (.ref l) H')/\(¬ a0O xs.length m->E (.ref CN) none H)
theorem b6w:m6 ["houses","number"] ["houses","number"] (i5 a2O):=⟨rfl,rfl,rfl,by decide +kernel,rfl,by decide +kernel,by decide +kernel⟩
theorem a6j {f1:Addr} {d1:FuncData} (F:Fun K "without" "without" a2O f fd) (Ch:X6 P w K mg base n "house_of" ["book","number"] (a1o K CN) f1 d1):FnOk P w K mg base (CX1 P w) (n+1) f fd ["houses","number"] (a3N K CN):=by
 refine F.ok1 b6w (λ vs H Q E h=>?_) (λ cdv A outer s H vs Q E hr h=>?_)
 ·obtain ⟨a,xs,m,rfl,_⟩:=h
  rfl
 obtain ⟨a,xs,m,rfl,hS,hl,hm,q,hE⟩:=h;refine ⟨_,i6 (U3 (i9 Ch.ok hr rfl Ch.m Ch.k Ch.b .nil Z6 (c5 (pv 0) (c5 (pv 1) c6))))
  (PSs.nox (i8 (r6 (j0 B6 (I0 P5 (pv 0) W5 (D4 (pv 1))) (I0 P5 (pv 0) (D4 (j0 C2 (pv 1) d0)) W5))))),?_⟩
 refine ⟨_,rfl,_,rfl,a,xs,m,rfl,hS,hm,λ i x hi hx=>?_,hE⟩;subst hi;have hil:=(aU.mp hx).1;refine ⟨_,rfl,_,rfl,_,rfl,a,_,rfl,hS,λ a1 h1=>?_⟩;rw [a3r _ _ (by omega)];have s1:=Same.new h1 (.lst (xs.take i));refine ⟨_,rfl,_,rfl,_,_,rfl,rfl,_,rfl,a,_,rfl,s1.seq hS,λ a2 h2=>?_⟩;rw [show ((i:Int)+1)=((i+1:Nat):Int) by omega,a5q _ _ (by omega)];have s2:=Same.new h2 (.lst (xs.drop (i+1)));refine ⟨a1,a2,_,_,rfl,rfl,s2 _ _ upd_same,upd_same,?_,λ p hp=>?_⟩
 ·have:=j8 (show (1000:Nat)<=1000 from aH _)
  simp; omega
 have s3:=Same.new hp (.lst (xs.take i++xs.drop (i+1)));refine q i p _ rfl hil ((s1.trans s2).trans s3) ?_ upd_same
 cases e:H p with
 | none=>rfl
 | some o=>rw [s2 _ _ (s1 _ _ e)] at hp; cases hp
def a3C (K:W.Frag) (CN Pt:Addr):Sp:=λ vs H Q E=>∃ (ba:Addr) (xs:List V) (hs:List c7) (number:Int) (z:Str) (far:Int) (kt kg:Nat),vs=[.ref ba,.int number,.str z]/\Q9 z/\BookIn K H ba xs hs far kt kg/\1<=kt/\number.natAbs.log2<1920/\LT Pt H ∧
 (∀ (i:Nat) (h:c7) (A B:Int) (H':Hp) (u:V),number=(i:Int)->hs[i]?=some h->ShU z (Z2 hs i) h kt kg A B->Same1 Pt H H'->LT Pt H'->FrT H' u (low A B)->Q u H') ∧
 (∀ (i:Nat) (h:c7) (H':Hp),number=(i:Int)->hs[i]?=some h->IsNone z (Z2 hs i) h kt kg->Same1 Pt H H'->LT Pt H'->Q .non H')/\(¬ a0O xs.length number->E (.ref CN) none H)
theorem scOt:m6 ["book","number","sizes","house"] ["book","number","sizes"] (i5 a4S):=⟨rfl,rfl,rfl,by decide +kernel,rfl,by decide +kernel,by decide +kernel⟩
theorem a8m {f1 f2 f3:Addr} {d1 d2 d3:FuncData} (F:Fun K "share_of_others" "share_of_others" a4S f fd) (Ch:X6 P w K mg base n "house_of" ["book","number"] (a1o K CN) f1 d1) (Cw:X6 P w K mg base n "without" ["houses","number"] (a3N K CN) f2 d2)
  (Ce:D3 P w K mg base n "held_against" ["houses","house","sizes"] (a0I K Pt) f3 d3):FnOk P w K mg base (CX1 P w) (n+1) f fd ["book","number","sizes"] (a3C K CN Pt):=by
 have Ce':=a9y Ce.ok;refine F.ok1 scOt (λ vs H Q E h=>?_) (λ cdv A outer s H vs Q E hr h=>?_)
 ·obtain ⟨ba,xs,hs,number,z,far,kt,kg,rfl,_⟩:=h
  rfl
 obtain ⟨ba,xs,hs,number,z,far,kt,kg,rfl,hz,B,kt1,lm,L,kG,kN,kE⟩:=h;refine ⟨_,i6 (j4 (i:=3) scOt.nd rfl (aC rfl) (i9 Ch.ok hr rfl Ch.m Ch.k Ch.b .nil Z6 (c5 (pv 0) (c5 (pv 1) c6))))
  (i8 (r6 (i9 Ce' hr rfl Ce.m Ce.k Ce.b .nil r8 (c5 (i9 Cw.ok hr rfl Cw.m Cw.k Cw.b .nil Z6 (c5 (pv 0) (c5 (pv 1) c6))) (c5 (pv 3) (c5 (pv 2) c6)))))),?_⟩
 have xl:xs.length=hs.length:=Paired.length B.b;have few:=B.few;refine ⟨_,rfl,_,rfl,ba,xs,number,rfl,B.l,lm,λ i hv hi hx=>?_,kE⟩;obtain ⟨h,hh,hH⟩:=Paired.at B.b hx;have gh:=B.g h (aJ hh);have hil:=(aU.mp hx).1;refine ⟨_,rfl,_,rfl,ba,xs,number,rfl,B.l,by omega,lm,λ i' l H1 hi' _ e1 hl hl'=>?_,λ bad=>absurd ⟨by omega,by omega⟩ bad⟩;have:i'=i:=by omega
 subst this;have L1:=L.same e1;refine ⟨_,rfl,_,rfl,l,hv,_,Z2 hs i',h,z,far,kt,kg,rfl,hz,⟨SqL.of hl',Bk.same e1 (B.b.out i'),λ g hg=>B.g g (a5C hg),B.far,aZ b0i few,B.t,B.k⟩,kt1,hH.same e1,gh,L1,λ A B H' u x e' L' hu=>kG i' h A B H' u hi hh x (e1.to1.trans e') L' hu,λ H' x e' L'=>kN i' h H' hi hh x (e1.to1.trans e') L'⟩
def a6Q (K:W.Frag):Sp:=λ vs H Q _=>∃ (u v:V) (g h:c7),vs=[u,v]/\HS K H u g/\HS K H v h/\Q (.bl (decide (g.1.length=h.1.length/\g.2.length=h.2.length))) H
theorem b5V:m6 ["house","other"] ["house","other"] (i5 a9x):=⟨rfl,rfl,rfl,by decide +kernel,rfl,by decide +kernel,by decide +kernel⟩
theorem b1g (F:Fun K "are_like_counts" "are_like_counts" a9x f fd) (T:w8 mg):FnOk P w K mg base E4 (n+1) f fd ["house","other"] (a6Q K):=by
 refine F.ok b5V (λ vs H Q E h=>?_) (λ cdv A outer s H vs Q E hr h=>?_)
 ·obtain ⟨u,v,g,h,rfl,_⟩:=h
  rfl
 obtain ⟨u,v,g,h,rfl,⟨a,t,e,rfl,a0,a1,a2⟩,⟨a',t',e',rfl,b0,b1,b2⟩,q⟩:=h;refine ⟨_,i8 (r6 (b3e (R5 a1e (j9 j6 rfl T.len bR (c5 (j7 A6 (pv 0) d0 (λ _ _=>rfl)) c6)) (j9 j6 rfl T.len bR (c5 (j7 A6 (pv 1) d0 (λ _ _=>rfl)) c6)) (p7 _))
  (b3P (R5 a1e (j9 j6 rfl T.len bR (c5 (j7 A6 (pv 0) d0 (λ _ _=>rfl)) c6)) (j9 j6 rfl T.len bR (c5 (j7 A6 (pv 1) d0 (λ _ _=>rfl)) c6)) (p7 _))))),?_⟩
 have l1:∀ l:List Int,((l.map V.int).length:Int)=(l.length:Int):=λ l=>by rw [aA]
 refine ⟨_,rfl,a,_,0,_,rfl,rfl,a0,T9 _ _,t,_,rfl,.inr a1,_,rfl,a',_,0,_,rfl,rfl,b0,T9 _ _,t',_,rfl,.inr b1,rfl,_,rfl,?_⟩;rw [l1,l1];refine C5 (λ c=>?_) (λ c=>?_)
 ·have c':g.1.length=h.1.length:=by have:=V.int.inj (of_decide_eq_true c); omega
  refine ⟨_,rfl,a,_,1,_,rfl,rfl,a0,Z0 _ _,e,_,rfl,.inr a2,_,rfl,a',_,1,_,rfl,rfl,b0,Z0 _ _,e',_,rfl,.inr b2,rfl,?_⟩;rw [l1,l1];refine a7V q ?_;simp [c'];omega
 ·have c':¬ g.1.length=h.1.length:=λ z=>c (decide_eq_true (by rw [z]))
  refine a7V q ?_;simp [c']
end
theorem b2A (x y:Q2):PyData.eqv (dF x) (dF y)=decide (x=y):=by
 unfold dF;rw [PyData.eqv,PyData.eqvAll,PyData.eqvAll,PyData.eqvAll,PyData.eqv,PyData.eqv,lI];obtain ⟨a,b⟩:=x;obtain ⟨c,d⟩:=y
 by_cases h1:a=c
 ·by_cases h2:b=d
  ·subst h1 h2; simp
  ·simp [h1,h2]
 ·simp [h1]
theorem FrT.to1 {Pt:Addr} {H H':Hp} {v:V} {x:Q2} (L:LT Pt H) (e:Same1 Pt H H') (h:FrT H v x):FrT H' v x:=by
 obtain ⟨a,rfl,ha⟩:=h;exact ⟨a,rfl,e.get L ha nofun⟩
structure GrU (z:Str) (hs:List c7) (h:c7) (kt kg:Nat) (A B:Int):Prop where
 s:IsGrow z hs h kt kg A B
 a:Big 20000 A
 p:0<A
 b:0<B
 c:B<2 ^ 8000
theorem BestG.u {z:Str} {hs:List c7} {h:c7} {kt kg i:Nat} {S:Lp.Bo} {far:Int} (hz:Q9 z) (B:BestG z hs h S) (hG:∀ g∈hs,HG far kt kg g) (hh:hs[i]?=some h) (kt1:1<=kt) (kt4:kt<=20) (kg4:kg<=20):GrU z hs h kt kg S.d (S.T (mE hs) (qE z h)):=by
 have T:=a3E hz B hG hh kt1 kt4 kg4;have hT:Big 4000 (S.T (mE hs) (qE z h)):=B.2.2.1 _ _ (by omega) (by omega);refine ⟨B.is hz hG hh kt1 kt4 kg4,B.2.2.2.mono (by decide),B.1.w.pos,T.pos,?_⟩;have h1:(S.T (mE hs) (qE z h)).natAbs<2 ^ 4000:=hT;have h2:(2:Nat) ^ 4000<=2 ^ 8000:=fB (by decide) (by decide);have h3:S.T (mE hs) (qE z h)=((S.T (mE hs) (qE z h)).natAbs:Int):=by have:=T.pos; omega
 rw [h3]
 exact_mod_cast bA h1 h2
section
variable {P:Program} {w:World} {K:W.Frag} {mg:Str->Option Value} {base:Heap} {f Pt d CN CB:Addr} {fd:FuncData} {n:Nat} {C:Addr}
def a8n (K:W.Frag) (CN Pt:Addr):Sp:=λ vs H Q E=>∃ (ba:Addr) (xs:List V) (hs:List c7) (number:Int) (z:Str) (far:Int) (kt kg:Nat),vs=[.ref ba,.int number,.str z]/\Q9 z/\BookIn K H ba xs hs far kt kg/\1<=kt/\number.natAbs.log2<1920/\LT Pt H ∧
 (∀ (i:Nat) (h:c7) (A B:Int) (H':Hp) (u:V),number=(i:Int)->hs[i]?=some h->GrU z hs h kt kg A B->Same1 Pt H H'->LT Pt H'->FrT H' u (low A B)->Q u H')/\(¬ a0O xs.length number->E (.ref CN) none H)
theorem a3k (F:FnOk P w K mg base (CX1 P w) n f fd ["book","number","sizes"] (a0S K CN Pt)):FnOk P w K mg base (CX1 P w) n f fd ["book","number","sizes"] (a8n K CN Pt):=F.imp λ vs H Q E h=>by
 obtain ⟨ba,xs,hs,number,z,far,kt,kg,rfl,hz,B,kt1,lm,L,kG,kE⟩:=h;exact ⟨ba,xs,hs,number,z,far,kt,kg,rfl,hz,B,kt1,lm,L,λ i h S H' u hi hh Bs e L' hu=>kG i h _ _ H' u hi hh (Bs.u hz B.g hh kt1 B.t B.k) e L' hu,kE⟩
end
structure b7t (z:Str) (hs:List c7) (h:c7) (kt kg:Nat) (ws:List Int) (v:Int):Prop where
 m:Mx z hs ws v
 t:∀ j,j<kt->D6 hs ws 0 j<=h.1.getD j 0*v
 g:∀ j,j<kg->h.2.getD j 0*v<=D6 hs ws 1 j
 s:h.2.sum*v - h.1.sum*v<r9 (hs.map λ g=>g.2.sum - g.1.sum) ws
section
variable {z:Str} {hs:List c7} {h:c7} {kt kg i:Nat} {S:Lp.Bo} {far:Int}
end
section
variable {z:Str} {hs:List c7} {h:c7} {kt kg i:Nat} {far:Int}
end
section
variable {z:Str} {hs R:List c7} {h:c7} {kt kg:Nat} {far A B:Int}
end
section
variable {z:Str} {hs:List c7} {kt kg:Nat} {far:Int} {left:List Nat}
open Classical in
end
end Rim
namespace Rim
open PySem L2 Fr
abbrev Up (l:List Nat):Prop:=l.Pairwise (·<·)
theorem Up.range (n:Nat):Up (aD n):=List.pairwise_lt_range
theorem K7 {l:List Nat} {k:Nat} (h:k<l.length):l.getD k 0=l[k]:=by rw [aG,aF h]; rfl
theorem b0o {l ps:List Nat} (hl:Up l) (hp:Up ps) (h:∀ k∈ps,k<l.length):Up (ps.map λ k=>l.getD k 0):=by
 refine jG.mpr (hp.imp_of_mem λ {a b} ha hb hab=>?_);have h1:=h a ha;have h2:=h b hb;rw [K7 h1,K7 h2];exact fG.mp hl a b h1 h2 hab
theorem a0F (l:List Nat):((aD l.length).map λ k=>l.getD k 0)=l:=by
 refine cK λ i=>?_;rw [aE]
 by_cases hi:i<l.length
 ·rw [bQ hi,aF hi]
  show some (l.getD i 0)=some l[i]
  rw [K7 hi]
 ·rw [bH (by simp; omega),bH (by omega)]; rfl
theorem b0J {l m:List Nat} {ns:List Int} (h1:ns.Perm (m.map λ (k:Nat)=>(k:Int))) (h2:ns.Pairwise (·<=·)) (hp:m.Perm l) (hl:Up l):ns=l.map λ (k:Nat)=>(k:Int):=by
 refine lJ (le:=(·<=·)) (λ a b _ _ x y=>Int.le_antisymm x y) h2 ?_ (h1.trans (hp.map _));exact jG.mpr (hl.imp λ {a b} h=>by omega)
section
variable {z:Str} {hs:List c7} {far:Int} {kt kg:Nat} {left:List Nat}
theorem a4J:Up (a3G z hs):=(Up.range _).filter _
theorem a6N (h:Up left):Up (lvl z hs left):=b0o h a4J λ k hk=>a2Y hk
theorem b0W (h:Up left):Up (rst z hs left):=b0o h ((Up.range _).filter _) λ k hk=>bO.mp (dL.mp hk).1
theorem a1R:(lvl z hs left++rst z hs left).Perm left:=by
 have e:(aD left.length).filter (λ k=>(plc z hs left).contains k)=plc z hs left:=by
  refine lJ (le:=(·<·)) (λ a b _ _ x y=>absurd (lF x y) (cA _)) ((Up.range _).filter _) a4J ?_;refine (lK ?_ ?_).mpr λ k=>?_
  ·exact ((Up.range _).filter _).imp λ h=>bI h
  ·exact (a4J (z:=z) (hs:=A9 hs left)).imp λ h=>bI h
  ·rw [dL,bO,List.contains_iff_mem]
   exact ⟨λ h=>h.2,λ h=>⟨a2Y h,h⟩⟩
 have p:=(List.filter_append_perm (λ k=>(plc z hs left).contains k) (aD left.length)).map λ k=>left.getD k 0;rw [bC,e,a0F] at p;exact p
theorem a3v {k:Nat} (h:k∈lvl z hs left):k∈left:=by
 have:=a1R (z:=z) (hs:=hs) (left:=left);exact this.mem_iff.mp (dC _ h)
theorem b2f {idx:List Nat} (hi:∀ k∈idx,k<left.length):A9 (A9 hs left) idx=A9 hs (idx.map λ k=>left.getD k 0):=by
 unfold A9;rw [aM];refine cP λ k hk=>?_;have:=hi k hk
 show (left.map λ k=>hs.getD k ([],[])).getD k ([],[])=hs.getD (left.getD k 0) ([],[])
 rw [aG,aE,aF this,K7 this]; rfl
end
def a0y (l:List Nat):PyData:=.list (l.map λ (k:Nat)=>.int (k:Int))
theorem a5w {K:W.Frag} {H:Hp}:∀ l:List Nat,Dps K H (y4 l) (l.map λ (k:Nat)=>.int (k:Int))
 | []=>.nil
 | k::r=>.cons (.int _) (a5w r)
theorem a4I {K:W.Frag} {H:Hp} {a:Addr} {l:List Nat} (h:H a=some (.lst (y4 l))):Dp K H (.ref a) (a0y l):=.lst (SqL.of h) (a5w l)
theorem a0Z (l:List Nat):(a0y l).canLay0=true:=by
 unfold a0y;rw [PyData.canLay0]
 induction l with
 | nil=>rw [fL,PyData.canLayAll0]
 | cons k r ih=>rw [bJ,PyData.canLayAll0,ih,PyData.canLay0]; rfl
theorem a2Q (l:List Nat):(a0y l).depth<=6:=by
 unfold a0y;have:∀ l:List Nat,PyData.depthAll (l.map λ (k:Nat)=>PyData.int (k:Int))<=3:=λ l=>by
  induction l with
  | nil=>simp [PyData.depthAll]
  | cons k r ih =>
   rw [bJ,PyData.depthAll];exact jH.mpr ⟨by simp [PyData.depth],ih⟩
 rw [PyData.depth];have:=this l;omega
def a6o (ls:List (List Nat)):PyData:=.list (ls.map a0y)
theorem a7I {K:W.Frag} {H:Hp}:∀ {as:List Addr} {ls:List (List Nat)},NatsAt H as ls->Dps K H (as.map V.ref) (ls.map a0y)
 | [],[],_=>.nil
 | a::as,l::ls,h=>.cons (a4I (h.2 0 a l rfl rfl)) (a7I (as:=as) (ls:=ls) ⟨by simpa using h.1,λ k b m h1 h2=>h.2 (k+1) b m (by simpa using h1) (by simpa using h2)⟩)
 | [],_::_,h=>by have:=h.1; simp at this
 | _::_,[],h=>by have:=h.1; simp at this
theorem a4P (ls:List (List Nat)):(a6o ls).canLay0=true:=by
 unfold a6o;rw [PyData.canLay0]
 induction ls with
 | nil=>rw [fL,PyData.canLayAll0]
 | cons k r ih=>rw [bJ,PyData.canLayAll0,ih,a0Z]; rfl
theorem a8J (ls:List (List Nat)):(a6o ls).depth<=20:=by
 unfold a6o;have:∀ l:List (List Nat),PyData.depthAll (l.map a0y)<=8:=λ l=>by
  induction l with
  | nil=>simp [PyData.depthAll]
  | cons k r ih =>
   rw [bJ,PyData.depthAll];exact jH.mpr ⟨Nat.le_trans (a2Q k) (by decide),ih⟩
 rw [PyData.depth];have:=this ls;omega
theorem a7e {z:Str} {hs:List c7}:∀ (n:Nat) (left:List Nat),(lev z hs n left).length<=n
 | 0,_=>by simp [lev]
 | n+1,left=>by
  by_cases h:left=[]
  ·rw [h,W2]; simp
  ·rw [S3 h,dM]
   have:=a7e (z:=z) (hs:=hs) n (rst z hs left);omega
theorem a3M {z:Str} {hs:List c7}:∀ (n:Nat) (left:List Nat),left.length<=n->∀ l∈lev z hs n left,l.length<=n
 | 0,_,_,l,hl=>by simp [lev] at hl
 | n+1,left,hn,l,hl=>by
  by_cases h:left=[]
  ·rw [h,W2] at hl; cases hl
  ·rw [S3 h] at hl
   rcases aR.mp hl with rfl | hl
   ·unfold lvl
    rw [aA];have:=a2G z (A9 hs left);rw [aA] at this;exact aZ this hn
   ·have h1:(rst z hs left).length<=left.length:=by
     unfold rst;rw [aA];refine aZ (eO _ _) ?_;rw [cQ]; exact aH _
    by_cases h2:(rst z hs left).length<=n
    ·have:=a3M n (rst z hs left) h2 l hl; omega
    ·have h3:(rst z hs left).length=n+1:=by omega
     have:=lev_any n (rst z hs left) l hl;omega
where
 lev_any {z:Str} {hs:List c7}:∀ (n:Nat) (left:List Nat),∀ l∈lev z hs n left,l.length<=left.length
 | 0,_,l,hl=>by simp [lev] at hl
 | n+1,left,l,hl=>by
  by_cases h:left=[]
  ·rw [h,W2] at hl; cases hl
  ·rw [S3 h] at hl
   rcases aR.mp hl with rfl | hl
   ·unfold lvl
    rw [aA];have:=a2G z (A9 hs left);rw [aA] at this;exact this
   ·have h1:(rst z hs left).length<=left.length:=by
     unfold rst;rw [aA];refine aZ (eO _ _) ?_;rw [cQ]; exact aH _
    exact aZ (lev_any n (rst z hs left) l hl) h1
theorem a9f {K:W.Frag} {H:Hp} {a:Addr} {as:List Addr} {ls:List (List Nat)} (h:H a=some (.lst (as.map V.ref))) (n:NatsAt H as ls):Dp K H (.ref a) (a6o ls):=.lst (SqL.of h) (a7I n)
end Rim
namespace L2
open PySem PySem.Spec PyProof.Rows
abbrev en2 (b:Bool) (h:Heap) (t:Addr):Heap:=(zg1 b h t).push { cls:=.type "enumerate",data:=.fields #[.none,.bool false,.ref h.objs.size,rawInt 0,.none,.none] }
theorem b1L {prog:Program} {w:World} {A:Around} {E:Value->Shared->Prop} {s:Shared} {c:Value} {Q:Bool->Shared->Prop} (h:∀ b,Q b s):wpAny (model prog w) A (Builtin.SmallTypes.calledThroughType c) Q E s:=by
 unfold Builtin.SmallTypes.calledThroughType;exact wpAny_bind (wpAny_stack_any λ st=>wpAny_pure (h _))
theorem b3F (b:Bool) (t:Addr) (xs:Array Value) :
  Meets (Builtin.«enumerate.__new__» ⟨[.type "enumerate",.ref t],[]⟩) (λ _ R s=>IsB b s.heap t xs/\R (.ok (.ret (.ref (zg1 b s.heap t).objs.size))) { s with heap:=en2 b s.heap t }) :=
 .of_wp λ prog w A R s h=>by
  obtain ⟨hp,g,d,tk,os⟩:=s;obtain ⟨e1,h⟩:=h;have hsub:=sub_enumerate;have m1:IsB b (Shared.heap ⟨hp,g,d,tk,os⟩) t xs:=e1
  wp_walk using a5k m1,b1L
  intro c
  cases c
  ·wp_walk using a5k m1
   exact ⟨_,rfl,h⟩
  ·wp_walk using a5k m1
   exact ⟨_,rfl,h⟩
section
variable {prog:Program} {w:World} {A:Around} {E:Value->Shared->Prop} {s:Shared}
theorem b2j {b:Bool} {t:Addr} {xs:Array Value} {Q:Value->Shared->Prop} (l1:IsB b s.heap t xs)
  (q:∀ h',IsEnum h' (s.heap.objs.size+1) s.heap.objs.size 0 .none->ItB b h' s.heap.objs.size t 0->(∀ c o,s.heap.get? c=some o->h'.get? c=some o)->Q (.ref (s.heap.objs.size+1)) { s with heap:=h' }) :
  wpAny (model prog w) A (call (.type "enumerate") [.ref t]) Q E s:=by
 refine callType_new F.called_enumerate (by decide) (F.typeCall_enumerate_1 _) (F.newCall_enumerate_1 _) (λ ob=>F.args_object_init_2 ob _) F.entry_enumerate_new (b3F b t xs) ⟨l1,?_⟩;have n1:(zg1 b s.heap t).objs.size=s.heap.objs.size+1:=Heap.size_push ..;have p2:(en2 b s.heap t).get? (zg1 b s.heap t).objs.size=some _:=Heap.get?_push_size _ rfl;have p1:(en2 b s.heap t).get? s.heap.objs.size=some _:=Heap.get?_push_of_some _ (Heap.get?_push_size _ rfl);rw [n1] at p2
 show _/\_
 rw [n1];exact ⟨⟨_,p2,rfl⟩,q _ p2 (ItB.mk p1) λ c o m=>Heap.get?_push_of_some _ (Heap.get?_push_of_some _ m)⟩
theorem b0K {b:Bool} (hh:A.handled=none) (it t:Addr) (hne:t≠it) (xs:Array Value):Draws prog w A it [it,t] xs.size (λ i v=>xs[i]?=some v) (λ i h=>ItB b h it t i/\IsB b h t xs) where
 live:=λ i h st=>by obtain ⟨o,e,_⟩:=st.1.obj; exact ⟨o,e⟩
 frame:=λ i h h' st k=>⟨st.1.at' λ o e=>k it (by simp) o e,st.2.at' λ o e=>k t (by simp) o e⟩
 item:=λ i s Q E hi st q=>by
  refine a1g st.1 st.2 (x:=xs[i]) (lL hi) λ h' a1 a2=>?_;exact q _ h' s.toks (lL hi) ⟨a1,st.2.extBut a2.extBut hne⟩ a2
 done:=λ s Q E st q=>a2q hh st.1 st.2 (by simp) λ h' e a1 a2=>q h' e a1 a2
end
def Itn (b:Bool) (K:W.Frag) (l:Addr):It :=
  ⟨λ i H=>∃ xs x,SqB b K H l xs/\xs[i]?=some x,
   λ i H x H'=>∃ p a,H p=none/\x=.ref p/\H'=upd H p (.tup [.int (i:Int),a])/\∀ xs,SqB b K H l xs->xs[i]?=some a,
   λ i H=>∃ xs,SqB b K H l xs/\xs.length<=i⟩
theorem b1y {b:Bool} {P:Program} {w:World} {K:W.Frag} {elts:List Expr} {x1:Nat} {pos:Pos} {e it l:Addr} (hne:e≠it) (hle:l≠e) (hli:l≠it) :
  a6K P w K (.Tuple elts x1 pos) (Itn b K l) [e,it] e (λ i h=>(∃ old,IsEnum h e it (i:Int) old)/\ItB b h it l i) where
 mem:=by simp
 obj:=λ i h st c hb=>by
  obtain ⟨⟨old,he⟩,h1⟩:=st;obtain ⟨o1,e1,v1,d1⟩:=h1.obj;simp only [aR,bY,or_false] at hb;rcases hb with rfl | rfl
  ·exact ⟨_,he,λ v q=>by cases q⟩
  ·exact ⟨o1,e1,λ v q=>by rw [d1] at q; cases q⟩
 keep:=λ i h h' st k=>by
  obtain ⟨⟨old,he⟩,h1⟩:=st;exact ⟨⟨old,k e (by simp) _ he⟩,h1.at' λ o q=>k it (by simp) o q⟩
 item:=by
  intro X hP hw hK hc i pins s σ H E I hf st hg;subst hP hw hK;obtain ⟨xs,x,hq,hx⟩:=hg;obtain ⟨⟨old,he⟩,h1⟩:=st;obtain ⟨its,rv,p,_⟩:=I.sqB hq;obtain ⟨u,hu,ru⟩:=rv.get hx;have hu':its.toArray[i]?=some u:=by simpa using hu
  have il:i<its.toArray.size:=(Array.getElem?_eq_some_iff.mp hu').1;refine wpAny_pyNext_enum_itemD (b0K (A:=X.A.in1) (b:=b) (show X.A.in1.handled=none from I.ok.hd hc) it l hli its.toArray) he ⟨h1,p⟩ il hne (by simp; exact ⟨hne,aY hle⟩) λ v h' tk hv a1 a2 a3 a4 a5=>?_;rw [hu'] at hv
  cases hv;refine ⟨_,rfl,wpAny_letOwnedTupleGo_enum (s:={ s with heap:=h',toks:=tk+1 }) a1 λ h'' he'' hs''=>?_⟩;have ie:s.heap.get? e=_:=he;obtain ⟨o1,ei,_⟩:=h1.obj;have neT:∀ c∈[e,it],c≠s.heap.objs.size:=λ c hb q=>by
   have:∃ o,s.heap.get? c=some o:=by
    simp only [aR,bY,or_false] at hb;rcases hb with rfl | rfl
    ·exact ⟨_,ie⟩
    ·exact ⟨_,ei⟩
   obtain ⟨o,ho⟩:=this;exact absurd (Heap.lt_size ho) (by rw [q]; exact cA _)
  have kk:∀ c o,c ∉ [e,it]->s.heap.get? c=some o->h''.get? c=some o:=λ c o hb q=>by
   simp only [aR,bY,or_false,not_or] at hb;exact hs''.extBut c o hb.1 (a5 c o hb.1 hb.2 q)
  have it'':ItB b h'' it l (i+1):=a2.1.extBut hs''.extBut (aY hne);have hoF:∀ c∈[e,it],∃ o,h''.get? c=some o:=λ c hb=>by
   obtain ⟨o2,e2,_⟩:=it''.obj;simp only [aR,bY,or_false] at hb;rcases hb with rfl | rfl
   ·exact ⟨_,he''⟩
   ·exact ⟨_,e2⟩
  have es:e≠s.heap.objs.size:=neT e (by simp);have tup:IsTup h'' s.heap.objs.size [Value.int (i:Int) tk,u].toArray:=⟨_,hs''.extBut _ _ (aY es) a3,rfl,0,rfl⟩;refine ⟨.ref s.heap.objs.size,upd H s.heap.objs.size (.tup [.int (i:Int),x]),(I.turnedLaid (h':=h'') hf kk hoF (aH _) (by show 2<=sizeLine; decide) (show Vals [.int (i:Int),x] [Value.int (i:Int) tk,u] from .cons ⟨_,rfl⟩ (.cons ru .nil)) tup).tok _,rfl,⟨_,x,I.fresh,rfl,rfl,λ xs' q1=>?_⟩,⟨⟨_,he''⟩,it''⟩,λ c hb=>?_⟩
  ·rw [I.sqB_inj q1 hq]; exact hx
  ·rw [i3 (neT c hb)]; exact (hf c hb).1
 done:=by
  intro X hP hw hK hc i pins s σ H E I hf st hg;subst hP hw hK;obtain ⟨xs,hq,hend⟩:=hg;obtain ⟨⟨old,he⟩,h1⟩:=st;obtain ⟨its,rv,p,_⟩:=I.sqB hq;have hl:=rv.length
  by_cases hi:i=its.length
  ·subst hi
   refine wpAny_pyNext_enum_endD (b0K (A:=X.A.in1) (b:=b) (show X.A.in1.handled=none from I.ok.hd hc) it l hli its.toArray) he ⟨by simpa using h1,p⟩ λ h' k=>⟨rfl,I.turnedAll hf λ c o hb q=>?_⟩;simp only [aR,bY,or_false,not_or] at hb;exact k c o hb.2 q
  ·have d:Draws X.prog X.w X.A.in1 it [it,l] 0 (λ _ _=>True) (λ _ h=>ItB b h it l i/\IsB b h l its.toArray):=⟨λ j h st=>by obtain ⟨o,e,_⟩:=st.1.obj; exact ⟨o,e⟩,λ j h h' st k=>⟨st.1.at' λ o e=>k it (by simp) o e,st.2.at' λ o e=>k l (by simp) o e⟩,λ j s Q E hj=>absurd hj (gJ _),λ s Q E st q=>a2q (show X.A.in1.handled=none from I.ok.hd hc) st.1 st.2 (by simp; omega) λ h' e a1 a2=>q h' e a1 a2⟩
   refine wpAny_pyNext_enum_endD d he ⟨h1,p⟩ λ h' k=>⟨rfl,I.turnedAll hf λ c o hb q=>?_⟩;simp only [aR,bY,or_false,not_or] at hb;exact k c o hb.2 q
 self:=λ _ _ _ _ _ st h=>by
  obtain ⟨⟨old,he⟩,_⟩:=st;exact wpAny_pyIter_enum he h
def iEn (b:Bool) (K:W.Frag) (ta:TA):TI:=λ σ H R=>ta σ H λ vs H1=>∃ l,vs=[.ref l]/\(∃ xs,SqB b K H1 l xs)/\R (Itn b K l) H1
theorem b5C (b:Bool) (K:W.Frag) {X:Cx} {a:Expr} {ta:TA} {p pos pos':Pos} {elts:List Expr} {x1:Nat} (hK:X.K=K) (hg:Gl X "enumerate") (hm:X.mg "enumerate"=none) (ha:PA X [a] ta) (hs:starEach [a] X.env=[(false,eval a X.env)]:=by rfl) (hs2:starEach ([]:List Expr) X.env=[]:=by rfl) :
  PI X (.Tuple elts x1 pos') (.Call (.Name "enumerate" p) [a] [] pos) (iEn b K ta):=by
 subst hK;intro pins s σ H R I h;refine Call_ (a0C I hg hm boot_enumerate (gD (C6 (ha pos pins s σ H _ I h) λ us s1 ⟨vs,H1,I1,r1,q1⟩=>?_) (by rw [hs,hs2]) (by rw [hs2]; rfl)));obtain ⟨l,e,⟨xs,q1⟩,q⟩:=q1;subst e;obtain ⟨u,rfl,ru⟩:=R9 r1
 cases ru;obtain ⟨its,rv,p,_⟩:=I1.sqB q1;have lt1:l<s1.heap.objs.size:=p.lt;refine b2j p λ h' z1 z2 k=>?_;have I2:Inv X pins σ H1 { s1 with heap:=h' }:=I1.kept (t':=s1.toks) k;refine wpAny_pyIter_enum z1 ?_;refine ⟨s1.heap.objs.size+1,[s1.heap.objs.size+1,s1.heap.objs.size],_,_,H1,rfl,I2,b1y (b:=b) (l:=l) (e:=s1.heap.objs.size+1) (it:=s1.heap.objs.size) (kF _) (bI (fM lt1)) (bI lt1),⟨⟨_,z1⟩,z2⟩,λ b hb=>?_,q⟩;have hb':s1.heap.objs.size<=b:=by
  simp only [aR,bY,or_false] at hb;rcases hb with rfl | rfl
  ·exact fK _
  ·exact aH _
 exact I1.fpOk hb' (I1.hok.fresh hb')
section
variable {b:Bool} {xs:List V} {K:W.Frag} {l:Addr} {fr:List Nat} {te:TE} {σ:St} {H1:Hp} {p:Addr} {D:Hp->Prop}
end
theorem a7M {α β:Type} {f g:α->Option β}:∀ {l:List α},(∀ m∈l,f m=g m)->l.filterMap f=l.filterMap g
 | [],_=>rfl
 | a::r,h=>by
  rw [eV,eV,h a cE,a7M λ m hm=>h m (bS _ hm)]
def V8 (q:Nat->Bool) (F:Nat->V->V) (xs:List V) (n:Nat):List V:=((aD n).filter q).filterMap λ i=>(xs[i]?).map (F i)
theorem a6i (q:Nat->Bool) (F:Nat->V->V) (xs:List V) (n:Nat):(V8 q F xs n).length<=n:=by
 unfold V8;have h1:=List.length_filterMap_le (λ i=>(xs[i]?).map (F i)) ((aD n).filter q);have h2:=eO q (aD n);rw [cQ] at h2;omega
theorem a1V {q:Nat->Bool} {F:Nat->V->V} {xs:List V} {n:Nat} {x:V} (h:xs[n]?=some x):V8 q F xs (n+1)=V8 q F xs n++(if q n=true then [F n x] else []):=by
 unfold V8;rw [fW,gU,List.filterMap_append]
 congr 1
 cases e:q n with
 | true=>simp [e,h]
 | false=>simp [e]
theorem a6m {q:Nat->Bool} {xs:List V}:V8 q (λ i _=>.int (i:Int)) xs xs.length=((aD xs.length).filter q).map λ (i:Nat)=>V.int (i:Int):=by
 unfold V8;rw [<- List.filterMap_eq_map];refine a7M λ i hi=>?_;have:i<xs.length:=bO.mp (dL.mp hi).1;rw [aF this]; rfl
section
variable {b:Bool} {xs:List V} {K:W.Frag} {l:Addr} {fr:List Nat} {tc:TT} {te:TE} {σ:St} {H1:Hp} {p:Addr} {D:Hp->Prop}
theorem b2Y (hl:SqB b K H1 l xs) (hp:H1 p=none) (hz:xs.length<sizeLine) (q:Nat->Bool) (F:Nat->V->V)
  (test:∀ (i:Nat) x H ys (N:Bool->Hp->Prop),xs[i]?=some x->Same H1 H->H p=some (.lst ys)->(∀ H3,Same H H3->N (q i) H3)->tc (((blkσ 2 fr σ).set 0 (some (.int (i:Int)))).set 1 (some x)) H N)
  (step:∀ (i:Nat) x H (N:VK),xs[i]?=some x->q i=true->Same H1 H->N (F i x) H->te (((blkσ 2 fr σ).set 0 (some (.int (i:Int)))).set 1 (some x)) H N)
  (hd:∀ H,Same H1 H->H p=some (.lst (V8 q F xs xs.length))->D H):lcI 2 fr (a5m K 2 (V5 (O6 0) (V5 (O6 1) a6l))) tc te σ (Itn b K l) H1 p D:=by
 refine ⟨λ i m ys H=>m=xs.length - i/\i<=xs.length/\Same H1 H/\H p=some (.lst ys)/\ys=V8 q F xs i,⟨xs.length,by simp,cB _,Same.new hp _,upd_same,rfl⟩,?_⟩;rintro i m ys H ⟨rfl,hi,e,hH,rfl⟩
 by_cases hlt:i<xs.length
 ·refine .inr ⟨⟨xs,xs[i],e.sqB hl,aF hlt⟩,λ u H' y=>?_⟩
  obtain ⟨z,a,hz',rfl,rfl,hab⟩:=y;have ha:=hab xs (e.sqB hl);have s1:=Same.new hz' (.tup [.int (i:Int),a]);refine ⟨z,_,rfl,SqT.of upd_same,rfl,_,_,rfl,_,_,rfl,rfl,?_,?_⟩
  ·refine ⟨by simp,λ k w ek=>?_⟩
   have:¬ k<2:=λ hk=>by
    unfold blkσ at ek;rw [bK (by simpa using hk),cV] at ek
    split at ek <;> cases ek
   rw [bV (by omega),bV (by omega)]; exact ek
  ·refine test i a _ _ _ ha (e.trans s1) (s1 _ _ hH) λ H3 s3=>?_
   have hH3:=s3 _ _ (s1 _ _ hH)
   cases hq:q i with
   | false =>
    rw [if_neg bX];exact ⟨xs.length - (i+1),by omega,rfl,hlt,e.trans (s1.trans s3),hH3,by rw [a1V ha,hq]; simp⟩
   | true =>
    rw [if_pos rfl];refine step i a _ _ ha hq (e.trans (s1.trans s3)) ⟨hH3,?_,xs.length - (i+1),by omega,rfl,hlt,(e.trans (s1.trans s3)).write hp,upd_same,by rw [a1V ha,hq]; simp⟩;have:=a6i q F xs i;omega
 ·have:i=xs.length:=by omega
  subst this;exact .inl ⟨⟨xs,e.sqB hl,by omega⟩,hd H e hH⟩
end
end L2
namespace L2
open PySem
theorem b0c (K:W.Frag) {X:Cx} (h:X.K=K):SlR X (b4y K):=by subst h; exact P5
theorem b4f (K:W.Frag) {X:Cx} {k:Nat} (h:X.K=K) (hr:Room k X.A):OpR X (compareOp .Eq) (b4z K):=by subst h; exact a2H hr
theorem a9E (xs:List V) (k:Nat) (h:k<=xs.length) (h1:1<=xs.length):M1 xs (some (k:Int)) (some (-1))=(xs.drop k).take (xs.length - 1 - k):=by
 have e:HT.sIx xs.length xs.length (some (-1))=xs.length - 1:=by
  show (if (-1:Int)<0 then ((-1:Int)+(xs.length:Int)).toNat else min (-1:Int).toNat xs.length)=_
  rw [if_pos (by decide)]; omega
 unfold M1;rw [e,HT.sIx_nat,eZ h]
end L2
namespace Rim
open PySem L2 Fr
def D0 (D L x:Int):Int:=(low x D).1*(L / (low x D).2)
theorem a0A {D L x:Int} (hD:0<D) (h:(low x D).2∣L):D0 D L x*D=x*L:=by
 unfold D0;obtain ⟨c,hc⟩:=h;have h0:(low x D).2≠0:=by have:=T8 (t:=x) hD; omega
 have e:L / (low x D).2=c:=by rw [hc]; exact iR c h0
 rw [e,Int.mul_right_comm,low_cross hD,hc,aW]
theorem a3s {D L x:Int} {n:Nat} (hD:0<D) (hL:0<L) (hLD:L<=D) (h:(low x D).2∣L) (hx:Big n x):Big n (D0 D L x):=by
 have e:=a0A (x:=x) hD h;have e1:(D0 D L x).natAbs*D.natAbs=x.natAbs*L.natAbs:=by rw [<- fP,<- fP,e]
 have e2:x.natAbs*L.natAbs<=x.natAbs*D.natAbs:=Nat.mul_le_mul_left _ (by omega);rw [<- e1] at e2;have e3:=Nat.le_of_mul_le_mul_right e2 (by omega);unfold Big at *;omega
theorem a7n {D L x:Int} (hD:0<D) (hL:0<L) (hx:0<=x):0<=D0 D L x:=cF (b3L hD hx) (Int.ediv_nonneg (aL hL) (aL (T8 hD)))
theorem a4q {D L:Int} (hD:0<D):∀ (ns xs:List Int),(∀ x∈xs,(low x D).2∣L)->(bB (·*·) ns (xs.map (D0 D L))).sum*D=(bB (·*·) ns xs).sum*L
 | [],_,_=>by simp
 | _::_,[],_=>by simp
 | a::ns,x::xs,h=>by
  rw [bJ,cH,cH,bW,bW,cL,cL,a4q hD ns xs λ y hy=>h y (bS _ hy),aW,a0A hD (h x cE),aW]
section
variable {P:Program} {w:World} {K:W.Frag} {mg:Str->Option Value} {base:Heap} {f:Addr} {fd:FuncData} {n:Nat}
theorem a2y {n:Nat} {fr:List Nat} {σ:St} {i j:Nat} {v u:V} (hi:i<n) (hj:j<n):Wk (blkσ n fr σ) (((blkσ n fr σ).set i (some v)).set j (some u)):=by
 refine ⟨by simp,λ k w e=>?_⟩;have:¬ k<n:=λ hk=>by
  unfold blkσ at e;rw [bK (by simpa using hk),cV] at e
  split at e <;> cases e
 rw [bV (by omega),bV (by omega)]; exact e
def a5c (K:W.Frag):Sp:=λ vs H Q _=>∃ (a:Addr) (ys:List V) (xs:List Int) (D:Int),vs=[.ref a]/\SqL K H a ys/\b5s K H ys xs D/\xs.length<=100/\(∀ x∈xs,Big 20000 x)/\0<D/\D<2 ^ 8000 ∧
 ∀ (r tl:Addr) (H':Hp) (L:Int),Same H H'->H' r=some (.tup [.ref tl,.int L])->H' tl=some (.lst ((xs.map (D0 D L)).map V.int))->0<L->L∣D->(∀ x∈xs,(low x D).2∣L)->Q (.ref r) H'
theorem scOver:m6 ["ones","shared","top","bottom"] ["ones"] (i5 N5):=⟨rfl,rfl,rfl,by decide +kernel,rfl,by decide +kernel,by decide +kernel⟩
theorem b0y:(["top","bottom","shared"]:List Str).Nodup:=by decide +kernel
theorem b1S {fa:Addr} {da:FuncData} (F:Fun K "over_one_bottom" "over_one_bottom" N5 f fd) (C:Cal P w K mg base n "common_divisor" ["one","other"] b0Q fa da):FnOk P w K mg base E4 (n+1) f fd ["ones"] (a5c K):=by
 refine F.ok scOver (λ vs H Q E h=>?_) (λ cdv A outer s H vs Q E hr h=>?_)
 ·obtain ⟨a,ys,xs,D,rfl,_⟩:=h
  rfl
 obtain ⟨a,ys,xs,D,rfl,hS,hF,hl100,hbig,hD,hD8,q⟩:=h;refine ⟨_,i6 (j4 (i:=1) scOver.nd rfl (cC rfl) d0)
  (i6 (P3 PassesOwn.never rfl (w4 (pv 0)) (S5 rfl (j3 (i7 (i:=2) scOver.nd rfl (aC rfl)) (j3 (i7 (i:=3) scOver.nd rfl (aC rfl)) v7)))
   (i8 (j4 (i:=1) scOver.nd rfl (cC rfl) (j0 J7 (j0 Y9 (pv 1) (i9 C.ok hr rfl C.m C.k C.b .nil r8 (c5 (pv 1) (c5 (pv 3) c6)))) (pv 3)))))
  (i8 (r6 (L9 (c5 (O3 ["top","bottom"] [1] rfl (w4 (pv 0)) (λ _ _ _ _=>D9 K (n:=2) rfl rfl (j3 (i7 (i:=0) b0y rfl (aC rfl)) (j3 (i7 (i:=1) b0y rfl (aC rfl)) v7))) (λ _ _ _ _=>j0 J7 (pv 0) (j0 Y9 (pv 2) (pv 1)))) (c5 (pv 1) c6)))))),?_⟩
 have xl:ys.length=xs.length:=hF.1;have b8:∀ {x:Int},0<x->x<=D->Big 1000000 x:=λ h1 h2=>(W8 (n:=8000) (aL h1) (eH h2 hD8)).mono (by decide);refine ⟨_,rfl,a,rfl,⟨_,hS⟩,?_⟩;refine Z4 (xs:=ys) (λ i σ H'=>∃ (L:Int) (o2 o3:Option V),σ=[some (.ref a),some (.int L),o2,o3]/\H'=H/\0<L/\L∣D/\∀ j x,j<i->xs[j]?=some x->(low x D).2∣L)
  ⟨1,_,_,rfl,rfl,by decide,⟨D,(dP D).symm⟩,λ j x hj=>absurd hj (gJ _)⟩ (λ i σ H' _ ⟨_,_,_,_,e,_⟩=>by rw [e]; exact hS) ?_ ?_
 ·rintro i y σ H' hy ⟨L,o2,o3,rfl,rfl,hL,hLD,hdv⟩
  have hil:i<xs.length:=by rw [<- xl]; exact (aU.mp hy).1
  have hxi:xs[i]?=some (xs.getD i 0):=by rw [aG,aF hil]; rfl
  obtain ⟨b,rfl,hb⟩:=hF.2 i y hy;generalize xs.getD i 0=x at *;have hq:=T8 (t:=x) hD;have hqd:=a7S (x:=x) hD;generalize hfe:low x D=fq at *;have hqD:=eY hD hqd;have hg:=Z7 (a:=L) hq;have hgq:=b2T (a:=L) hq;obtain ⟨d1,d2⟩:=S8 hL hg (M8 L fq.2);have hLd:L / gI L fq.2<=L:=by
   have:=a2K d1 hg;rw [aV,d2] at this;exact this
  refine ⟨b,_,rfl,hb,rfl,_,_,rfl,_,_,rfl,rfl,?_⟩;refine ⟨_,rfl,_,rfl,_,rfl,L,fq.2,rfl,aL hq,_,_,rfl,rfl,⟨hg,eH hgq (eH hqD hD8)⟩,_,rfl,_,_,rfl,rfl,⟨b8 d1 (fU hLd (eY hD hLD)),b8 hq hqD⟩,?_⟩;refine ⟨_,_,_,rfl,rfl,cO d1 hq,a9b hL hq hLD hqd,λ j y hj hy'=>?_⟩
  by_cases hji:j<i
  ·have h1:=hdv j y hji hy'
   have e:L / gI L fq.2*fq.2=L*(fq.2 / gI L fq.2):=by
    obtain ⟨_,d4⟩:=S8 hq hg (B7 L fq.2)
    calc L / gI L fq.2*fq.2=L / gI L fq.2*(gI L fq.2*(fq.2 / gI L fq.2)):=by rw [d4]
     _=(gI L fq.2*(L / gI L fq.2))*(fq.2 / gI L fq.2):=by ac_rfl
     _=L*(fq.2 / gI L fq.2):=by rw [d2]
   show (low y D).2∣L / gI L fq.2*fq.2
   rw [e];exact iQ h1
  ·have:j=i:=by omega
   subst this;rw [hxi] at hy'
   cases hy';rw [hfe];exact Int.dvd_mul_of_dvd_right (Int.dvd_refl _)
 ·rintro σ H' ⟨L,o2,o3,rfl,rfl,hL,hLD,hdv⟩
  have hdiv:∀ x∈xs,(low x D).2∣L:=λ y hy=>by
   obtain ⟨j,hj,rfl⟩:=iN hy;exact hdv j _ (by omega) (aF hj)
  have hLe:=eY hD hLD;refine ⟨_,rfl,a,rfl,⟨_,hS⟩,λ p hp=>?_⟩;refine P6 (u9 hS) hp (j8 (by omega)) (λ i y _=>∃ x,xs[i]?=some x/\y=.int (D0 D L x)) (λ _ _ _ _ r _=>r) (λ i y H2 zs N hy e hp' hN=>?_) (λ zs H2 e hp' len pr=>?_)
  ·have hil:i<xs.length:=by rw [<- xl]; exact (aU.mp hy).1
   have hxi:xs[i]?=some (xs.getD i 0):=by rw [aG,aF hil]; rfl
   obtain ⟨b,rfl,hb⟩:=hF.2 i y hy;have hbx:=hbig _ (aJ hxi);have hdx:=hdiv _ (aJ hxi);generalize xs.getD i 0=x at *;have hq:=T8 (t:=x) hD;have hqD:=a4l (t:=x) hD;obtain ⟨d1,d2⟩:=S8 hL hq hdx;have hLd:L / (low x D).2<=L:=by
    have:=a2K d1 hq;rw [aV,d2] at this;exact this
   refine ⟨b,_,rfl,e.tseq hb,rfl,_,_,rfl,_,_,rfl,rfl,a2y (by decide) (by decide),?_⟩;refine ⟨_,rfl,_,rfl,_,rfl,_,_,rfl,rfl,⟨hq,eH hqD hD8⟩,_,_,rfl,rfl,⟨(a7y hD hbx).mono (by decide),b8 d1 (fU hLd hLe)⟩,?_⟩;exact hN _ _ (Same.refl _) ⟨x,hxi,rfl⟩
  ·have ey:zs=(xs.map (D0 D L)).map V.int:=by
    refine cK λ i=>?_
    by_cases hi:i<zs.length
    ·obtain ⟨x,z1,z2⟩:=pr i _ (aF hi)
     rw [aF hi,z2,aE,aE,z1]; rfl
    ·rw [bH (by omega),bH (by rw [aA,aA]; omega)]
   rw [ey] at hp';refine ⟨_,rfl,(by show 2<=sizeLine; decide),λ r hr2=>?_⟩;have f2:=Same.new hr2 (.tup [V.ref p,V.int L]);exact q r p _ L (e.trans f2) upd_same (f2 _ _ hp') hL hLD hdiv
def a4T (K:W.Frag):Sp:=λ vs H Q _=>∃ (b1 b2:Bool) (a t:Addr) (xs ys:List Int),vs=[.ref a,.ref t]/\SqB b1 K H a (xs.map V.int)/\SqB b2 K H t (ys.map V.int)/\xs.length<=1000/\(∀ x∈xs,Big 100000 x)/\(∀ y∈ys,Big 100000 y)/\∀ H',Same H H'->Q (.int (bB (·*·) xs ys).sum) H'
theorem b4N:m6 ["amounts","tops"] ["amounts","tops"] (i5 a5a):=⟨rfl,rfl,rfl,by decide +kernel,rfl,by decide +kernel,by decide +kernel⟩
theorem b2H:(["amount","top"]:List Str).Nodup:=by decide +kernel
theorem b0e (F:Fun K "come_to" "come_to" a5a f fd) (N:w8 mg):FnOk P w K mg base E4 (n+1) f fd ["amounts","tops"] (a4T K):=by
 refine F.ok b4N (λ vs H Q E h=>?_) (λ cdv A outer s H vs Q E hr h=>?_)
 ·obtain ⟨b1,b2,a,t,xs,ys,rfl,_⟩:=h
  rfl
 obtain ⟨b1,b2,a,t,xs,ys,rfl,ha,ht,hl,hx,hy,k⟩:=h;refine ⟨_,i8 (r6 (j9 (a5l rfl) rfl N.sum jD (c5 (O3 ["amount","top"] [] rfl (a9i λ b1=>a9i λ b2=>a3i b1 b2 K rfl rfl N.zip (c5 (pv 0) (c5 (pv 1) c6)))
  (λ _ _ _ _=>D9 K (n:=2) rfl rfl (j3 (i7 (i:=0) b2H rfl (aC rfl)) (j3 (i7 (i:=1) b2H rfl (aC rfl)) v7))) (λ _ _ _ _=>j0 J7 (pv 0) (pv 1))) c6))),?_⟩
 refine ⟨b1,b2,_,rfl,_,rfl,a,t,rfl,⟨_,ha⟩,⟨_,ht⟩,λ l hl'=>?_⟩;refine b0t ha ht hl' (by rw [aA]; exact j8 hl) (λ u v=>.int (vI u*vI v)) (λ i u v H' N' hu hv e hN=>?_) (λ H' e hH=>?_)
 ·obtain ⟨x,rfl,hxm⟩:=U1 hu
  obtain ⟨y,rfl,hym⟩:=U1 hv;exact ⟨_,rfl,_,rfl,_,_,rfl,rfl,⟨(hx _ hxm).mono (by decide),(hy _ hym).mono (by decide)⟩,hN⟩
 ·rw [a4D _ (·*·) (λ _ _=>rfl)] at hH
  exact ⟨l,_,rfl,.inl (SqL.of hH),k H' e⟩
structure b3J (pt pg:List Int) (ps D L:Int):Prop where
 l:0<L
 d:L∣D
 t:∀ x∈pt,(low x D).2∣L
 g:∀ x∈pg,(low x D).2∣L
 s:(low ps D).2∣L
def a3D (K:W.Frag):Sp:=λ vs H Q _=>∃ (ba t:Addr) (xs:List V) (hs:List c7) (pt pg:List Int) (ps D far:Int) (kt kg:Nat),vs=[.ref ba,.ref t]/\SqL K H ba xs/\Bk K H xs hs/\hs.length<=100/\(∀ h∈hs,HG far kt kg h)/\far<=2 ^ 60/\kt<=20/\kg<=20/\PrA H t pt pg ps D/\PrN pt pg ps D kt kg ∧
 ∀ (r pl gl:Addr) (L:Int) (H':Hp),Same H H'->b3J pt pg ps D L->H' r=some (.tup [.ref pl,.ref gl,.int (D0 D L ps),.int L])->H' pl=some (.lst ((hs.map λ h=>(bB (·*·) h.1 (pt.map (D0 D L))).sum).map V.int)) →
  H' gl=some (.lst ((hs.map λ h=>(bB (·*·) h.2 (pg.map (D0 D L))).sum).map V.int))->Q (.ref r) H'
theorem scWo':m6 ["book","prices","for_takes","for_gives","for_size","tops","bottom","many","paid","given"] ["book","prices"] (i5 V4):=⟨rfl,rfl,rfl,by decide +kernel,rfl,by decide +kernel,by decide +kernel⟩
theorem a7O:(["takes","gives","tops","many"]:List Str).Nodup:=by decide +kernel
noncomputable def b5U {cdv:Value} {A:Around} {outer:List Env} {s:Shared} {H:Hp} {E:XK} {fa fb:Addr} {da db:FuncData} (T:w8 mg) (Co:D3 P w K mg base n "over_one_bottom" ["ones"] (a5c K) fa da) (Cc:D3 P w K mg base n "come_to" ["amounts","tops"] (a4T K) fb db)
  (hr:Room n (A.deeper (dB "worths" (i5 V4) s.heap.objs.size f cdv))) :
  { t:TS // PSs (M0 E4 P w K mg base ["book","prices","for_takes","for_gives","for_size","tops","bottom","many","paid","given"] "worths" (i5 V4) f cdv A outer s H E).nox (v5 V4) t } :=
 ⟨_,i6 (K4 (pv 1) (S5 rfl (j3 (i7 (i:=2) scWo'.nd rfl (aC rfl)) (j3 (i7 (i:=3) scWo'.nd rfl (aC rfl)) (j3 (i7 (i:=4) scWo'.nd rfl (aC rfl)) v7)))))
  (i6 (K4 (i9 Co.ok hr rfl Co.m Co.k Co.b .nil r8 (c5 (j0 B6 (j0 B6 (pv 2) (pv 3)) (v6 (c5 (pv 4) c6))) c6)) (S5 rfl (j3 (i7 (i:=5) scWo'.nd rfl (cC rfl)) (j3 (i7 (i:=6) scWo'.nd rfl (aC rfl)) v7))))
  (m8 (j4 (i:=7) scWo'.nd rfl (cC rfl) (j9 j6 rfl T.len bR (c5 (pv 2) c6)))
  (m8 (X9 (i:=8) ["takes","gives"] [5,7] scWo'.nd rfl rfl rfl (w4 (pv 0)) (λ _ _ _ _=>D9 K (n:=2) rfl rfl (j3 (i7 (i:=0) a7O rfl (aC rfl)) (j3 (i7 (i:=1) a7O rfl (aC rfl)) v7)))
   (λ _ _ _ _=>i9 Cc.ok hr rfl Cc.m Cc.k Cc.b .nil r8 (c5 (pv 0) (c5 (I0 (b0c K rfl) (pv 2) W5 (D4 (pv 3))) c6))))
  (m8 (X9 (i:=9) ["takes","gives"] [5,7] scWo'.nd rfl rfl rfl (w4 (pv 0)) (λ _ _ _ _=>D9 K (n:=2) rfl rfl (j3 (i7 (i:=0) a7O rfl (aC rfl)) (j3 (i7 (i:=1) a7O rfl (aC rfl)) v7)))
   (λ _ _ _ _=>i9 Cc.ok hr rfl Cc.m Cc.k Cc.b .nil r8 (c5 (pv 1) (c5 (I0 (b0c K rfl) (pv 2) (D4 (pv 3)) (D4 (R1 K5 d0))) c6))))
  (i8 (r6 (L9 (c5 (pv 8) (c5 (pv 9) (c5 (j7 j5 (pv 5) (R1 K5 d0) (λ _ _=>rfl)) (c5 (pv 6) c6)))))))))))⟩
end
section
variable {P:Program} {w:World} {K:W.Frag} {mg:Str->Option Value} {base:Heap} {f:Addr} {fd:FuncData} {n:Nat}
theorem FrsAt.cat {H:Hp} {ys zs:List V} {xs ws:List Int} {D:Int} (a:FrsAt H ys xs D) (b:FrsAt H zs ws D):FrsAt H (ys++zs) (xs++ws) D:=by
 refine ⟨by simp [a.1,b.1],λ i y hy=>?_⟩;rw [A8]
 by_cases hi:i<ys.length
 ·rw [bK hi] at hy
  rw [if_pos (by rw [<- a.1]; exact hi)];exact a.2 i y hy
 ·rw [bZ (by omega)] at hy
  rw [if_neg (by rw [<- a.1]; exact hi),<- a.1];exact b.2 _ y hy
theorem a8l {fa fb:Addr} {da db:FuncData} (F:Fun K "worths" "worths" V4 f fd) (T:w8 mg) (Co:D3 P w K mg base n "over_one_bottom" ["ones"] (a5c K) fa da) (Cc:D3 P w K mg base n "come_to" ["amounts","tops"] (a4T K) fb db) :
  FnOk P w K mg base E4 (n+1) f fd ["book","prices"] (a3D K):=by
 refine F.ok scWo' (λ vs H Q E h=>?_) (λ cdv A outer s H vs Q E hr h=>?_)
 ·obtain ⟨ba,t,xs,hs,pt,pg,ps,D,far,kt,kg,rfl,_⟩:=h
  rfl
 obtain ⟨ba,t,xs,hs,pt,pg,ps,D,far,kt,kg,rfl,hS,hB,few,hG,hfar,hkt,hkg,⟨fa',ga',u,fts,gts,h1,h2,h3,h4,h5,h6⟩,hN,q⟩:=h;refine ⟨_,(b5U T Co Cc hr).2,?_⟩;have xl:xs.length=hs.length:=Paired.length hB;have s1k:=j8 (show (1000:Nat)<=1000 from aH _);have D8:D<2 ^ 8000:=jF hN.d2 (by exact_mod_cast iB (show 1<2 by decide) (show 4000<8000 by decide));have lft:fts.length=kt:=by rw [h3.1,hN.lt]
 have lgt:gts.length=kg:=by rw [h5.1,hN.lg]
 refine ⟨_,rfl,t,_,rfl,SqT.of h1,rfl,_,_,rfl,_,_,rfl,_,_,rfl,rfl,?_⟩;refine ⟨_,rfl,_,rfl,fa',ga',fts,gts,rfl,rfl,h2,h4,by omega,λ p1 k1=>?_⟩;have s1:=Same.new k1 (.lst (fts++gts));refine ⟨_,rfl,(by show 1<=sizeLine; decide),λ p2 k2=>?_⟩;have s2:=Same.new k2 (.lst [u]);refine ⟨p1,p2,_,_,rfl,rfl,s2 _ _ upd_same,upd_same,by simp; omega,λ p3 k3=>?_⟩;have s3:=Same.new k3 (.lst ((fts++gts)++[u]));have s123:=s1.trans (s2.trans s3);have hF:FrsAt H ((fts++gts)++[u]) ((pt++pg)++[ps]) D:=(h3.cat h5).snoc h6;refine ⟨p3,_,(pt++pg)++[ps],D,rfl,SqL.of upd_same,(hF.same s123).v,by simp [hN.lt,hN.lg]; omega,λ x hx=>?_,hN.d,D8,λ r tl H1 L e1 hr1 htl hL hLD hdiv=>?_⟩
 ·rcases aQ.mp hx with hx | hx
  ·rcases aQ.mp hx with hx | hx
   ·exact (hN.bt x hx).2.mono (by decide)
   ·exact (hN.bg x hx).2.mono (by decide)
  ·rw [bN.mp hx]; exact hN.bs.mono (by decide)
 have e01:=s123.trans e1;have OB:b3J pt pg ps D L:=⟨hL,hLD,λ x hx=>hdiv x (dC _ (dC _ hx)),λ x hx=>hdiv x (dC _ (cN _ hx)),hdiv ps (cN _ (bN.mpr rfl))⟩;have hLe:=eY hN.d hLD;have etl:((((pt++pg)++[ps]).map (D0 D L)).map V.int)=((pt.map (D0 D L)).map V.int++(pg.map (D0 D L)).map V.int)++[V.int (D0 D L ps)]:=by simp
 rw [etl] at htl;refine ⟨r,_,rfl,SqT.of hr1,rfl,_,_,rfl,_,_,rfl,rfl,?_⟩;generalize hpt':(pt.map (D0 D L))=pt' at *;generalize hpg':(pg.map (D0 D L))=pg' at *;have lp':pt'.length=kt:=by rw [<- hpt',aA,hN.lt]
 have lg':pg'.length=kg:=by rw [<- hpg',aA,hN.lg]
 have bpt:∀ x∈pt',Big 100000 x:=λ x hx=>by
  rw [<- hpt'] at hx;obtain ⟨y,hy,rfl⟩:=aK.mp hx;exact (a3s hN.d hL hLe (OB.t y hy) (hN.bt y hy).2).mono (by decide)
 have bpg:∀ x∈pg',Big 100000 x:=λ x hx=>by
  rw [<- hpg'] at hx;obtain ⟨y,hy,rfl⟩:=aK.mp hx;exact (a3s hN.d hL hLe (OB.g y hy) (hN.bg y hy).2).mono (by decide)
 generalize hps':D0 D L ps=ps' at *;refine ⟨λ σ' H'=>σ'=[some (.ref ba),some (.ref t),some (.ref fa'),some (.ref ga'),some u,some (.ref tl),some (.int L),some (.int (kt:Int)),none,none]/\H1=H',?_,?_⟩
 ·refine ⟨_,rfl,fa',_,rfl,.inl (SqL.of (e01 _ _ h2)),?_⟩
  rw [lft];exact ⟨rfl,rfl⟩
 rintro _ _ ⟨rfl,rfl⟩;have hS1:=e01.seq hS;have hB1:=Bk.same e01 hB;have cT:∀ a:List V,M1 (((pt'.map V.int++pg'.map V.int)++[V.int ps'])) none (some (kt:Int))=pt'.map V.int:=λ _=>by
  rw [a3r _ kt (by simp; omega),cX,gA (by simp [lp'])]
 have cG:M1 (((pt'.map V.int++pg'.map V.int)++[V.int ps'])) (some (kt:Int)) (some (-1))=pg'.map V.int:=by
  rw [a9E _ kt (by simp; omega) (by simp; omega),cX,jE (by simp [lp'])];rw [gA (by simp; omega)]
 refine ⟨λ σ' H'=>∃ pl:Addr,σ'=[some (.ref ba),some (.ref t),some (.ref fa'),some (.ref ga'),some u,some (.ref tl),some (.int L),some (.int (kt:Int)),some (.ref pl),none]/\Same H1 H'/\H' pl=some (.lst ((hs.map λ h=>(bB (·*·) h.1 pt').sum).map V.int)),?_,?_⟩
 ·refine ⟨_,rfl,ba,rfl,⟨_,hS1⟩,λ p hp=>?_⟩
  refine P6 (u9 hS1) hp (j8 (by omega)) (λ i y _=>∃ h,hs[i]?=some h/\y=.int (bB (·*·) h.1 pt').sum) (λ _ _ _ _ r _=>r) (λ i y H2 zs N hy e hp' hNN=>?_) (λ zs H2 e hp' len pr=>?_)
  ·obtain ⟨h,hh,⟨a,ta,gb,rfl,q0,q1,q2⟩⟩:=Paired.at hB1 hy
   have gh:=hG h (aJ hh);refine ⟨a,_,rfl,e.tseq q0,rfl,_,_,rfl,_,_,rfl,rfl,a2y (by decide) (by decide),?_⟩;refine ⟨_,rfl,_,rfl,_,rfl,_,rfl,tl,_,rfl,SqL.of (e _ _ htl),λ p4 k4=>?_⟩;rw [cT []];refine ⟨false,true,ta,p4,h.1,pt',rfl,((e.trans (Same.new k4 _)).tseq q1:SqT K _ _ _),SqL.of upd_same,by rw [gh.lt]; omega,λ x hx=>(a3x gh hfar 0 x hx).mono (by decide),bpt,λ H3 e3=>?_⟩;exact hNN _ _ ((Same.new k4 _).trans e3) ⟨h,hh,rfl⟩
  ·have ez:zs=(hs.map λ h=>(bB (·*·) h.1 pt').sum).map V.int:=by
    refine cK λ i=>?_
    by_cases hi:i<zs.length
    ·obtain ⟨x,z1,z2⟩:=pr i _ (aF hi)
     rw [aF hi,z2,aE,aE,z1]; rfl
    ·rw [bH (by omega),bH (by rw [aA,aA]; omega)]
   rw [ez] at hp';exact ⟨p,rfl,e,hp'⟩
 intro σ2 H2 hM_; refine P0 λ G_ hG_=>?_; obtain ⟨pl,rfl,e2,hpl⟩:=hM_; subst hG_;have hS2:=e2.seq hS1;have hB2:=Bk.same e2 hB1;have htl2:=e2 _ _ htl;refine ⟨λ σ' H'=>∃ gl:Addr,σ'=[some (.ref ba),some (.ref t),some (.ref fa'),some (.ref ga'),some u,some (.ref tl),some (.int L),some (.int (kt:Int)),some (.ref pl),some (.ref gl)]/\Same H2 H'/\H' gl=some (.lst ((hs.map λ h=>(bB (·*·) h.2 pg').sum).map V.int)),?_,?_⟩
 ·refine ⟨_,rfl,ba,rfl,⟨_,hS2⟩,λ p hp=>?_⟩
  refine P6 (u9 hS2) hp (j8 (by omega)) (λ i y _=>∃ h,hs[i]?=some h/\y=.int (bB (·*·) h.2 pg').sum) (λ _ _ _ _ r _=>r) (λ i y H3 zs N hy e hp' hNN=>?_) (λ zs H3 e hp' len pr=>?_)
  ·obtain ⟨h,hh,⟨a,ta,gb,rfl,q0,q1,q2⟩⟩:=Paired.at hB2 hy
   have gh:=hG h (aJ hh);refine ⟨a,_,rfl,e.tseq q0,rfl,_,_,rfl,_,_,rfl,rfl,a2y (by decide) (by decide),?_⟩;refine ⟨_,rfl,_,rfl,_,rfl,_,rfl,_,rfl,_,rfl,tl,_,rfl,SqL.of (e _ _ htl2),λ p4 k4=>?_⟩;rw [cG];refine ⟨false,true,gb,p4,h.2,pg',rfl,((e.trans (Same.new k4 _)).tseq q2:SqT K _ _ _),SqL.of upd_same,by rw [gh.lg]; omega,λ x hx=>(a3x gh hfar 1 x hx).mono (by decide),bpg,λ H3 e3=>?_⟩;exact hNN _ _ ((Same.new k4 _).trans e3) ⟨h,hh,rfl⟩
  ·have ez:zs=(hs.map λ h=>(bB (·*·) h.2 pg').sum).map V.int:=by
    refine cK λ i=>?_
    by_cases hi:i<zs.length
    ·obtain ⟨x,z1,z2⟩:=pr i _ (aF hi)
     rw [aF hi,z2,aE,aE,z1]; rfl
    ·rw [bH (by omega),bH (by rw [aA,aA]; omega)]
   rw [ez] at hp';exact ⟨p,rfl,e,hp'⟩
 intro σ3 H3 hM_; refine P0 λ G_ hG_=>?_; obtain ⟨gl,rfl,e3,hgl⟩:=hM_; subst hG_;have htl3:=e3 _ _ htl2;refine ⟨_,rfl,_,rfl,_,rfl,_,rfl,tl,_,-1,_,rfl,rfl,SqL.of htl3,a9j _ _,_,rfl,(by show 4<=sizeLine; decide),λ r' hr'=>?_⟩;have s4:=Same.new hr' (.tup [V.ref pl,V.ref gl,V.int ps',V.int L]);subst hpt' hpg' hps';exact q r' pl gl L _ (e01.trans (e2.trans (e3.trans s4))) OB upd_same (s4 _ _ (e3 _ _ hpl)) (s4 _ _ hgl)
def Y0 (pt pg:List Int) (ps:Int) (h:c7):Option Q2:=if O5 h pt=0 then none else some (low (D5 h pg ps) (O5 h pt))
def JV (H:Hp) (v:V):Option Q2->Prop
 | none=>v=.non
 | some x=>FrT H v x
theorem JV.same {H H':Hp} {v:V} {o:Option Q2} (e:Same H H') (h:JV H v o):JV H' v o:=by
 cases o with
 | none=>exact h
 | some x=>exact FrT.same e h
theorem a1h {far:Int} {kt kg:Nat} {h:c7} {pt:List Int} (g:HG far kt kg h) (hp:∀ x∈pt,0<=x):0<=O5 h pt:=by
 unfold O5;have:∀ (a b:List Int),(∀ x∈a,0<=x)->(∀ x∈b,0<=x)->0<=(bB (·*·) a b).sum:=by
  intro a
  induction a with
  | nil=>intro b _ _; simp
  | cons x a ih =>
   intro b h1 h2
   cases b with
   | nil=>simp
   | cons y b =>
    rw [cH,bW];exact Int.add_nonneg (cF (h1 x cE) (h2 y cE)) (ih b (λ z hz=>h1 z (bS _ hz)) λ z hz=>h2 z (bS _ hz))
 exact this _ _ (λ x hx=>by have:=(g.t x hx).1; omega) hp
theorem a8p {far:Int} {kt kg:Nat} {h:c7} {pt pg:List Int} {ps:Int} (g:HG far kt kg h) (hp:∀ x∈pt,0<=x) {x:Q2} (e:Y0 pt pg ps h=some x):Q6 x:=by
 unfold Y0 at e
 split at e
 ·cases e
 ·rename_i hne
  cases e;have:=a1h g hp;exact R8 (by omega)
theorem b2n {far:Int} {kt kg:Nat} {h:c7} {pt pg:List Int} {ps D L:Int} (g:HG far kt kg h) (hN:PrN pt pg ps D kt kg) (OB:b3J pt pg ps D L) :
  Y0 (pt.map (D0 D L)) (pg.map (D0 D L)) (D0 D L ps) h=Y0 pt pg ps h:=by
 have e1:O5 h (pt.map (D0 D L))*D=O5 h pt*L:=a4q hN.d _ _ OB.t;have e2:D5 h (pg.map (D0 D L)) (D0 D L ps)*D=D5 h pg ps*L:=by
  unfold D5;rw [cL,cL,a4q hN.d _ _ OB.g,a0A hN.d OB.s]
 have n1:=a1h g λ x hx=>(hN.bt x hx).1;have n2:0<=O5 h (pt.map (D0 D L)):=a1h g λ x hx=>by
  obtain ⟨y,hy,rfl⟩:=aK.mp hx;exact a7n hN.d OB.l (hN.bt y hy).1
 have hD:=hN.d;have hL:=OB.l;unfold Y0;generalize O5 h (pt.map (D0 D L))=p' at *;generalize O5 h pt=p at *;generalize D5 h (pg.map (D0 D L)) (D0 D L ps)=a' at *;generalize D5 h pg ps=a at *
 by_cases hp:p=0
 ·have:p'=0:=by
   rw [hp,dG] at e1;rcases fT.mp e1 with z | z
   ·exact z
   ·omega
  rw [if_pos hp,if_pos this]
 ·have:p'≠0:=λ z=>by
   rw [z,dG] at e1;rcases fT.mp e1.symm with z | z
   ·exact hp z
   ·omega
  rw [if_neg hp,if_neg this]
  congr 1
  refine a2L (by omega) (by omega) ?_;have:D*L≠0:=Int.ne_of_gt (cO hD hL);refine gT this ?_
  calc a'*p*(D*L)=(a'*D)*(p*L):=by ac_rfl
   _=(a*L)*(p'*D):=by rw [e2,e1]
   _=a*p'*(D*L):=by ac_rfl
def a1d (K:W.Frag):Sp:=λ vs H Q _=>∃ (ba t:Addr) (xs:List V) (hs:List c7) (pt pg:List Int) (ps D far:Int) (kt kg:Nat),vs=[.ref ba,.ref t]/\SqL K H ba xs/\Bk K H xs hs/\hs.length<=100/\(∀ h∈hs,HG far kt kg h)/\far<=2 ^ 60/\kt<=20/\kg<=20/\PrA H t pt pg ps D/\PrN pt pg ps D kt kg ∧
 ∀ (l:Addr) (ys:List V) (H':Hp),Same H H'->H l=none->H' l=some (.lst ys)->cS (JV H') ys (hs.map (Y0 pt pg ps))->Q (.ref l) H'
theorem scJu:m6 ["book","prices","paid","given","size","bottom"] ["book","prices"] (i5 U8):=⟨rfl,rfl,rfl,by decide +kernel,rfl,by decide +kernel,by decide +kernel⟩
theorem b5l:(["pays","gives","size"]:List Str).Nodup:=by decide +kernel
noncomputable def b6R {cdv:Value} {A:Around} {outer:List Env} {s:Shared} {H:Hp} {E:XK} {fa fb:Addr} {da db:FuncData} (T:w8 mg) (Cw:D3 P w K mg base n "worths" ["book","prices"] (a3D K) fa da) (Cl:Cal P w K mg base n "lowest" ["top","bottom"] a1l fb db)
  (hr:Room n (A.deeper (dB "judged" (i5 U8) s.heap.objs.size f cdv))) :
  { t:TS // PSs (M0 E4 P w K mg base ["book","prices","paid","given","size","bottom"] "judged" (i5 U8) f cdv A outer s H E).nox (v5 U8) t } :=
 ⟨_,i6 (K4 (i9 Cw.ok hr rfl Cw.m Cw.k Cw.b .nil r8 (c5 (pv 0) (c5 (pv 1) c6))) (S5 rfl (j3 (i7 (i:=2) scJu.nd rfl (aC rfl)) (j3 (i7 (i:=3) scJu.nd rfl (aC rfl)) (j3 (i7 (i:=4) scJu.nd rfl (cC rfl)) (j3 (i7 (i:=5) scJu.nd rfl (aC rfl)) v7))))))
  (i8 (r6 (O3 ["pays","gives"] [4] rfl (a3i true true K rfl rfl T.zip (c5 (pv 2) (c5 (pv 3) c6))) (λ _ _ _ _=>D9 K (n:=2) rfl rfl (j3 (i7 (i:=0) b5l rfl (aC rfl)) (j3 (i7 (i:=1) b5l rfl (aC rfl)) v7)))
   (λ _ _ _ _=>a9p (m9 a1e (pv 0) d0 (p7 _)) J3 (i9 Cl.ok hr rfl Cl.m Cl.k Cl.b .nil r8 (c5 (j0 C2 (pv 1) (pv 2)) (c5 (pv 0) c6)))))))⟩
theorem a8S {fa fb:Addr} {da db:FuncData} (F:Fun K "judged" "judged" U8 f fd) (T:w8 mg) (Cw:D3 P w K mg base n "worths" ["book","prices"] (a3D K) fa da) (Cl:Cal P w K mg base n "lowest" ["top","bottom"] a1l fb db) :
  FnOk P w K mg base E4 (n+1) f fd ["book","prices"] (a1d K):=by
 refine F.ok scJu (λ vs H Q E h=>?_) (λ cdv A outer s H vs Q E hr h=>?_)
 ·obtain ⟨ba,t,xs,hs,pt,pg,ps,D,far,kt,kg,rfl,_⟩:=h
  rfl
 obtain ⟨ba,t,xs,hs,pt,pg,ps,D,far,kt,kg,rfl,hS,hB,few,hG,hfar,hkt,hkg,hP,hN,q⟩:=h;refine ⟨_,(b6R T Cw Cl hr).2,?_⟩;refine ⟨_,rfl,_,rfl,ba,t,xs,hs,pt,pg,ps,D,far,kt,kg,rfl,hS,hB,few,hG,hfar,hkt,hkg,hP,hN,λ r pl gl L H1 e1 OB hr1 hpl hgl=>?_⟩;refine ⟨r,_,rfl,SqT.of hr1,rfl,_,_,rfl,_,_,rfl,_,_,rfl,_,_,rfl,rfl,?_⟩;refine ⟨_,rfl,_,rfl,pl,gl,rfl,⟨_,SqL.of hpl⟩,⟨_,SqL.of hgl⟩,λ p hp=>?_⟩;have hLe:=eY hN.d OB.d;have hpH:H p=none:=by
  cases e:H p with
  | none=>rfl
  | some o=>rw [e1 _ _ e] at hp; cases hp
 refine a4K (b1:=true) (b2:=true) (SqL.of hpl) (SqL.of hgl) hp (j8 (by simp; omega)) (λ i y H'=>∃ h,hs[i]?=some h/\JV H' y (Y0 pt pg ps h)/\y≠.ref p) (λ i y Ha Hb ⟨h,h1,h2,h3⟩ st=>?_) ?_ ?_
 ·refine ⟨h,h1,?_,h3⟩
  cases o:Y0 pt pg ps h with
  | none=>rw [o] at h2; exact h2
  | some x =>
   rw [o] at h2;obtain ⟨a,rfl,ha⟩:=h2;exact ⟨a,rfl,st a _ (λ z=>h3 (by rw [z])) ha⟩
 ·intro i x y H2 zs N hx hy e hp' hNN
  have hil:i<hs.length:=by
   have:=(aU.mp hx).1
   simpa using this
  obtain ⟨h,hh⟩:∃ h,hs[i]?=some h:=⟨_,aF hil⟩;have gh:=hG h (aJ hh);rw [aE,aE,hh] at hx hy
  cases hx
  cases hy;have JT:=b2n (pt:=pt) (pg:=pg) (ps:=ps) gh hN OB;have ep:(bB (·*·) h.1 (pt.map (D0 D L))).sum=O5 h (pt.map (D0 D L)):=rfl;have eg:(bB (·*·) h.2 (pg.map (D0 D L))).sum+D0 D L ps=D5 h (pg.map (D0 D L)) (D0 D L ps):=rfl;have nn:0<=O5 h (pt.map (D0 D L)):=a1h gh λ x hx=>by
   obtain ⟨y,hy,rfl⟩:=aK.mp hx;exact a7n hN.d OB.l (hN.bt y hy).1
  have bP:Big 7000 (O5 h (pt.map (D0 D L))):=(a2u (a3g (a:=100) (b:=5001) (a3x gh hfar 0) (λ x hx=>by
   obtain ⟨y,hy,rfl⟩:=aK.mp hx;exact (a3s hN.d OB.l hLe (OB.t y hy) (hN.bt y hy).2).mono (by decide))) (by
    have:=gh.lt;have:(K2 0 h).length=kt:=this;rw [eL]; omega)).mono (by decide)
  refine ⟨_,rfl,rfl,_,rfl,C5 (λ c=>?_) (λ c=>?_)⟩
  ·have c':O5 h (pt.map (D0 D L))=0:=by
    have:=of_decide_eq_true c;exact V.int.inj this
   refine hNN _ _ (Same.refl _) ⟨h,hh,?_,nofun⟩;rw [<- JT];unfold Y0;rw [if_pos c'];exact rfl
  ·have c':O5 h (pt.map (D0 D L))≠0:=λ z=>c (decide_eq_true (show V.int (O5 h (pt.map (D0 D L)))=V.int 0 by rw [z]))
   refine ⟨_,rfl,_,rfl,_,_,rfl,rfl,_,rfl,_,_,rfl,?_,?_,λ v H3 e3 hv=>?_⟩
   ·show 0<O5 h (pt.map (D0 D L)); omega
   ·show O5 h (pt.map (D0 D L))<2 ^ 8000; exact jF (Rim.Big.lt bP) (by exact_mod_cast iB (show 1<2 by decide) (show 7000<8000 by decide))
   ·refine hNN _ _ e3 ⟨h,hh,?_,λ z=>?_⟩
    ·rw [<- JT]
     unfold Y0;rw [if_neg c'];exact hv
    ·obtain ⟨a,ha1,ha2⟩:=hv
     rw [z] at ha1
     cases ha1;rw [e3 _ _ hp'] at ha2
     cases ha2
 ·intro zs H2 e hp' len pr
  refine q p zs H2 (e1.trans e) hpH hp' ?_;have len':zs.length=hs.length:=by rw [len]; simp
  clear len
  have:∀ (zs:List V) (gs:List c7),zs.length=gs.length->(∀ (i:Nat) (z:V),zs[i]?=some z->∃ h,gs[i]?=some h/\JV H2 z (Y0 pt pg ps h)/\z≠.ref p)->cS (JV H2) zs (gs.map (Y0 pt pg ps)):=by
   intro zs
   induction zs with
   | nil=>intro gs hl _; cases gs with
    | nil=>exact .nil
    | cons _ _=>simp at hl
   | cons z zs ih =>
    intro gs hl hq
    cases gs with
    | nil=>simp at hl
    | cons g gs =>
     obtain ⟨h,h1,h2,_⟩:=hq 0 z rfl
     cases h1;exact .cons h2 (ih gs (by simpa using hl) λ i z hz=>hq (i+1) z hz)
  exact this zs hs len' pr
end
section
variable {P:Program} {w:World} {K:W.Frag} {mg:Str->Option Value} {base:Heap} {f:Addr} {fd:FuncData} {n:Nat}
theorem b3Q (x y:Q2):PyData.eqv (dF x) (dF y)=decide (x=y):=by
 unfold dF;rw [PyData.eqv,PyData.eqvAll,PyData.eqvAll,PyData.eqvAll,PyData.eqv,PyData.eqv,lI];obtain ⟨a,b⟩:=x;obtain ⟨c,d⟩:=y
 by_cases h1:a=c
 ·by_cases h2:b=d
  ·subst h1 h2; simp
  ·simp [h1,h2]
 ·simp [h1]
def a3K (x y:Q2):Int:=if x.1*y.2<y.1*x.2 then -1 else if x.1*y.2>y.1*x.2 then 1 else 0
def a0E (K:W.Frag):Sp:=λ vs H Q _=>∃ (u v:V) (x y:Q2),vs=[u,v]/\FrV K H u x/\FrV K H v y/\(Big 1000000 x.1/\Big 1000000 x.2/\Big 1000000 y.1/\Big 1000000 y.2)/\Q (.int (a3K x y)) H
theorem scCmp:m6 ["one","other","left","right"] ["one","other"] (i5 a0D):=⟨rfl,rfl,rfl,by decide +kernel,rfl,by decide +kernel,by decide +kernel⟩
theorem b2g (F:Fun K "compared" "compared" a0D f fd):FnOk P w K mg base E4 (n+1) f fd ["one","other"] (a0E K):=by
 refine F.ok scCmp (λ vs H Q E h=>?_) (λ cdv A outer s H vs Q E hr h=>?_)
 ·obtain ⟨u,v,x,y,rfl,_⟩:=h
  rfl
 obtain ⟨u,v,x,y,rfl,⟨a,rfl,ha⟩,⟨b,rfl,hb⟩,⟨b1,b2,b3,b4⟩,q⟩:=h;refine ⟨_,i6 (j4 (i:=2) scCmp.nd rfl (aC rfl) (j0 J7 (j7 A6 (pv 0) d0 (λ _ _=>rfl)) (j7 A6 (pv 1) d0 (λ _ _=>rfl))))
  (i6 (j4 (i:=3) scCmp.nd rfl (aC rfl) (j0 J7 (j7 A6 (pv 1) d0 (λ _ _=>rfl)) (j7 A6 (pv 0) d0 (λ _ _=>rfl))))
  (i6 (A7 (m9 a1q (pv 2) (pv 3) (p7 _)) (i8 (r6 (R1 K5 d0))) t7)
  (i6 (A7 (m9 a0u (pv 2) (pv 3) (p7 _)) (i8 (r6 d0)) t7)
  (i8 (r6 d0))))),?_⟩
 refine ⟨_,rfl,a,_,0,_,rfl,rfl,ha,T9 _ _,_,rfl,b,_,1,_,rfl,rfl,hb,Z0 _ _,_,_,rfl,rfl,⟨b1,b4⟩,?_⟩;refine ⟨_,rfl,b,_,0,_,rfl,rfl,hb,T9 _ _,_,rfl,a,_,1,_,rfl,rfl,ha,Z0 _ _,_,_,rfl,rfl,⟨b3,b2⟩,?_⟩;unfold a3K at q;refine ⟨_,rfl,_,rfl,_,_,rfl,rfl,_,rfl,?_⟩;refine C5 (λ c=>?_) (λ c=>?_)
 ·rw [if_pos (of_decide_eq_true c)] at q
  exact ⟨_,rfl,q⟩
 have c':=of_decide_eq_false (dH.mpr c);rw [if_neg c'] at q;refine ⟨_,rfl,_,rfl,_,_,rfl,rfl,_,rfl,?_⟩;refine C5 (λ d=>?_) (λ d=>?_)
 ·rw [if_pos (of_decide_eq_true d)] at q
  exact q
 ·rw [if_neg (of_decide_eq_false (dH.mpr d))] at q
  exact q
def ltQ (x y:Q2):Bool:=decide (x.1*y.2<y.1*x.2)
def N0 (js:List (Option Q2)) (i:Nat):Bool :=
 match js[i]? with
 | some (some x)=>js.all λ o=>match o with
  | some y=>!ltQ x y
  | none=>true
 | _=>false
structure IsBest (l:List (Option Q2)) (o:Option Q2):Prop where
 n:o=none->∀ y,some y ∉ l
 m:∀ b,o=some b->some b∈l/\∀ y,some y∈l->ltQ b y=false
theorem b2C {x y z:Q2} (hx:0<x.2) (hy:0<y.2) (hz:0<z.2) (h1:x.1*y.2<y.1*x.2) (h2:¬ z.1*y.2<y.1*z.2):x.1*z.2<z.1*x.2:=by
 have a1:x.1*y.2*z.2<y.1*x.2*z.2:=lM h1 hz;have a2:y.1*z.2*x.2<=z.1*y.2*x.2:=cI (Int.not_lt.mp h2) (aL hx);have a3:(x.1*z.2)*y.2<(z.1*x.2)*y.2:=by
  calc (x.1*z.2)*y.2=x.1*y.2*z.2:=by ac_rfl
   _<y.1*x.2*z.2:=a1
   _=y.1*z.2*x.2:=by ac_rfl
   _<=z.1*y.2*x.2:=a2
   _=(z.1*x.2)*y.2:=by ac_rfl
 exact lN a3 (aL hy)
def b4v:Option Q2->Option Q2->Option Q2
 | none,o=>o
 | some a,none=>some a
 | some a,some b=>if a3K a b>0 then some a else some b
theorem IsBest.step {l:List (Option Q2)} {o:Option Q2} (h:IsBest l o) (x:Option Q2) (hc:∀ y,some y∈l++[x]->Q6 y) :
  IsBest (l++[x]) (b4v x o):=by
 cases x with
 | none =>
  exact ⟨λ e y hy=>by
   rcases aQ.mp hy with z | z
   ·exact h.n e y z
   ·simp at z,λ b e=>⟨List.mem_append_left _ (h.m b e).1,λ y hy=>by
   rcases aQ.mp hy with z | z
   ·exact (h.m b e).2 y z
   ·simp at z⟩⟩
 | some a =>
  have ca:=(hc a (by simp)).1
  cases o with
  | none =>
   refine ⟨λ e=>(nomatch e),λ b e=>?_⟩
   cases e;refine ⟨by simp,λ y hy=>?_⟩;rcases aQ.mp hy with z | z
   ·exact absurd z (h.n rfl y)
   ·cases bN.mp z
    unfold ltQ; exact decide_eq_false (iC _)
  | some b =>
   have cb:=(hc b (dC _ (h.m b rfl).1)).1;have gt:a3K a b>0 ↔ b.1*a.2<a.1*b.2:=by
    unfold a3K
    by_cases c:a.1*b.2<b.1*a.2
    ·rw [if_pos c]; exact ⟨λ z=>absurd z (by decide),λ z=>by omega⟩
    ·rw [if_neg c]
     by_cases d:a.1*b.2>b.1*a.2
     ·rw [if_pos d]; exact ⟨λ _=>d,λ _=>by decide⟩
     ·rw [if_neg d]; exact ⟨λ z=>absurd z (by decide),λ z=>by omega⟩
   show IsBest (l++[some a]) (if a3K a b>0 then some a else some b)
   by_cases c:a3K a b>0
   ·rw [if_pos c]
    refine ⟨λ e=>(nomatch e),λ b' e=>?_⟩
    cases e;refine ⟨by simp,λ y hy=>?_⟩;have cy:=(hc y hy).1;rcases aQ.mp hy with z | z
    ·have h2:=of_decide_eq_false ((h.m b rfl).2 y z)
     refine decide_eq_false λ h3=>?_;have:=b2C cb ca cy (gt.mp c) (by omega);omega
    ·cases bN.mp z
     exact decide_eq_false (iC _)
   ·rw [if_neg c]
    refine ⟨λ e=>(nomatch e),λ b' e=>?_⟩
    cases e;refine ⟨List.mem_append_left _ (h.m b rfl).1,λ y hy=>?_⟩;rcases aQ.mp hy with z | z
    ·exact (h.m b rfl).2 y z
    ·cases bN.mp z
     exact decide_eq_false λ z=>c (gt.mpr z)
theorem b0H {js:List (Option Q2)} {o:Option Q2} (h:IsBest js o) (hc:∀ y,some y∈js->Q6 y) {i:Nat} {x:Q2} (hx:js[i]?=some (some x)):N0 js i=decide (some x=o):=by
 have mx:=aJ hx;have e:N0 js i=js.all λ o=>match o with
  | some y=>!ltQ x y
  | none=>true:=by unfold N0; rw [hx]
 rw [e]
 cases o with
 | none=>exact absurd mx (h.n rfl x)
 | some b =>
  obtain ⟨mb,hb⟩:=h.m b rfl
  by_cases c:x=b
  ·subst c
   rw [decide_eq_true rfl];refine eD.mpr λ o ho=>?_
   cases o with
   | none=>rfl
   | some y=>show (!ltQ x y)=true; rw [hb y ho]; rfl
  ·rw [decide_eq_false (λ z=>c (aS z))]
   refine dH.mpr λ z=>?_;have h1:=eD.mp z (some b) mb;have h1:(!ltQ x b)=true:=h1;have h2:=hb x mx;have h3:ltQ x b=false:=by cases q:ltQ x b with
    | false=>rfl
    | true=>rw [q] at h1; cases h1
   have h2':=of_decide_eq_false h2;have h3':=of_decide_eq_false h3;exact c (V9 (hc x mx) (hc b mb) (by omega))
def b0z (K:W.Frag):Sp:=λ vs H Q _=>∃ (ba t:Addr) (xs:List V) (hs:List c7) (pt pg:List Int) (ps D far:Int) (kt kg:Nat),vs=[.ref ba,.ref t]/\SqL K H ba xs/\Bk K H xs hs/\hs.length<=100/\(∀ h∈hs,HG far kt kg h)/\far<=2 ^ 60/\kt<=20/\kg<=20/\PrA H t pt pg ps D/\PrN pt pg ps D kt kg ∧
 ∀ (l:Addr) (H':Hp),Same H H'->H l=none->H' l=some (.lst (((aD hs.length).filter (N0 (hs.map (Y0 pt pg ps)))).map λ (i:Nat)=>V.int (i:Int)))->Q (.ref l) H'
theorem scBe:m6 ["book","prices","told","best","one"] ["book","prices"] (i5 R6):=⟨rfl,rfl,rfl,by decide +kernel,rfl,by decide +kernel,by decide +kernel⟩
theorem b4D:(["number","one","best"]:List Str).Nodup:=by decide +kernel
theorem b0I {far:Int} {kt kg:Nat} {h:c7} {pt pg:List Int} {ps D:Int} (gh:HG far kt kg h) (hfar:far<=2 ^ 60) (hkt:kt<=20) (hkg:kg<=20) (hN:PrN pt pg ps D kt kg) {x:Q2} (e:Y0 pt pg ps h=some x):Big 1000000 x.1/\Big 1000000 x.2:=by
 unfold Y0 at e
 split at e
 ·cases e
 ·rename_i hne
  cases e;have n0:=a1h gh λ x hx=>(hN.bt x hx).1;have hp:0<O5 h pt:=by omega
  have bP:Big 7000 (O5 h pt):=(a2u (a3g (a:=100) (b:=5000) (a3x gh hfar 0) λ x hx=>(hN.bt x hx).2) (by
   have:(K2 0 h).length=kt:=gh.lt;rw [eL]; omega)).mono (by decide)
  have bG:Big 7000 (bB (·*·) h.2 pg).sum:=(a2u (a3g (a:=100) (b:=5000) (a3x gh hfar 1) λ x hx=>(hN.bg x hx).2) (by
   have:(K2 1 h).length=kg:=gh.lg;rw [eL]; omega)).mono (by decide)
  have bE:Big 7001 (D5 h pg ps):=Big.add bG (hN.bs.mono (by decide));refine ⟨(a7y hp bE).mono (by decide),?_⟩;have:=a4l (t:=D5 h pg ps) hp;exact (W8 (n:=7000) (aL (T8 hp)) (eH this (Rim.Big.lt bP))).mono (by decide)
noncomputable def b6c {cdv:Value} {A:Around} {outer:List Env} {s:Shared} {H:Hp} {E:XK} {fa fb:Addr} {da db:FuncData} (T:w8 mg) (Cj:D3 P w K mg base n "judged" ["book","prices"] (a1d K) fa da) (Cc:D3 P w K mg base n "compared" ["one","other"] (a0E K) fb db)
  (hr:Room n (A.deeper (dB "best_at" (i5 R6) s.heap.objs.size f cdv))) :
  { t:TS // PSs (M0 E4 P w K mg base ["book","prices","told","best","one"] "best_at" (i5 R6) f cdv A outer s H E).nox (v5 R6) t } :=
 ⟨_,i6 (j4 (i:=2) scBe.nd rfl (aC rfl) (i9 Cj.ok hr rfl Cj.m Cj.k Cj.b .nil r8 (c5 (pv 0) (c5 (pv 1) c6))))
  (i6 (j4 (i:=3) scBe.nd rfl (cC rfl) J3)
  (i6 (P3 PassesOwn.never rfl (w4 (pv 2)) (i7 (i:=4) scBe.nd rfl (aC rfl))
   (i8 (A7 (PW.pt (a3h (m9 a4F (pv 4) J3 (p7 _)) (a1p (PW.pt (a7b (m9 a0J (pv 3) J3 (p7 _)) (a4y (m9 a0u (i9 Cc.ok hr rfl Cc.m Cc.k Cc.b .nil r8 (c5 (pv 4) (c5 (pv 3) c6))) d0 (p7 _))))))))
    (i8 (j4 (i:=3) scBe.nd rfl (cC rfl) (pv 4))) t7)))
  (i8 (r6 (a6q ["number","one"] [3] rfl (b5C true K rfl rfl T.enum (c5 (pv 2) c6)) (λ _ _ _ _=>D9 K (n:=2) rfl rfl (j3 (i7 (i:=0) b4D rfl (aC rfl)) (j3 (i7 (i:=1) b4D rfl (aC rfl)) v7)))
   (λ _ _ _ _=>PW.pt (a3h (m9 a4F (pv 1) J3 (p7 _)) (a1p (m9 (b4f K rfl hr) (pv 1) (pv 2) (p7 _)))))
   (λ _ _ _ _=>pv 0))))))⟩
theorem b1s {fa fb:Addr} {da db:FuncData} (F:Fun K "best_at" "best_at" R6 f fd) (T:w8 mg) (Cj:D3 P w K mg base n "judged" ["book","prices"] (a1d K) fa da) (Cc:D3 P w K mg base n "compared" ["one","other"] (a0E K) fb db) :
  FnOk P w K mg base E4 (n+1) f fd ["book","prices"] (b0z K):=by
 refine F.ok scBe (λ vs H Q E h=>?_) (λ cdv A outer s H vs Q E hr h=>?_)
 ·obtain ⟨ba,t,xs,hs,pt,pg,ps,D,far,kt,kg,rfl,_⟩:=h
  rfl
 obtain ⟨ba,t,xs,hs,pt,pg,ps,D,far,kt,kg,rfl,hS,hB,few,hG,hfar,hkt,hkg,hP,hN,q⟩:=h;refine ⟨_,(b6c T Cj Cc hr).2,?_⟩;refine ⟨_,rfl,_,rfl,ba,t,xs,hs,pt,pg,ps,D,far,kt,kg,rfl,hS,hB,few,hG,hfar,hkt,hkg,hP,hN,λ l ys H1 e1 hl0 hl1 hJ=>?_⟩;have yl:ys.length=hs.length:=by rw [Paired.length hJ,aA]
 have hJ':=hJ;generalize hjs:hs.map (Y0 pt pg ps)=js at *;have canJ:∀ y,some y∈js->Q6 y:=λ y hy=>by
  rw [<- hjs] at hy;obtain ⟨h,hm,e⟩:=aK.mp hy;exact a8p (hG h hm) (λ x hx=>(hN.bt x hx).1) e
 have bigJ:∀ y,some y∈js->Big 1000000 y.1/\Big 1000000 y.2:=λ y hy=>by
  rw [<- hjs] at hy;obtain ⟨h,hm,e⟩:=aK.mp hy;exact b0I (hG h hm) hfar hkt hkg hN e
 refine ⟨_,rfl,l,rfl,⟨_,SqL.of hl1⟩,?_⟩;refine Z4 (xs:=ys) (λ i σ H'=>∃ (bv:V) (o4:Option V) (o:Option Q2),σ=[some (.ref ba),some (.ref t),some (.ref l),some bv,o4]/\H1=H'/\JV H1 bv o/\IsBest (js.take i) o)
  ⟨.non,_,none,rfl,rfl,rfl,⟨λ _ y hy=>by simp at hy,λ b e=>(nomatch e)⟩⟩ (λ i σ H' _ ⟨_,_,_,_,e,_⟩=>by rw [<- e]; exact SqL.of hl1) ?_ ?_
 ·rintro i y σ H' hy ⟨bv,o4,o,rfl,rfl,hbv,hbest⟩
  obtain ⟨j,hj,hv⟩:=Paired.at hJ hy;have mj:=aJ hj;have tk:js.take (i+1)=js.take i++[j]:=by rw [gR,hj]; rfl
  have st:=hbest.step j (λ y hy=>by
   rcases aQ.mp hy with z | z
   ·exact canJ y (dQ z)
   ·exact canJ y ((bN.mp z) ▸ mj))
  rw [<- tk] at st;refine ⟨_,rfl,rfl,_,rfl,?_⟩
  cases j with
  | none =>
   have hv':y=.non:=hv;subst hv';refine C5 (λ c=>absurd c (by decide)) (λ _=>a0s ?_);exact ⟨_,_,_,rfl,rfl,hbv,st⟩
  | some x =>
   have hvx:FrT H1 y x:=hv;have yn:y≠.non:=λ z=>by
    obtain ⟨a,ha,_⟩:=hvx;rw [ha] at z; cases z
   refine C5 (λ _=>?_) (λ c=>absurd (show (!decide (y=V.non))=true by rw [decide_eq_false yn]; rfl) c);refine ⟨_,rfl,rfl,_,rfl,?_⟩
   cases o with
   | none =>
    have hb':bv=.non:=hbv;subst hb';refine C5 (λ _=>?_) (λ c=>absurd (show (decide (V.non=V.non))=true by decide) c);exact a4C ⟨_,rfl,_,_,_,rfl,rfl,hv,st⟩
   | some b =>
    have hbx:FrT H1 bv b:=hbv;have bn:bv≠.non:=λ z=>by
     obtain ⟨a,ha,_⟩:=hbx;rw [ha] at z; cases z
    refine C5 (λ c=>absurd (of_decide_eq_true c) bn) (λ _=>?_);have mb:=dQ (hbest.m b rfl).1;refine ⟨_,rfl,_,rfl,y,bv,x,b,rfl,hvx.v,hbx.v,⟨(bigJ x mj).1,(bigJ x mj).2,(bigJ b mb).1,(bigJ b mb).2⟩,?_⟩;have st':IsBest (js.take (i+1)) (if a3K x b>0 then some x else some b):=st;refine ⟨_,_,rfl,rfl,_,rfl,?_⟩;refine C5 (λ c=>?_) (λ c=>?_)
    ·have c':a3K x b>0:=of_decide_eq_true c
     rw [if_pos c'] at st';exact ⟨_,rfl,_,_,_,rfl,rfl,hv,st'⟩
    ·have c':¬ a3K x b>0:=of_decide_eq_false (dH.mpr c)
     rw [if_neg c'] at st';exact ⟨_,_,_,rfl,rfl,hbv,st'⟩
 ·rintro σ H' ⟨bv,o4,o,rfl,rfl,hbv,hbest⟩
  rw [eE (by rw [<- hjs,aA]; omega)] at hbest;refine ⟨_,rfl,l,rfl,⟨_,SqL.of hl1⟩,λ p hp=>?_⟩;have hpH:H p=none:=by
   cases e:H p with
   | none=>rfl
   | some o=>rw [e1 _ _ e] at hp; cases hp
  refine b2Y (b:=true) (SqL.of hl1) hp (j8 (by omega)) (N0 js) (λ i _=>.int (i:Int)) (λ i y H2 zs N hy e hp' hNN=>?_) (λ i y H2 N hy hq e hNN=>⟨_,rfl,hNN⟩) (λ H2 e hp'=>?_)
  ·obtain ⟨j,hj,hv⟩:=Paired.at hJ hy
   refine ⟨_,rfl,rfl,_,rfl,?_⟩
   cases j with
   | none =>
    have hv':y=.non:=hv;subst hv';refine C5 (λ c=>absurd c (by decide)) (λ _=>?_);have:N0 js i=false:=by unfold N0; rw [hj]
    rw [<- this];exact hNN _ (Same.refl _)
   | some x =>
    have hvx:FrT H1 y x:=hv;have yn:y≠.non:=λ z=>by
     obtain ⟨a,ha,_⟩:=hvx;rw [ha] at z; cases z
    refine C5 (λ _=>?_) (λ c=>absurd (show (!decide (y=V.non))=true by rw [decide_eq_false yn]; rfl) c);have bq:=b0H hbest canJ hj
    cases o with
    | none=>exact absurd (aJ hj) (hbest.n rfl x)
    | some b =>
     have hbx:FrT H1 bv b:=hbv;refine ⟨_,rfl,_,rfl,dF x,dF b,FrV.dp ((hvx.same e).v),FrV.dp ((hbx.same e).v),K3 _,K3 _,aZ (dU _ _) (a2J _),_,rfl,?_⟩;have:PyData.eqv (dF x) (dF b)=N0 js i:=by
      rw [b3Q,bq];exact decide_eq_decide.mpr ⟨λ z=>by rw [z],λ z=>aS z⟩
     rw [this];exact hNN _ (Same.refl _)
  ·rw [a6m,yl] at hp'
   exact q p H2 (e1.trans e) hpH hp'
end
section
variable {P:Program} {w:World} {K:W.Frag} {mg:Str->Option Value} {base:Heap} {f g:Addr} {fd gd:FuncData} {n:Nat}
def a9O (a b:Int):Int:=if a<b then -1 else if a>b then 1 else 0
def Sml (x:Q2):Prop:=Big 1000000 x.1/\Big 1000000 x.2
def a8g (K:W.Frag):Sp:=λ vs H Q _=>∃ (u v:V) (x y:Q2),vs=[u,v]/\FrV K H u x/\FrV K H v y/\Sml x/\Sml y/\Q (.int (a9O (x.1*y.2) (y.1*x.2))) H
theorem b1W (F:FnOk P w K mg base E4 n f fd ["one","other"] (a0E K)):FnOk P w K mg base E4 n f fd ["one","other"] (a8g K):=F.imp λ vs H Q E h=>by
 obtain ⟨u,v,x,y,rfl,hu,hv,sx,sy,q⟩:=h;exact ⟨u,v,x,y,rfl,hu,hv,⟨sx.1,sx.2,sy.1,sy.2⟩,q⟩
def Cov (h o:c7):Prop:=∀ i,i<h.2.length->o.2.getD i 0<=h.2.getD i 0
theorem a6Y:∀ (hs os:List Int),hs.length=os.length->((bB (λ x y=>decide (y<=x)) hs os).all id=true ↔ ∀ i,i<hs.length->os.getD i 0<=hs.getD i 0)
 | [],[],_=>⟨λ _ i hi=>absurd hi (gJ _),λ _=>rfl⟩
 | [],_::_,h=>by simp at h
 | _::_,[],h=>by simp at h
 | a::r,b::t,h=>by
  have ih:=a6Y r t (by simpa using h);rw [cH,iH,dD,ih];constructor
  ·rintro ⟨h0,h1⟩ i hi
   cases i with
   | zero=>exact of_decide_eq_true h0
   | succ j=>exact h1 j (by simpa using hi)
  ·intro h0
   exact ⟨decide_eq_true (h0 0 (by simp)),λ i hi=>h0 (i+1) (by simpa using hi)⟩
def a9F (K:W.Frag):Sp:=λ vs H Q _=>∃ (u v:V) (h o:c7),vs=[u,v]/\HS K H u h/\HS K H v o/\h.2.length=o.2.length/\h.2.length<=900/\∀ (b:Bool) (H':Hp),Same H H'->(b=true ↔ Cov h o)->Q (.bl b) H'
theorem b5b:m6 ["house","other"] ["house","other"] (i5 R0):=⟨rfl,rfl,rfl,by decide +kernel,rfl,by decide +kernel,by decide +kernel⟩
theorem b2W:(["give","wanted"]:List Str).Nodup:=by decide +kernel
theorem b3z (F:Fun K "gives_no_less" "gives_no_less" R0 f fd) (T:w8 mg):FnOk P w K mg base E4 (n+1) f fd ["house","other"] (a9F K):=by
 refine F.ok b5b (λ vs H Q E h=>?_) (λ cdv A outer s H vs Q E hr h=>?_)
 ·obtain ⟨u,v,h,o,rfl,_⟩:=h
  rfl
 obtain ⟨u,v,h,o,rfl,⟨a1,t1,g1,rfl,e1,e2,e3⟩,⟨a2,t2,g2,rfl,d1,d2,d3⟩,hl,hz,q⟩:=h;refine ⟨_,i8 (r6 (j9 (a9v rfl) rfl T.all nA (c5
  (O3 ["give","wanted"] [] rfl (a3i false false K rfl rfl T.zip (c5 (j7 A6 (pv 0) d0 (λ _ _=>rfl)) (c5 (j7 A6 (pv 1) d0 (λ _ _=>rfl)) c6)))
   (λ _ _ _ _=>D9 (n:=2) K rfl rfl (j3 (i7 (i:=0) b2W rfl (aC rfl)) (j3 (i7 (i:=1) b2W rfl (aC rfl)) v7)))
   (λ _ _ _ _=>R5 a9T (pv 0) (pv 1) (p7 _))) c6))),?_⟩
 refine ⟨_,rfl,a1,_,1,_,rfl,rfl,e1,Z0 _ _,_,rfl,a2,_,1,_,rfl,rfl,d1,Z0 _ _,g1,g2,rfl,⟨_,e3⟩,⟨_,d3⟩,λ p hp=>?_⟩;have lh:(h.2.map V.int).length=h.2.length:=aA _;refine b0t (b1:=false) (b2:=false) e3 d3 hp (by rw [lh]; exact j8 (by omega)) (λ x y=>.bl (decide (vI y<=vI x))) (λ i x y H' N hx hy e hN=>?_) (λ H' e hp'=>?_)
 ·obtain ⟨k,rfl⟩:=P2 hx
  obtain ⟨j,rfl⟩:=P2 hy;exact ⟨_,rfl,_,rfl,_,_,rfl,rfl,a7V hN rfl⟩
 ·refine ⟨p,(bB (λ x y=>decide (y<=x)) h.2 o.2),rfl,.inl (SqL.of ?_),?_⟩
  ·rw [hp',List.zipWith_map,List.map_zipWith]
   rfl
  ·exact q _ _ ((Same.refl _).trans e) (a6Y h.2 o.2 hl)
end
theorem b5w {t b:Int} (ht:0<=t) (hb:0<b):0<=(low t b).1/\(low t b).1<=t:=by
 obtain ⟨h1,_⟩:=J8 (t:=t) hb;have hg:=Z7 (a:=t) hb;generalize (low t b).1=x at h1;generalize gI t b=g at h1 hg;have hx:0<=x:=by
  by_cases z:0<=x
  ·exact z
  ·have:=cO hg (show 0 < -x by omega)
   rw [cY] at this;omega
 refine ⟨hx,?_⟩;have:=cI (show (1:Int)<=g by omega) hx;rw [dP,<- h1] at this;exact this
def stp (a:Q2) (p:Int×Int):Q2:=if a.1*p.2<p.1*a.2 then low p.1 p.2 else a
def ltm (ts os:List Int):Q2:=(dW ts os).foldl stp (0,1)
structure AOk (a:Q2):Prop where
 t0:0<=a.1
 t1:a.1<=1000000000
 b1:a.2<=1000000000
 c:Q6 a
def Amt (x:Int):Prop:=1<=x/\x<=1000000000
theorem AOk.low {t o:Int} (ht:Amt t) (ho:Amt o):AOk (low t o):=by
 have hb:0<o:=by have:=ho.1; omega
 have h:=b5w (t:=t) (b:=o) (by have:=ht.1; omega) hb;exact ⟨h.1,fU h.2 ht.2,fU (a4l hb) ho.2,R8 hb⟩
theorem AOk.sml {a:Q2} (h:AOk a):Sml a:=by
 have h1:=h.t1;have h2:=h.b1;exact ⟨(W8 (n:=60) h.t0 (by omega)).mono (by decide),(W8 (n:=60) (aL h.c.1) (by omega)).mono (by decide)⟩
theorem AOk.one:AOk (0,1):=⟨by decide,by decide,by decide,⟨by decide,by decide⟩⟩
theorem a9D {a b c:Int} (h:0<c):a*c<b*c ↔ a<b:=⟨λ z=>lN z (aL h),λ z=>lM z h⟩
theorem a6D {a:Q2} {t o:Int} (ho:0<o):a.1*(low t o).2<(low t o).1*a.2 ↔ a.1*o<t*a.2:=by
 have hc:=Fr.low_cross (t:=t) ho;have hp:=T8 (t:=t) ho;generalize (low t o).1=t' at *;generalize (low t o).2=o' at *;rw [<- a9D (a:=a.1*o') ho,<- a9D (a:=a.1*o) hp];have e1:a.1*o'*o=a.1*o*o':=by rw [aW,aV o' o,<- aW]
 have e2:t'*a.2*o=t*a.2*o':=by rw [aW,aV a.2 o,<- aW,hc,aW,aV o' a.2,<- aW]
 rw [e1,e2]
theorem a9r (a b:Int):(0<a9O a b) ↔ b<a:=by
 unfold a9O
 split
 ·omega
 ·split <;> omega
theorem b0M (a b:Int):(a9O a b<0) ↔ a<b:=by
 unfold a9O
 split
 ·omega
 ·split <;> omega
theorem b3o {α β:Type} {xs:List α} {ys:List β} {i:Nat} {x:α} {y:β} (h1:xs[i]?=some x) (h2:ys[i]?=some y):(dW xs ys)[i]?=some (x,y):=by
 rw [List.getElem?_zip_eq_some];exact ⟨h1,h2⟩
theorem a8G {α β:Type} (g:β->α->β) (b:β) {l:List α} {i:Nat} {x:α} (h:l[i]?=some x):(l.take (i+1)).foldl g b=g ((l.take i).foldl g b) x:=by
 rw [gR,h,List.foldl_append];rfl
theorem b0X {ns:List Int} {i:Nat} {x:V} (h:(ns.map V.int)[i]?=some x):∃ k,x=.int k/\ns[i]?=some k:=by
 rw [aE] at h
 cases e:ns[i]? with
 | none=>rw [e] at h; cases h
 | some k=>rw [e] at h; cases h; exact ⟨k,rfl,rfl⟩
section
variable {P:Program} {w:World} {K:W.Frag} {mg:Str->Option Value} {base:Heap} {f g:Addr} {fd gd:FuncData} {n:Nat}
structure a6S (K:W.Frag) (mg:Str->Option Value) (o:Addr):Prop where
 m:mg "NOUGHT"=some (.ref o)
 s:∀ H,SqT K H o [.int 0,.int 1]
def b1d (K:W.Frag):Sp:=λ vs H Q _=>∃ (t1 t2:Addr) (ts os:List Int),vs=[.ref t1,.ref t2]/\SqT K H t1 (ts.map V.int)/\SqT K H t2 (os.map V.int)/\ts.length=os.length/\1<=ts.length/\(∀ x∈ts,Amt x)/\(∀ x∈os,Amt x) ∧
 ∀ (v:V) (H':Hp),Same H H'->FrT H' v (ltm ts os)->AOk (ltm ts os)->Q v H'
theorem scLt:m6 ["takes","others","least","take","other","times"] ["takes","others"] (i5 Q1):=⟨rfl,rfl,rfl,by decide +kernel,rfl,by decide +kernel,by decide +kernel⟩
theorem b5d {oN fa fb:Addr} {da db:FuncData} (F:Fun K "least_times" "least_times" Q1 f fd) (T:w8 mg) (N:a6S K mg oN) (Cl:Cal P w K mg base n "lowest" ["top","bottom"] a1l fa da) (Cc:Cal P w K mg base n "compared" ["one","other"] (a8g K) fb db) :
  FnOk P w K mg base E4 (n+1) f fd ["takes","others"] (b1d K):=by
 refine F.ok scLt (λ vs H Q E h=>?_) (λ cdv A outer s H vs Q E hr h=>?_)
 ·obtain ⟨t1,t2,ts,os,rfl,_⟩:=h
  rfl
 obtain ⟨t1,t2,ts,os,rfl,h1,h2,hl,h0,at1,at2,q⟩:=h;refine ⟨_,i6 (j4 (i:=2) scLt.nd rfl (aC rfl) (a2p (v:=.ref oN) rfl N.m rfl))
  (i6 (P3 PassesOwn.never rfl (a3i false false K rfl rfl T.zip (c5 (pv 0) (c5 (pv 1) c6))) (D9 K (n:=2) rfl rfl (j3 (i7 (i:=3) scLt.nd rfl (aC rfl)) (j3 (i7 (i:=4) scLt.nd rfl (aC rfl)) v7)))
   (i6 (j4 (i:=5) scLt.nd rfl (aC rfl) (i9 Cl.ok hr rfl Cl.m Cl.k Cl.b .nil r8 (c5 (pv 3) (c5 (pv 4) c6))))
   (i8 (A7 (m9 a0u (i9 Cc.ok hr rfl Cc.m Cc.k Cc.b .nil r8 (c5 (pv 5) (c5 (pv 2) c6))) d0 (p7 _)) (i8 (j4 (i:=2) scLt.nd rfl (aC rfl) (pv 5))) t7))))
  (i8 (r6 (pv 2)))),?_⟩
 refine ⟨_,rfl,_,rfl,t1,t2,rfl,⟨_,h1⟩,⟨_,h2⟩,?_⟩;refine b3U (b1:=false) (b2:=false) (xs:=ts.map V.int) (ys:=os.map V.int) (i1:=3) (i2:=4) (λ i σ H'=>∃ (v:V) (o3 o4 o5:Option V),σ=[some (.ref t1),some (.ref t2),some v,o3,o4,o5]/\Same H H'/\FrV K H' v (((dW ts os).take i).foldl stp (0,1))/\AOk (((dW ts os).take i).foldl stp (0,1))/\(1<=i->FrT H' v (((dW ts os).take i).foldl stp (0,1))))
  ⟨_,_,_,_,rfl,Same.refl _,⟨oN,rfl,N.s _⟩,AOk.one,λ z=>absurd z (by decide)⟩ (λ i σ H' ⟨_,_,_,_,_,e,_⟩=>⟨e.tseq h1,e.tseq h2⟩) ?_ ?_
 ·rintro i x y σ H1 qq hx hy ⟨v,o3,o4,o5,rfl,e1,hv,hA,hT⟩ hq
  obtain ⟨t,rfl,ht⟩:=b0X hx;obtain ⟨o,rfl,ho⟩:=b0X hy;have A1:=at1 t (aJ ht);have A2:=at2 o (aJ ho);have s1:=Same.new hq (.tup [V.int t,V.int o]);have o0:0<o:=by have:=A2.1; omega
  refine ⟨_,rfl,_,rfl,t,o,rfl,o0,eH A2.2 (by decide),λ u H2 e2 hu=>?_⟩;have e12:=s1.trans e2;rw [a8G stp (0,1) (b3o ht ho)];have hz:i=0->((dW ts os).take i).foldl stp (0,1)=(0,1):=by rintro rfl; rfl
  generalize ((dW ts os).take i).foldl stp (0,1)=a at hv hA hT hz;have AL:=AOk.low A1 A2;refine ⟨_,rfl,_,rfl,u,v,low t o,a,rfl,hu.v,hv.same e12,AL.sml,hA.sml,_,_,rfl,rfl,_,rfl,?_⟩;refine C5 (λ c=>?_) (λ c=>?_)
  ·have c':=of_decide_eq_true c
   rw [a9r,a6D o0] at c';have es:stp a (t,o)=low t o:=by unfold stp; rw [if_pos c']
   refine ⟨_,rfl,u,_,_,_,rfl,e1.trans e12,?_,?_,?_⟩
   ·rw [es]; exact hu.v
   ·rw [es]; exact AL
   ·intro _; rw [es]; exact hu
  ·have c':=of_decide_eq_false (dH.mpr c)
   rw [a9r,a6D o0] at c';have es:stp a (t,o)=a:=by unfold stp; rw [if_neg c']
   refine ⟨v,_,_,_,rfl,e1.trans e12,?_,?_,?_⟩
   ·rw [es]; exact hv.same e12
   ·rw [es]; exact hA
   ·intro _
    rw [es]
    by_cases hi:1<=i
    ·exact (hT hi).same e12
    ·exfalso
     have ea:=hz (by omega);rw [ea] at c';have:=A1.1;simp only [dG,dZ] at c';omega
 ·rintro σ H1 ⟨v,o3,o4,o5,rfl,e1,hv,hA,hT⟩
  have lm:min (ts.map V.int).length (os.map V.int).length=(dW ts os).length:=by rw [aA,aA,lO]
  have lz:1<=(dW ts os).length:=by rw [lO]; omega
  rw [lm,eE (aH _)] at hA hT;exact ⟨_,rfl,q v H1 e1 (hT lz) hA⟩
end
def a3m (h o:c7):Bool:=(aD h.2.length).all λ i=>decide (o.2.getD i 0<=h.2.getD i 0)
theorem a5N (h o:c7):a3m h o=true ↔ Cov h o:=by
 unfold a3m Cov;rw [eD];exact ⟨λ z i hi=>of_decide_eq_true (z i (bO.mpr hi)),λ z i hi=>decide_eq_true (z i (bO.mp hi))⟩
theorem b1J {b:Bool} {h o:c7} (i:b=true ↔ Cov h o):b=a3m h o:=by
 rw [<- a5N] at i
 cases b <;> cases e:a3m h o
 ·rfl
 ·exact absurd (i.mpr e) (by decide)
 ·exact absurd (i.mp rfl) (by rw [e]; decide)
 ·rfl
def a2I (o:c7) (b:Option (Q2×Nat)) (k:Nat) (h:c7):Option (Q2×Nat) :=
 if a3m h o=true then (match b with | none=>some (ltm h.1 o.1,k) | some (q,j)=>if (ltm h.1 o.1).1*q.2<q.1*(ltm h.1 o.1).2 then some (ltm h.1 o.1,k) else some (q,j)) else b
def V0 (hs:List c7) (o:c7):Nat->Option (Q2×Nat)
 | 0=>none
 | i+1=>a2I o (V0 hs o i) i (hs.getD i ([],[]))
def BV (H:Hp) (v:V) (b:Option (Q2×Nat)):Prop:=match b with
 | none=>v=.non
 | some (q,k)=>∃ a u,v=.ref a/\H a=some (.tup [u,.int (k:Int)])/\FrT H u q/\AOk q
theorem BV.same {H H':Hp} {v:V} {b:Option (Q2×Nat)} (e:Same H H') (h:BV H v b):BV H' v b:=by
 match b,h with
 | none,h=>exact h
 | some (q,k),⟨a,u,h1,h2,h3,h4⟩=>exact ⟨a,u,h1,e _ _ h2,h3.same e,h4⟩
abbrev Far:Int:=1000000000
section
variable {P:Program} {w:World} {K:W.Frag} {mg:Str->Option Value} {base:Heap} {f g:Addr} {fd gd:FuncData} {n:Nat}
def b4j (K:W.Frag) (CN:Addr):Sp:=λ vs H Q E=>∃ (a:Addr) (xs:List V) (hs:List c7) (m:Int) (kt kg:Nat),vs=[.ref a,.int m]/\SqL K H a xs/\Bk K H xs hs/\(∀ h∈hs,HG Far kt kg h)/\1<=kt/\kg<=900/\m.natAbs.log2<1920 ∧
 (∀ (i:Nat) h,m=(i:Int)->hs[i]?=some h->∀ (v:V) (H':Hp),Same H H'->BV H' v (V0 hs h hs.length)->Q v H')/\(¬ a0O xs.length m->E (.ref CN) none H)
theorem scAl:m6 ["book","number","house","best","other","single","times"] ["book","number"] (i5 Q4):=⟨rfl,rfl,rfl,by decide +kernel,rfl,by decide +kernel,by decide +kernel⟩
theorem b5u {CN fa fb fc fe:Addr} {da db dc de:FuncData} (F:Fun K "share_alone" "share_alone" Q4 f fd) (T:w8 mg) (Ch:X6 P w K mg base n "house_of" ["book","number"] (a1o K CN) fa da) (Cg:Cal P w K mg base n "gives_no_less" ["house","other"] (a9F K) fb db)
  (Cl:Cal P w K mg base n "least_times" ["takes","others"] (b1d K) fc dc) (Cc:Cal P w K mg base n "compared" ["one","other"] (a8g K) fe de):FnOk P w K mg base (CX1 P w) (n+1) f fd ["book","number"] (b4j K CN):=by
 refine F.ok1 scAl (λ vs H Q E h=>?_) (λ cdv A outer s H vs Q E hr h=>?_)
 ·obtain ⟨a,xs,hs,m,kt,kg,rfl,_⟩:=h
  rfl
 obtain ⟨a,xs,hs,m,kt,kg,rfl,hS,hB,hG,hkt,hkg,lm,q,hE⟩:=h;refine ⟨_,i6 (j4 (i:=2) scAl.nd rfl (aC rfl) (i9 Ch.ok hr rfl Ch.m Ch.k Ch.b .nil Z6 (c5 (pv 0) (c5 (pv 1) c6))))
  (PSs.nox (i6 (j4 (i:=3) scAl.nd rfl (aC rfl) J3)
  (i6 (P3 PassesOwn.never rfl (a1f K rfl rfl T.enum (c5 (pv 0) c6)) (D9 K (n:=2) rfl rfl (j3 (i7 (i:=4) scAl.nd rfl (aC rfl)) (j3 (i7 (i:=5) scAl.nd rfl (aC rfl)) v7)))
   (i8 (A7 (a4z (i9 Cg.ok hr rfl Cg.m Cg.k Cg.b .nil r8 (c5 (pv 5) (c5 (pv 2) c6))))
    (i6 (j4 (i:=6) scAl.nd rfl (aC rfl) (i9 Cl.ok hr rfl Cl.m Cl.k Cl.b .nil r8 (c5 (j7 A6 (pv 5) d0 (λ _ _=>rfl)) (c5 (j7 A6 (pv 2) d0 (λ _ _=>rfl)) c6))))
    (i8 (A7 (PW.pt (a7b (m9 a0J (pv 3) J3 (p7 _)) (a4y (m9 a1q (i9 Cc.ok hr rfl Cc.m Cc.k Cc.b .nil r8 (c5 (pv 6) (c5 (j7 A6 (pv 3) d0 (λ _ _=>rfl)) c6))) d0 (p7 _)))))
     (i8 (j4 (i:=3) scAl.nd rfl (aC rfl) (L9 (c5 (pv 6) (c5 (pv 4) c6))))) t7))) t7)))
  (i8 (r6 (pv 3)))))),?_⟩
 have xl:xs.length=hs.length:=Paired.length hB;refine ⟨_,rfl,_,rfl,a,xs,m,rfl,hS,lm,λ i hv hi hx=>?_,hE⟩;obtain ⟨o,ho,hO⟩:=Paired.at hB hx;have gO:=hG o (aJ ho);refine ⟨_,rfl,a,rfl,⟨_,hS⟩,?_⟩;refine a0T (xs:=xs) (i1:=4) (i2:=5) (λ j σ H'=>∃ (bv:V) (o4 o5 o6:Option V),σ=[some (.ref a),some (.int m),some hv,some bv,o4,o5,o6]/\Same H H'/\BV H' bv (V0 hs o j))
  ⟨_,_,_,_,rfl,Same.refl _,rfl⟩ (λ j σ H' ⟨_,_,_,_,_,e,_⟩=>e.seq hS) ?_ ?_
 ·rintro j x σ H1 qq hx' ⟨bv,o4,o5,o6,rfl,e1,hb⟩ hq
  obtain ⟨h,hh,hH⟩:=Paired.at hB hx';have gh:=hG h (aJ hh);have s1:=Same.new hq (.tup [V.int (j:Int),x]);have e2:=e1.trans s1;have ej:V0 hs o (j+1)=a2I o (V0 hs o j) j h:=by
   show a2I o (V0 hs o j) j (hs.getD j ([],[]))=_
   rw [aG,hh]; rfl
  refine ⟨_,rfl,_,rfl,x,hv,h,o,rfl,hH.same e2,hO.same e2,by rw [gh.lg,gO.lg],by rw [gh.lg]; omega,λ b H2 e3 ib=>?_⟩;have hb2:=b1J ib;subst hb2;have e4:=e2.trans e3;have hb3:=(hb.same s1).same e3;refine ⟨_,rfl,?_⟩;refine C5 (λ c=>?_) (λ c=>?_)
  ·obtain ⟨a1,t1,g1,rfl,p1,p2,p3⟩:=hH.same e4
   obtain ⟨a2,t2,g2,rfl,r1,r2,r3⟩:=hO.same e4;refine ⟨_,rfl,a1,_,0,_,rfl,rfl,p1,T9 _ _,_,rfl,a2,_,0,_,rfl,rfl,r1,T9 _ _,t1,t2,h.1,o.1,rfl,p2,r2,by rw [gh.lt,gO.lt],by rw [gh.lt]; exact hkt,gh.t,gO.t,λ u H3 e5 hu hA=>?_⟩;have hb4:=hb3.same e5;have e6:=e4.trans e5;rw [ej];unfold a2I;rw [if_pos c]
   cases hbb:V0 hs o j with
   | none =>
    rw [hbb] at hb4
    cases (show bv=.non from hb4);refine ⟨_,rfl,rfl,_,rfl,C5 (λ _=>a4C ?_) (λ d=>absurd (decide_eq_true rfl) d)⟩;refine ⟨_,rfl,_,rfl,(by show 2<=sizeLine; decide),λ p hp=>?_⟩;have s2:=Same.new hp (.tup [u,V.int (j:Int)]);exact ⟨_,_,_,_,rfl,e6.trans s2,p,u,rfl,upd_same,hu.same s2,hA⟩
   | some pr =>
    obtain ⟨q1,k1⟩:=pr;rw [hbb] at hb4;obtain ⟨ab,ub,rfl,hab,hub,hAq⟩:=hb4;refine ⟨_,rfl,rfl,_,rfl,C5 (λ d=>absurd (of_decide_eq_true d) (by intro z; cases z)) (λ _=>?_)⟩;refine ⟨_,rfl,_,rfl,ab,_,0,_,rfl,rfl,SqT.of hab,T9 _ _,u,ub,ltm h.1 o.1,q1,rfl,hu.v,hub.v,hA.sml,hAq.sml,_,_,rfl,rfl,_,rfl,?_⟩;refine C5 (λ d=>?_) (λ d=>?_)
    ·have d':=of_decide_eq_true d
     rw [b0M] at d';dsimp only;rw [if_pos d'];refine ⟨_,rfl,_,rfl,(by show 2<=sizeLine; decide),λ p hp=>?_⟩;have s2:=Same.new hp (.tup [u,V.int (j:Int)]);exact ⟨_,_,_,_,rfl,e6.trans s2,p,u,rfl,upd_same,hu.same s2,hA⟩
    ·have d':=of_decide_eq_false (dH.mpr d)
     rw [b0M] at d';dsimp only;rw [if_neg d'];exact ⟨_,_,_,_,rfl,e6,ab,ub,rfl,hab,hub,hAq⟩
  ·refine ⟨_,_,_,_,rfl,e4,?_⟩
   rw [ej];unfold a2I;rw [if_neg c];exact hb3
 ·rintro σ H1 ⟨bv,o4,o5,o6,rfl,e1,hb⟩
  rw [xl] at hb;exact ⟨_,rfl,q i o hi ho bv H1 e1 hb⟩
theorem Cal.cmpS {fa:Addr} {da:FuncData} (C:Cal P w K mg base n "compared" ["one","other"] (a0E K) fa da):Cal P w K mg base n "compared" ["one","other"] (a8g K) fa da:=⟨b1W C.ok,C.b,C.k,C.m⟩
theorem b3s {oN fa fb:Addr} {da db:FuncData} (F:Fun K "least_times" "least_times" Q1 f fd) (T:w8 mg) (N:a6S K mg oN) (Cl:Cal P w K mg base n "lowest" ["top","bottom"] a1l fa da) (Cc:Cal P w K mg base n "compared" ["one","other"] (a0E K) fb db):FnOk P w K mg base E4 (n+1) f fd ["takes","others"] (b1d K):=b5d F T N Cl Cc.cmpS
theorem b3Z {CN fa fb fc fe:Addr} {da db dc de:FuncData} (F:Fun K "share_alone" "share_alone" Q4 f fd) (T:w8 mg) (Ch:X6 P w K mg base n "house_of" ["book","number"] (a1o K CN) fa da) (Cg:Cal P w K mg base n "gives_no_less" ["house","other"] (a9F K) fb db)
  (Cl:Cal P w K mg base n "least_times" ["takes","others"] (b1d K) fc dc) (Cc:Cal P w K mg base n "compared" ["one","other"] (a0E K) fe de):FnOk P w K mg base (CX1 P w) (n+1) f fd ["book","number"] (b4j K CN):=b5u F T Ch Cg Cl Cc.cmpS
end
inductive Scl (hs:List c7) (h:c7) (kt kg:Nat):Str->Prop
 | just {A B A1 B1:Int}:ShU "any" hs h kt kg A B->ShU "one" hs h kt kg A1 B1->low A B=low A1 B1->Scl hs h kt kg "just"
 | small {A B A1 B1 A2 B2:Int}:ShU "any" hs h kt kg A B->ShU "one" hs h kt kg A1 B1->low A B≠low A1 B1->ShU "less" hs h kt kg A2 B2->low A B=low A2 B2->Scl hs h kt kg "small"
 | great {A B A1 B1 A2 B2:Int}:ShU "any" hs h kt kg A B->ShU "one" hs h kt kg A1 B1->low A B≠low A1 B1->ShU "less" hs h kt kg A2 B2->low A B≠low A2 B2->Scl hs h kt kg "great"
section
variable {P:Program} {w:World} {K:W.Frag} {mg:Str->Option Value} {base:Heap} {f Pt CN:Addr} {fd:FuncData} {n:Nat}
def a7Z (K:W.Frag) (CN Pt:Addr):Sp:=λ vs H Q E=>∃ (ba:Addr) (xs:List V) (hs:List c7) (number:Int) (far:Int) (kt kg:Nat),vs=[.ref ba,.int number]/\BookIn K H ba xs hs far kt kg/\1<=kt/\number.natAbs.log2<1920/\LT Pt H ∧
 (∀ (i:Nat) (h:c7) (H':Hp) (t:Str),number=(i:Int)->hs[i]?=some h->Scl hs h kt kg t->Same1 Pt H H'->LT Pt H'->Q (.str t) H')/\(¬ a0O xs.length number->E (.ref CN) none H)
theorem scScl:m6 ["book","number","by_any"] ["book","number"] (i5 a4X):=⟨rfl,rfl,rfl,by decide +kernel,rfl,by decide +kernel,by decide +kernel⟩
theorem b0R {f1:Addr} {d1:FuncData} (F:Fun K "scale" "scale" a4X f fd) (Cs:X6 P w K mg base n "share" ["book","number","sizes"] (a1a K CN Pt) f1 d1):FnOk P w K mg base (CX1 P w) (n+1) f fd ["book","number"] (a7Z K CN Pt):=by
 have Cs':=a1w Cs.ok;refine F.ok1 scScl (λ vs H Q E h=>?_) (λ cdv A outer s H vs Q E hr h=>?_)
 ·obtain ⟨ba,xs,hs,number,far,kt,kg,rfl,_⟩:=h
  rfl
 obtain ⟨ba,xs,hs,number,far,kt,kg,rfl,B,kt1,lm,L,q,hE⟩:=h;refine ⟨_,i6 (j4 (i:=2) scScl.nd rfl (aC rfl) (i9 Cs' hr rfl Cs.m Cs.k Cs.b .nil Z6 (c5 (pv 0) (c5 (pv 1) (c5 J1 c6)))))
  (i6 (A7 (m9 (a2H hr) (pv 2) (i9 Cs' hr rfl Cs.m Cs.k Cs.b .nil Z6 (c5 (pv 0) (c5 (pv 1) (c5 J1 c6)))) (p7 _)) (i8 (r6 J1)) t7)
  (i6 (A7 (m9 (a2H hr) (pv 2) (i9 Cs' hr rfl Cs.m Cs.k Cs.b .nil Z6 (c5 (pv 0) (c5 (pv 1) (c5 J1 c6)))) (p7 _)) (i8 (r6 J1)) t7)
  (i8 (r6 J1)))),?_⟩
 have xl:xs.length=hs.length:=Paired.length B.b;refine ⟨_,rfl,_,rfl,ba,xs,hs,number,"any",far,kt,kg,rfl,.inl rfl,B,kt1,lm,L,λ i h A0 B0 H1 u0 hi hh X0 e1 L1 hu0=>?_,hE⟩;have bin:∀ {H':Hp},Same1 Pt H H'->BookIn K H' ba xs hs far kt kg:=λ e=>⟨SqL.same1 L e B.l,Bk.same1 L e B.b,B.g,B.far,B.few,B.t,B.k⟩;have hil:=(aU.mp hh).1;have gd:a0O xs.length number:=⟨by omega,by omega⟩;refine ⟨_,rfl,_,rfl,_,rfl,ba,xs,hs,number,"one",far,kt,kg,rfl,.inr (.inl rfl),bin e1,kt1,lm,L1,λ i' h' A1 B1 H2 u1 hi' hh' X1 e2 L2 hu1=>?_,λ bad=>absurd gd bad⟩;have:i'=i:=by omega
 subst this;rw [hh] at hh'; cases hh';have hu2:=hu0.to1 L1 e2;refine ⟨dF _,dF _,FrV.dp hu2.v,FrV.dp hu1.v,K3 _,K3 _,aZ (dU _ _) (a2J _),_,rfl,?_⟩;rw [b2A];refine C5 (λ c=>?_) (λ c=>?_)
 ·exact q i' h H2 "just" hi hh (.just X0 X1 (of_decide_eq_true c)) (e1.trans e2) L2
 have c':=of_decide_eq_false (dH.mpr c);refine ⟨_,rfl,_,rfl,_,rfl,ba,xs,hs,number,"less",far,kt,kg,rfl,.inr (.inr (.inl rfl)),bin (e1.trans e2),kt1,lm,L2,λ i2 h' A2 B2 H3 u2 hi' hh' X2 e3 L3 hu3=>?_,λ bad=>absurd gd bad⟩;have:i2=i':=by omega
 subst this;rw [hh] at hh'; cases hh';have hu4:=hu2.to1 L2 e3;refine ⟨dF _,dF _,FrV.dp hu4.v,FrV.dp hu3.v,K3 _,K3 _,aZ (dU _ _) (a2J _),_,rfl,?_⟩;rw [b2A];refine C5 (λ d=>?_) (λ d=>?_)
 ·exact q i2 h H3 "small" hi hh (.small X0 X1 c' X2 (of_decide_eq_true d)) (e1.trans (e2.trans e3)) L3
 ·exact q i2 h H3 "great" hi hh (.great X0 X1 c' X2 (of_decide_eq_false (dH.mpr d))) (e1.trans (e2.trans e3)) L3
end
section
variable {z:Str} {O hs:List c7} {h:c7} {kt kg:Nat} {far A B k:Int}
end
def qd (x y:Q2):Q2:=low (x.1*y.2) (x.2*y.1)
def qm (x y:Q2):Q2:=low (x.1*y.1) (x.2*y.2)
structure FrB (n:Nat) (x:Q2):Prop where
 p1:0<x.1
 b1:x.1<2 ^ n
 p2:0<x.2
 b2:x.2<2 ^ n
theorem a8c {A B:Int} (hA:0<A) (hB:0<B):0<(low A B).1/\(low A B).1<=A:=by
 obtain ⟨h1,_⟩:=J8 (t:=A) hB;have hg:=Z7 (a:=A) hB;have p:0<(low A B).1:=by
  rcases Int.lt_or_le 0 (low A B).1 with q | q
  ·exact q
  ·have:=eP q (aL hg)
   omega
 refine ⟨p,?_⟩;have:=cI (show (1:Int)<=gI A B by omega) (aL p);omega
theorem a2v {n m:Nat} {a b:Int} (ha:0<a) (hb:0<b) (h1:a<2 ^ n) (h2:b<2 ^ m):a*b<2 ^ (n+m):=by
 rw [Int.pow_add];exact Int.mul_lt_mul h1 (aL h2) hb (aL (Int.pow_pos (by decide)))
theorem FrB.low {n:Nat} {A B:Int} (hA:0<A) (hB:0<B) (h1:A<2 ^ n) (h2:B<2 ^ n):FrB n (low A B) :=
 ⟨(a8c hA hB).1,eH (a8c hA hB).2 h1,T8 hB,eH (a4l hB) h2⟩
theorem FrB.div {n m:Nat} {x y:Q2} (hx:FrB n x) (hy:FrB m y):FrB (n+m) (qd x y) :=
 FrB.low (cO hx.p1 hy.p2) (cO hx.p2 hy.p1) (a2v hx.p1 hy.p2 hx.b1 hy.b2) (a2v hx.p2 hy.p1 hx.b2 hy.b1)
theorem a7k {n m:Nat} (h:n<=m):(2:Int) ^ n<=2 ^ m:=by exact_mod_cast fB (show 0<2 by decide) h
theorem FrB.mono {n m:Nat} {x:Q2} (hx:FrB n x) (h:n<=m):FrB m x:=⟨hx.p1,gC hx.b1 (a7k h),hx.p2,gC hx.b2 (a7k h)⟩
theorem FrB.bigs {n:Nat} {x:Q2} (hx:FrB n x) (h:n<=1000000):Big 1000000 x.1/\Big 1000000 x.2:=⟨(W8 (aL hx.p1) hx.b1).mono h,(W8 (aL hx.p2) hx.b2).mono h⟩
section
variable {P:Program} {w:World} {K:W.Frag} {mg:Str->Option Value} {base:Heap} {f Pt CN:Addr} {fd:FuncData} {n:Nat}
def a1u (K:W.Frag) (F:Q2->Q2->Q2):Sp:=λ vs H Q _=>∃ (u v:V) (x y:Q2),vs=[u,v]/\FrV K H u x/\FrV K H v y/\FrB 4000 x/\FrB 4000 y/\∀ (r:V) (H':Hp),Same H H'->FrT H' r (F x y)->Q r H'
theorem b6k:m6 ["one","other"] ["one","other"] (i5 X3):=⟨rfl,rfl,rfl,by decide +kernel,rfl,by decide +kernel,by decide +kernel⟩
theorem b6s:m6 ["one","other"] ["one","other"] (i5 a1H):=⟨rfl,rfl,rfl,by decide +kernel,rfl,by decide +kernel,by decide +kernel⟩
theorem a3H {fa:Addr} {da:FuncData} (F:Fun K "multiplied" "multiplied" X3 f fd) (Cl:Cal P w K mg base n "lowest" ["top","bottom"] a1l fa da):FnOk P w K mg base E4 (n+1) f fd ["one","other"] (a1u K qm):=by
 refine F.ok b6k (λ vs H Q E h=>?_) (λ cdv A outer s H vs Q E hr h=>?_)
 ·obtain ⟨u,v,x,y,rfl,_⟩:=h
  rfl
 obtain ⟨u,v,x,y,rfl,⟨a,rfl,ha⟩,⟨b,rfl,hb⟩,hx,hy,q⟩:=h;refine ⟨_,i8 (r6 (i9 Cl.ok hr rfl Cl.m Cl.k Cl.b .nil r8 (c5 (j0 J7 (j7 A6 (pv 0) d0 (λ _ _=>rfl)) (j7 A6 (pv 1) d0 (λ _ _=>rfl))) (c5 (j0 J7 (j7 A6 (pv 0) d0 (λ _ _=>rfl)) (j7 A6 (pv 1) d0 (λ _ _=>rfl))) c6)))),?_⟩;have b1:=hx.bigs (by decide);have b2:=hy.bigs (by decide);exact ⟨_,rfl,a,_,0,_,rfl,rfl,ha,T9 _ _,_,rfl,b,_,0,_,rfl,rfl,hb,T9 _ _,_,_,rfl,rfl,⟨b1.1,b2.1⟩,_,rfl,a,_,1,_,rfl,rfl,ha,Z0 _ _,_,rfl,b,_,1,_,rfl,rfl,hb,Z0 _ _,_,_,rfl,rfl,⟨b1.2,b2.2⟩,_,_,rfl,cO hx.p2 hy.p2,a2v hx.p2 hy.p2 hx.b2 hy.b2,λ r H' e hr=>q r H' e hr⟩
theorem a6H {fa:Addr} {da:FuncData} (F:Fun K "divided" "divided" a1H f fd) (Cl:Cal P w K mg base n "lowest" ["top","bottom"] a1l fa da):FnOk P w K mg base E4 (n+1) f fd ["one","other"] (a1u K qd):=by
 refine F.ok b6s (λ vs H Q E h=>?_) (λ cdv A outer s H vs Q E hr h=>?_)
 ·obtain ⟨u,v,x,y,rfl,_⟩:=h
  rfl
 obtain ⟨u,v,x,y,rfl,⟨a,rfl,ha⟩,⟨b,rfl,hb⟩,hx,hy,q⟩:=h;refine ⟨_,i8 (r6 (i9 Cl.ok hr rfl Cl.m Cl.k Cl.b .nil r8 (c5 (j0 J7 (j7 A6 (pv 0) d0 (λ _ _=>rfl)) (j7 A6 (pv 1) d0 (λ _ _=>rfl))) (c5 (j0 J7 (j7 A6 (pv 0) d0 (λ _ _=>rfl)) (j7 A6 (pv 1) d0 (λ _ _=>rfl))) c6)))),?_⟩;have b1:=hx.bigs (by decide);have b2:=hy.bigs (by decide);exact ⟨_,rfl,a,_,0,_,rfl,rfl,ha,T9 _ _,_,rfl,b,_,1,_,rfl,rfl,hb,Z0 _ _,_,_,rfl,rfl,⟨b1.1,b2.2⟩,_,rfl,a,_,1,_,rfl,rfl,ha,Z0 _ _,_,rfl,b,_,0,_,rfl,rfl,hb,T9 _ _,_,_,rfl,rfl,⟨b1.2,b2.1⟩,_,_,rfl,cO hx.p2 hy.p1,a2v hx.p2 hy.p1 hx.b2 hy.b1,λ r H' e hr=>q r H' e hr⟩
structure ShB (z:Str) (hs:List c7) (h:c7) (kt kg:Nat) (x:Q2):Prop where
 s:∃ A B,IsShare z hs h kt kg A B/\0<A/\x=low A B
 b:FrB 1200 x
theorem ShB.is {z:Str} {hs:List c7} {h:c7} {kt kg:Nat} {far:Int} {x:Q2} {A B:Int} (hz:Q9 z) (a:ShB z hs h kt kg x) (J:IsShare z hs h kt kg A B) (hG:∀ g∈hs,HG far kt kg g) (gh:HG far kt kg h):x=low A B:=by
 obtain ⟨A',B',I,_,rfl⟩:=a.s;exact a2L I.1 J.1 (I.eq hz J (λ g hg=>⟨(hG g hg).lt,(hG g hg).lg⟩) gh.lt gh.lg)
theorem b4r:∀ k,k<18->Lp.bnd (2 ^ 60) (k+1)<2 ^ 1200:=by decide +kernel
theorem Best.b {z:Str} {hs:List c7} {h:c7} {kt kg:Nat} {S:Lp.Bo} {far:Int} (hz:Q9 z) (B:Best z hs h S) (hG:∀ g∈hs,HG far kt kg g) (gh:HG far kt kg h) (hf:far<=2 ^ 60) (few:hs.length<=16) (kt1:1<=kt) (kt4:kt<=20) (kg4:kg<=20):ShB z hs h kt kg (low (S.T (mE hs) (qE z h)) S.d):=by
 have U:=B.u hz hG gh kt1 kt4 kg4;have hM:=b2J (z:=z) gh hG hf (qE z h);have hb:=b4r (hs.length+1) (by omega);have hd:=U.b;have hp:=U.p;have i1:(S.T (mE hs) (qE z h)).natAbs<2 ^ 1200:=eK (B.1.w.bndT hM (aH _) (aH _)) hb;have i2:S.d.natAbs<2 ^ 1200:=eK (B.1.w.bndd hM) hb;have cast:∀ x:Int,0<x->x.natAbs<2 ^ 1200->x<2 ^ 1200:=λ x h0 h=>by
  have e:x=(x.natAbs:Int):=by omega
  rw [e]; exact_mod_cast h
 exact ⟨⟨_,_,U.s,hp,rfl⟩,FrB.low hp hd (cast _ hp i1) (cast _ hd i2)⟩
def b2r (K:W.Frag) (Pt:Addr):Sp:=λ vs H Q _=>∃ (ba:Addr) (hv:V) (xs:List V) (hs:List c7) (h:c7) (z:Str) (far:Int) (kt kg:Nat),vs=[.ref ba,hv,.str z]/\Q9 z/\BookIn K H ba xs hs far kt kg/\1<=kt/\HS K H hv h/\HG far kt kg h/\LT Pt H ∧
 (∀ (x:Q2) (H':Hp) (u:V),ShB z hs h kt kg x->Same1 Pt H H'->LT Pt H'->FrT H' u x->Q u H')/\∀ H':Hp,IsNone z hs h kt kg->Same1 Pt H H'->LT Pt H'->Q .non H'
theorem a1j (F:FnOk P w K mg base E4 n f fd ["houses","house","sizes"] (a0I K Pt)):FnOk P w K mg base E4 n f fd ["houses","house","sizes"] (b2r K Pt):=F.imp λ vs H Q E h=>by
 obtain ⟨ba,hv,xs,hs,h,z,far,kt,kg,rfl,hz,B,kt1,hH,gh,L,kG,kN⟩:=h;exact ⟨ba,hv,xs,hs,h,z,far,kt,kg,rfl,hz,B,hH,gh,L,λ S H' u Bs e L' hu=>kG _ H' u (Bs.b hz B.g gh B.far B.few kt1 B.t B.k) e L' hu,λ S H' c O hc hneg hno e L'=>kN H' (none_of hz O hc hneg hno B.g gh) e L'⟩
def a2o (K:W.Frag) (Pt:Addr):Sp:=λ vs H Q E=>∃ (b1 b2:Addr) (xs1 xs2:List V) (hs1 hs2:List c7) (i:Nat) (h1 h2:c7) (z:Str) (far:Int) (kt kg:Nat),vs=[.ref b1,.ref b2,.int i,.str z]/\Q9 z/\BookIn K H b1 xs1 hs1 far kt kg/\BookIn K H b2 xs2 hs2 far kt kg/\hs1[i]?=some h1/\hs2[i]?=some h2/\1<=kt/\LT Pt H ∧
 (∀ (x1 x2 y1 y2:Q2) (H':Hp) (t:Addr) (c r:V),ShB z hs1 h1 kt kg x1->ShB z hs2 h2 kt kg x2->ShB z hs1 h2 kt kg y1->ShB z hs2 h1 kt kg y2->Same1 Pt H H'->LT Pt H'->H' t=some (.tup [c,r])->FrT H' c (qd x2 x1)->FrT H' r (qm (qd y1 x2) (qd x1 y2))->Q (.ref t) H') ∧
 (∀ (x1 x2:Q2) (H':Hp) (t:Addr) (c:V),ShB z hs1 h1 kt kg x1->ShB z hs2 h2 kt kg x2->(IsNone z hs1 h2 kt kg\/IsNone z hs2 h1 kt kg)->Same1 Pt H H'->LT Pt H'->H' t=some (.tup [c,.non])->FrT H' c (qd x2 x1)->Q (.ref t) H')
theorem scMv:m6 ["before","after","number","sizes","ahead","behind","share_ahead","share_behind","catch","first","second"] ["before","after","number","sizes"] (i5 a0k):=⟨rfl,rfl,rfl,by decide +kernel,rfl,by decide +kernel,by decide +kernel⟩
noncomputable def mvT {cdv:Value} {A:Around} {outer:List Env} {s:Shared} {H:Hp} {E:XK} {f1 f2 f3 f4 f5:Addr} {d1 d2 d3 d4 d5:FuncData} (T:w8 mg) (Cl:D3 P w K mg base n "are_like_counts" ["house","other"] (a6Q K) f1 d1) (Ch:X6 P w K mg base n "house_of" ["book","number"] (a1o K CN) f2 d2) (Ce:D3 P w K mg base n "held_against" ["houses","house","sizes"] (a0I K Pt) f3 d3)
  (Cd:D3 P w K mg base n "divided" ["one","other"] (a1u K qd) f4 d4) (Cm:D3 P w K mg base n "multiplied" ["one","other"] (a1u K qm) f5 d5) (hr:Room n (A.deeper (dB "moved" (i5 a0k) s.heap.objs.size f cdv))) :
  { t:TS // PSs (M0 (CX1 P w) P w K mg base ["before","after","number","sizes","ahead","behind","share_ahead","share_behind","catch","first","second"] "moved" (i5 a0k) f cdv A outer s H E) (v5 a0k) t } :=
 ⟨_,i6 (A7 (a6P (a4z (i9 Cl.ok hr rfl Cl.m Cl.k Cl.b .nil r8 (c5 (j7 j5 (pv 0) d0 (λ _ _=>rfl)) (c5 (j7 j5 (pv 1) d0 (λ _ _=>rfl)) c6))))) O4 t7)
  (i6 (j4 (i:=4) scMv.nd rfl (aC rfl) (i9 Ch.ok hr rfl Ch.m Ch.k Ch.b .nil Z6 (c5 (pv 0) (c5 (pv 2) c6))))
  (i6 (j4 (i:=5) scMv.nd rfl (aC rfl) (i9 Ch.ok hr rfl Ch.m Ch.k Ch.b .nil Z6 (c5 (pv 1) (c5 (pv 2) c6))))
  (PSs.nox (m8 (j4 (i:=6) scMv.nd rfl (aC rfl) (i9 (a1j Ce.ok) hr rfl Ce.m Ce.k Ce.b .nil r8 (c5 (pv 0) (c5 (pv 4) (c5 (pv 3) c6)))))
  (m8 (j4 (i:=7) scMv.nd rfl (aC rfl) (i9 (a1j Ce.ok) hr rfl Ce.m Ce.k Ce.b .nil r8 (c5 (pv 1) (c5 (pv 5) (c5 (pv 3) c6)))))
  (i6 (j4 (i:=8) scMv.nd rfl (aC rfl) (i9 Cd.ok hr rfl Cd.m Cd.k Cd.b .nil r8 (c5 (pv 7) (c5 (pv 6) c6))))
  (m8 (j4 (i:=9) scMv.nd rfl (aC rfl) (i9 (a1j Ce.ok) hr rfl Ce.m Ce.k Ce.b .nil r8 (c5 (pv 0) (c5 (pv 5) (c5 (pv 3) c6)))))
  (m8 (j4 (i:=10) scMv.nd rfl (aC rfl) (i9 (a1j Ce.ok) hr rfl Ce.m Ce.k Ce.b .nil r8 (c5 (pv 1) (c5 (pv 4) (c5 (pv 3) c6)))))
  (i6 (A7 (PW.pt (a7b (m9 a0J (pv 9) J3 (p7 _)) (a4y (m9 a0J (pv 10) J3 (p7 _))))) (i8 (r6 (L9 (c5 (pv 8) (c5 J3 c6))))) t7)
  (i8 (r6 (L9 (c5 (pv 8) (c5 (i9 Cm.ok hr rfl Cm.m Cm.k Cm.b .nil r8 (c5 (i9 Cd.ok hr rfl Cd.m Cd.k Cd.b .nil r8 (c5 (pv 9) (c5 (pv 7) c6))) (c5 (i9 Cd.ok hr rfl Cd.m Cd.k Cd.b .nil r8 (c5 (pv 6) (c5 (pv 10) c6))) c6))) c6))))))))))))))⟩
end
theorem a1x (k:Int):low k 1=(k,1):=by
 refine V9 (R8 (by decide)) ⟨by show (0:Int)<1; decide,by simp⟩ ?_;have:=low_cross (x:=k) (D:=1) (by decide);exact this
section
variable {hs:List c7} {h:c7} {kt kg:Nat} {far A B k:Int}
end
structure Grq (l:List (Int×Int)) (q:Q2):Prop where
 pos:0<q.2
 ge:∀ p∈l,p.1*q.2<=q.1*p.2
 c:Q6 q
theorem a5Y:∀ (l:List (Int×Int)) (a:Q2),Q6 a->(∀ p∈l,0<p.2)->Q6 (l.foldl stp a)/\a.1*(l.foldl stp a).2<=(l.foldl stp a).1*a.2/\∀ p∈l,p.1*(l.foldl stp a).2<=(l.foldl stp a).1*p.2
 | [],a,ca,_=>⟨ca,bL _,nofun⟩
 | p::l,a,ca,hl=>by
  have hp:=hl p cE;have c1:Q6 (stp a p):=by
   unfold stp
   split
   ·exact R8 hp
   ·exact ca
  obtain ⟨d1,d2,d3⟩:=a5Y l (stp a p) c1 λ x hx=>hl x (bS _ hx);rw [jX];generalize l.foldl stp (stp a p)=q at *;have s1:a.1*(stp a p).2<=(stp a p).1*a.2:=by
   unfold stp
   split
   ·rename_i h
    have:=(a6D (a:=a) (t:=p.1) hp).mpr h;omega
   ·exact bL _
  have s2:p.1*(stp a p).2<=(stp a p).1*p.2:=by
   unfold stp
   split
   ·have:=Fr.low_cross (t:=p.1) hp
    omega
   ·omega
  have tr:∀ {x y z:Q2},0<x.2->0<y.2->0<z.2->x.1*y.2<=y.1*x.2->y.1*z.2<=z.1*y.2->x.1*z.2<=z.1*x.2:=λ {x y z} hx hy hz h1 h2=>by
   have a1:=cI h1 (aL hz);have a2:=cI h2 (aL hx);refine fA (a:=y.2) ?_ hy
   calc x.1*z.2*y.2=x.1*y.2*z.2:=by ac_rfl
    _<=y.1*x.2*z.2:=a1
    _=y.1*z.2*x.2:=by ac_rfl
    _<=z.1*y.2*x.2:=a2
    _=z.1*x.2*y.2:=by ac_rfl
  refine ⟨d1,tr (x:=a) (y:=stp a p) (z:=q) ca.1 c1.1 d1.1 s1 d2,λ x hx=>?_⟩;rcases aR.mp hx with rfl | hx
  ·exact tr (x:=(x.1,x.2)) (y:=stp a x) (z:=q) hp c1.1 d1.1 s2 d2
  ·exact d3 x hx
theorem a8d {ts os:List Int} (ho:∀ x∈os,0<x):Grq (dW ts os) (ltm ts os):=by
 obtain ⟨h1,_,h3⟩:=a5Y (dW ts os) (0,1) ⟨by decide,by decide⟩ λ p hp=>ho _ (gL hp).2;exact ⟨h1.1,h3,h1⟩
def ltB (x y:Q2):Prop:=x.1*y.2<y.1*x.2
structure Bst (hs:List c7) (o:c7) (i:Nat) (b:Option (Q2×Nat)):Prop where
 n:b=none->∀ j g,j<i->hs[j]?=some g->a3m g o=false
 s:∀ q k,b=some (q,k)->k<i/\∃ g,hs[k]?=some g/\a3m g o=true/\q=ltm g.1 o.1/\(∀ j g',j<i->hs[j]?=some g'->a3m g' o=true->¬ ltB (ltm g'.1 o.1) q)
theorem a4t (hs:List c7) (o:c7):∀ i,i<=hs.length->(∀ g∈hs,0<(ltm g.1 o.1).2)->Bst hs o i (V0 hs o i)
 | 0,_,_=>⟨λ _ j g hj=>absurd hj (gJ _),λ q k e=>by cases e⟩
 | i+1,hi,hp=>by
  have ih:=a4t hs o i (by omega) hp;obtain ⟨g,hg⟩:∃ g,hs[i]?=some g:=⟨_,aF (by omega)⟩;have eg:hs.getD i ([],[])=g:=by rw [aG,hg]; rfl
  show Bst hs o (i+1) (a2I o (V0 hs o i) i (hs.getD i ([],[])))
  rw [eg];unfold a2I
  by_cases c:a3m g o=true
  ·rw [if_pos c]
   cases e:V0 hs o i with
   | none =>
    refine ⟨λ z=>(nomatch z),λ q k z=>?_⟩
    cases z;refine ⟨by omega,g,hg,c,rfl,λ j g' hj hg' c'=>?_⟩
    by_cases hji:j<i
    ·rw [ih.n e j g' hji hg'] at c'; cases c'
    ·have:j=i:=by omega
     subst this;rw [hg] at hg'; cases hg';exact iC _
   | some p =>
    obtain ⟨q0,k0⟩:=p;obtain ⟨hk,g0,hg0,c0,eq0,mn⟩:=ih.s q0 k0 e;dsimp only;have p1:=hp g (aJ hg);have p0:0<q0.2:=by rw [eq0]; exact hp g0 (aJ hg0)
    by_cases d:(ltm g.1 o.1).1*q0.2<q0.1*(ltm g.1 o.1).2
    ·rw [if_pos d]
     refine ⟨λ z=>(nomatch z),λ q k z=>?_⟩
     cases z;refine ⟨by omega,g,hg,c,rfl,λ j g' hj hg' c' lt=>?_⟩
     by_cases hji:j<i
     ·have p':=hp g' (aJ hg')
      have m1:=mn j g' hji hg' c';unfold ltB at m1 lt;have:=b2C (x:=ltm g.1 o.1) (y:=q0) (z:=ltm g'.1 o.1) p1 p0 p' d m1;omega
     ·have:j=i:=by omega
      subst this;rw [hg] at hg'; cases hg';exact iC _ lt
    ·rw [if_neg d]
     refine ⟨λ z=>(nomatch z),λ q k z=>?_⟩
     cases z;refine ⟨by omega,g0,hg0,c0,eq0,λ j g' hj hg' c' lt=>?_⟩
     by_cases hji:j<i
     ·exact mn j g' hji hg' c' lt
     ·have:j=i:=by omega
      subst this;rw [hg] at hg'; cases hg';exact d lt
  ·rw [if_neg c]
   have cf:a3m g o=false:=dH.mpr c;refine ⟨λ z j g' hj hg'=>?_,λ q k z=>?_⟩
   ·by_cases hji:j<i
    ·exact ih.n z j g' hji hg'
    ·have:j=i:=by omega
     subst this;rw [hg] at hg'; cases hg';exact cf
   ·obtain ⟨hk,g0,hg0,c0,eq0,mn⟩:=ih.s q k z
    refine ⟨by omega,g0,hg0,c0,eq0,λ j g' hj hg' c'=>?_⟩
    by_cases hji:j<i
    ·exact mn j g' hji hg' c'
    ·have:j=i:=by omega
     subst this;rw [hg] at hg'; cases hg';exact absurd c' c
theorem a4h {q:Q2} (c:Q6 q):low q.1 q.2=q:=by
 obtain ⟨h1,h2⟩:=c;have hg:gI q.1 q.2=1:=by show ((gS q.1 q.2:Nat):Int)=1; rw [h2]; rfl
 have:=J8 (t:=q.1) h1;rw [hg,dP,dP] at this;exact kK this.1.symm this.2.symm
theorem a9Y {p q:Q2} (c:Q6 p) (d:Q6 q) (h:p.1*q.2=q.1*p.2):p=q:=by
 rw [<- a4h c,<- a4h d];exact a2L c.1 d.1 h
def X8 (hs hs':List c7):Prop:=(∀ g∈hs,g∈hs')/\∀ g∈hs',g∈hs
section
variable {z:Str} {hs hs':List c7} {h o:c7} {kt kg:Nat} {far:Int}
theorem a8C {q q':Q2} {k k':Nat} (S:X8 hs hs') (go:HG far kt kg o) (e:V0 hs o hs.length=some (q,k)) (e':V0 hs' o hs'.length=some (q',k')):q=q':=by
 have pos:∀ g:c7,Q6 (ltm g.1 o.1):=λ g=>(a8d (ts:=g.1) λ x hx=>by have:=(go.t x hx).1; omega).c;have B:=a4t hs o hs.length (aH _) λ g _=>(pos g).1;have B':=a4t hs' o hs'.length (aH _) λ g _=>(pos g).1;obtain ⟨_,g,hg,c,rfl,mn⟩:=B.s q k e;obtain ⟨_,g',hg',c',rfl,mn'⟩:=B'.s q' k' e';obtain ⟨j,hj⟩:=cR (S.2 g' (aJ hg'));obtain ⟨j',hj'⟩:=cR (S.1 g (aJ hg));have l1:=mn j g' (aU.mp hj).1 hj c';have l2:=mn' j' g (aU.mp hj').1 hj' c;unfold ltB at l1 l2;exact a9Y (pos g) (pos g') (by omega)
theorem b0N {i:Nat} (hi:hs[i]?=some o) (go:HG far kt kg o):V0 hs o hs.length≠none:=λ e=>by
 have pos:∀ g:c7,Q6 (ltm g.1 o.1):=λ g=>(a8d (ts:=g.1) λ x hx=>by have:=(go.t x hx).1; omega).c;have B:=a4t hs o hs.length (aH _) λ g _=>(pos g).1;have:=B.n e i o (aU.mp hi).1 hi;have c:a3m o o=true:=(a5N o o).mpr λ _ _=>bL _;rw [c] at this; cases this
theorem Z8 {A B A' B':Int} (hz:Q9 z) (S:X8 hs hs') (x:ShU z hs h kt kg A B) (y:ShU z hs' h kt kg A' B') (hG:∀ g∈hs,HG far kt kg g) (gh:HG far kt kg h):low A B=low A' B':=x.fr hz (y.s.same S.2 S.1) hG gh
theorem a6d {A B A' B':Int} (hz:Q9 z) (S:X8 hs hs') (x:GrU z hs h kt kg A B) (y:GrU z hs' h kt kg A' B') (hG:∀ g∈hs,HG far kt kg g) (gh:HG far kt kg h):low A B=low A' B' :=
 a2L x.b y.b (x.s.eq hz (y.s.same S.2 S.1) (λ g hg=>⟨(hG g hg).lt,(hG g hg).lg⟩) gh.lt gh.lg)
theorem IsNone.sameB (N:IsNone z hs h kt kg) (S:X8 hs hs'):IsNone z hs' h kt kg:=by
 obtain ⟨pt,pg,ps,P,a,b⟩:=N;exact ⟨pt,pg,ps,⟨P.lt,P.lg,P.tn,P.gn,P.sign,λ g hg=>P.fair g (S.2 g hg)⟩,a,b⟩
theorem a8P {t t':Str} (S:X8 hs hs') (hG:∀ g∈hs,HG far kt kg g) (gh:HG far kt kg h) (x:Scl hs h kt kg t) (y:Scl hs' h kt kg t'):t=t':=by
 have E:∀ {z:Str} {A B A' B':Int},Q9 z->ShU z hs h kt kg A B->ShU z hs' h kt kg A' B'->low A B=low A' B':=λ hz s s'=>Z8 hz S s s' hG gh;have z0:Q9 "any":=.inl rfl;have z1:Q9 "one":=.inr (.inl rfl);have z2:Q9 "less":=.inr (.inr (.inl rfl))
 cases x with
 | just a0 a1 q =>
  cases y with
  | just=>rfl
  | small b0 b1 q'=>rw [<- E z0 a0 b0,<- E z1 a1 b1] at q'; exact absurd q q'
  | great b0 b1 q'=>rw [<- E z0 a0 b0,<- E z1 a1 b1] at q'; exact absurd q q'
 | small a0 a1 q a2 r =>
  cases y with
  | just b0 b1 q'=>rw [<- E z0 a0 b0,<- E z1 a1 b1] at q'; exact absurd q' q
  | small=>rfl
  | great b0 b1 q' b2 r'=>rw [<- E z0 a0 b0,<- E z2 a2 b2] at r'; exact absurd r r'
 | great a0 a1 q a2 r =>
  cases y with
  | just b0 b1 q'=>rw [<- E z0 a0 b0,<- E z1 a1 b1] at q'; exact absurd q' q
  | small b0 b1 q' b2 r'=>rw [<- E z0 a0 b0,<- E z2 a2 b2] at r'; exact absurd r' r
  | great=>rfl
theorem a0n {x y:Q2} (hz:Q9 z) (S:X8 hs hs') (a:ShB z hs h kt kg x) (b:ShB z hs' h kt kg y) (hG:∀ g∈hs,HG far kt kg g) (gh:HG far kt kg h):x=y:=by
 obtain ⟨A,B,J,_,rfl⟩:=b.s;exact a.is hz (J.same S.2 S.1) hG gh
theorem a3X (S:X8 hs hs'):a0w z hs h ↔ a0w z hs' h:=by
 constructor
 ·rintro ⟨pt,pg,ps,r⟩
  exact ⟨pt,pg,ps,r.lt,r.lg,r.tp,r.gp,r.sign,λ g hg=>r.fair g (S.2 g hg),r.firm⟩
 ·rintro ⟨pt,pg,ps,r⟩
  exact ⟨pt,pg,ps,r.lt,r.lg,r.tp,r.gp,r.sign,λ g hg=>r.fair g (S.1 g hg),r.firm⟩
end
section
variable {z:Str} {hs:List c7} {kt kg:Nat} {far:Int} {ord:List Nat}
theorem a0K (hp:ord.Perm (aD hs.length)) {k:Nat}:k∈ord ↔ k<hs.length:=by rw [hp.mem_iff,bO]
theorem S6 {k i:Nat} {h:c7} (hk:ord[i]?=some k) (hh:hs[k]?=some h):(A9 hs ord)[i]?=some h:=by
 rw [aE,hk]
 show some (hs.getD k ([],[]))=some h
 rw [aG,hh]; rfl
theorem a1k (hp:ord.Perm (aD hs.length)):X8 hs (A9 hs ord):=by
 refine ⟨λ g hg=>?_,λ g hg=>?_⟩
 ·obtain ⟨k,hk⟩:=cR hg
  obtain ⟨i,hi⟩:=cR ((a0K hp).mpr (aU.mp hk).1);exact aJ (S6 hi hk)
 ·obtain ⟨k,hk,rfl⟩:=aK.mp hg
  have:=(a0K hp).mp hk;rw [aG,aF this];exact cD this
theorem a6W {α:Type} {l:List α} {i j:Nat} (h:j≠i) (hj:j<l.length):l[j]∈Z2 l i:=by
 unfold Z2;rw [aQ];rcases Nat.lt_or_ge j i with c | c
 ·left
  refine aJ (i:=j) ?_;rw [gF c,aF hj]
 ·right
  refine aJ (i:=j - (i+1)) ?_;rw [gW,show i+1+(j - (i+1))=j by omega,aF hj]
theorem a7t {α:Type} {l:List α} {i:Nat} {x:α} (h:x∈Z2 l i):∃ j,j≠i/\l[j]?=some x:=by
 unfold Z2 at h;rcases aQ.mp h with h | h
 ·obtain ⟨j,hj⟩:=cR h
  have hji:j<i:=by
   have:=(aU.mp hj).1;rw [bU] at this; omega
  rw [gF hji] at hj;exact ⟨j,by omega,hj⟩
 ·obtain ⟨j,hj⟩:=cR h
  rw [gW] at hj;exact ⟨i+1+j,by omega,hj⟩
theorem a9d (hp:ord.Perm (aD hs.length)) {at' k:Nat} (hk:ord[at']?=some k):X8 (Z2 hs k) (Z2 (A9 hs ord) at'):=by
 have nd:ord.Nodup:=hp.nodup_iff.mpr jI;obtain ⟨a1,a2⟩:=aU.mp hk;refine ⟨λ g hg=>?_,λ g hg=>?_⟩
 ·obtain ⟨j,hj,hg⟩:=a7t hg
  obtain ⟨i,hi⟩:=cR ((a0K hp).mpr (aU.mp hg).1);have ni:i≠at':=λ e=>by rw [e,hk] at hi; exact hj (aS hi).symm
  have hs':=S6 hi hg;obtain ⟨i1,i2⟩:=aU.mp hs';rw [<- i2];exact a6W ni i1
 ·obtain ⟨i,ni,hi⟩:=a7t hg
  have il:i<ord.length:=by have:=(aU.mp hi).1; rw [aA] at this; exact this
  have hj:=(a0K hp).mp (cD il);have nk:ord[i]≠k:=λ e=>by
   rw [<- a2] at e;rcases kM ni with c | c
   ·exact fG.mp nd i at' il a1 c e
   ·exact fG.mp nd at' i a1 il c e.symm
  have e2:=S6 (aF il) (aF hj);rw [hi] at e2;rw [aS e2];exact a6W nk hj
theorem b1X (hp:ord.Perm (aD hs.length)) {left left':List Nat} (hl':∀ i∈left',i<ord.length) (hq:(left'.map λ i=>ord.getD i 0).Perm left):X8 (A9 hs left) (A9 (A9 hs ord) left'):=by
 have e:A9 (A9 hs ord) left'=A9 hs (left'.map λ i=>ord.getD i 0):=b2f hl';rw [e];exact ⟨λ g hg=>(hq.map _).mem_iff.mpr hg,λ g hg=>(hq.map _).mem_iff.mp hg⟩
theorem a2z {left:List Nat} {k:Nat} (nd:left.Nodup) (hk:k∈left):k∈lvl z hs left ↔ a0w z (A9 hs left) (hs.getD k ([],[])):=by
 obtain ⟨i,hi⟩:=cR hk;obtain ⟨i1,i2⟩:=aU.mp hi;have hs':(A9 hs left)[i]?=some (hs.getD k ([],[])):=by rw [aE,hi]; rfl
 unfold lvl;constructor
 ·intro h
  obtain ⟨j,hj,e⟩:=aK.mp h;have jl:=a2Y hj;rw [K7 jl] at e;have:j=i:=by
   rcases iU j i with c | c | c
   ·exact absurd (e.trans i2.symm) (fG.mp nd j i jl i1 c)
   ·exact c
   ·exact absurd (i2.trans e.symm) (fG.mp nd i j i1 jl c)
  subst this;exact (a3c hs').mp hj
 ·intro h
  exact aK.mpr ⟨i,(a3c hs').mpr h,by rw [K7 i1,i2]⟩
theorem a7c (hp:ord.Perm (aD hs.length)) {left left':List Nat} (u:Up left) (u':Up left') (hl':∀ i∈left',i<ord.length) (hq:(left'.map λ i=>ord.getD i 0).Perm left):((lvl z (A9 hs ord) left').map λ i=>ord.getD i 0).Perm (lvl z hs left):=by
 have nd:left.Nodup:=u.imp λ h=>bI h;have nd':left'.Nodup:=u'.imp λ h=>bI h;have ndo:ord.Nodup:=hp.nodup_iff.mpr jI;have S:=b1X hp hl' hq;have inj:∀ {i j:Nat},i<ord.length->j<ord.length->ord.getD i 0=ord.getD j 0->i=j:=λ {i j} hi hj e=>by
  rw [K7 hi,K7 hj] at e;rcases iU i j with c | c | c
  ·exact absurd e (fG.mp ndo i j hi hj c)
  ·exact c
  ·exact absurd e.symm (fG.mp ndo j i hj hi c)
 refine (lK ?_ ((a6N u).imp λ h=>bI h)).mpr λ k=>?_
 ·refine jG.mpr ((a6N u').imp_of_mem λ {a b} ha hb h e=>?_)
  have:=inj (hl' a (a3v ha)) (hl' b (a3v hb)) e;omega
 ·have hd:∀ {i:Nat},i<ord.length->(A9 hs ord).getD i ([],[])=hs.getD (ord.getD i 0) ([],[]):=λ {i} hi=>by
   rw [aG,aE,aF hi,K7 hi]; rfl
  constructor
  ·intro h
   obtain ⟨i,hi,rfl⟩:=aK.mp h;have il:=a3v hi;have r:=(a2z nd' il).mp hi;rw [hd (hl' i il)] at r;have kin:ord.getD i 0∈left:=hq.mem_iff.mp (aK.mpr ⟨i,il,rfl⟩);exact (a2z nd kin).mpr ((a3X S).mpr r)
  ·intro h
   have kin:=a3v h;obtain ⟨i,il,e⟩:=aK.mp (hq.mem_iff.mpr kin);refine aK.mpr ⟨i,(a2z nd' il).mpr ?_,e⟩;rw [hd (hl' i il),e];exact (a3X S).mp ((a2z nd kin).mp h)
theorem b1b (hp:ord.Perm (aD hs.length)) {left left':List Nat} (u:Up left) (u':Up left') (hl':∀ i∈left',i<ord.length) (hq:(left'.map λ i=>ord.getD i 0).Perm left):((rst z (A9 hs ord) left').map λ i=>ord.getD i 0).Perm (rst z hs left):=by
 have a:=(a1R (z:=z) (hs:=A9 hs ord) (left:=left')).map λ i=>ord.getD i 0;rw [bC] at a;have b:=a1R (z:=z) (hs:=hs) (left:=left);have c:=(a.trans hq).trans b.symm;exact (List.perm_append_left_iff _).mp (((a7c (z:=z) hp u u' hl' hq).symm.append_right _).trans c)
theorem a7B (hp:ord.Perm (aD hs.length)):∀ (n:Nat) (left left':List Nat),Up left->Up left'->(∀ i∈left',i<ord.length)->(left'.map λ i=>ord.getD i 0).Perm left->cS (λ (l' l:List Nat)=>(l'.map λ i=>ord.getD i 0).Perm l/\Up l) (lev z (A9 hs ord) n left') (lev z hs n left)
 | 0,_,_,_,_,_,_=>.nil
 | n+1,left,left',u,u',hl',hq=>by
  by_cases hne:left=[]
  ·subst hne
   have:left'=[]:=by
    have:=hq.length_eq;rw [aA] at this;exact fF this
   subst this;rw [W2,W2]; exact .nil
  have hne':left'≠[]:=λ e=>by
   subst e;exact hne (List.nil_perm.mp hq)
  rw [S3 hne,S3 hne'];exact .cons ⟨a7c hp u u' hl' hq,a6N u⟩ (a7B hp n _ _ (b0W u) (b0W u') (λ i hi=>hl' i (a4Q hi)) (b1b hp u u' hl' hq))
theorem a9B (hp:ord.Perm (aD hs.length)) {pt pg:List Int} {ps:Int}:(((aD (A9 hs ord).length).filter (N0 ((A9 hs ord).map (Y0 pt pg ps)))).map λ i=>ord.getD i 0).Perm ((aD hs.length).filter (N0 (hs.map (Y0 pt pg ps)))):=by
 have ndo:ord.Nodup:=hp.nodup_iff.mpr jI;have S:=a1k hp;have sl:(A9 hs ord).length=ord.length:=aA _;have e:∀ i,i<ord.length->N0 ((A9 hs ord).map (Y0 pt pg ps)) i=N0 (hs.map (Y0 pt pg ps)) (ord.getD i 0):=λ i hi=>by
  have hk:=(a0K hp).mp (cD hi);have e1:((A9 hs ord).map (Y0 pt pg ps))[i]?=some (Y0 pt pg ps hs[ord[i]]):=by
   rw [aE,S6 (aF hi) (aF hk)]; rfl
  have e2:(hs.map (Y0 pt pg ps))[ord.getD i 0]?=some (Y0 pt pg ps hs[ord[i]]):=by
   rw [K7 hi,aE,aF hk]; rfl
  unfold N0;rw [e1,e2]
  cases Y0 pt pg ps hs[ord[i]] with
  | none=>rfl
  | some x =>
   dsimp only;rw [fJ,eD,eD];refine ⟨λ h o ho=>?_,λ h o ho=>?_⟩
   ·obtain ⟨g,hg,rfl⟩:=aK.mp ho
    exact h _ (aK.mpr ⟨g,S.1 g hg,rfl⟩)
   ·obtain ⟨g,hg,rfl⟩:=aK.mp ho
    exact h _ (aK.mpr ⟨g,S.2 g hg,rfl⟩)
 have a:(((aD (A9 hs ord).length).filter (N0 ((A9 hs ord).map (Y0 pt pg ps)))).map λ i=>ord.getD i 0)=ord.filter (N0 (hs.map (Y0 pt pg ps))):=by
  rw [sl]
  conv=>rhs; rw [<- a0F ord]
  rw [kS]
  congr 1
  refine List.filter_congr λ i hi=>?_;exact e i (bO.mp hi)
 rw [a];exact hp.filter _
end
end Rim
namespace HT
open PySem PySem.Spec PyProof.Rows L2
section
variable {prog:Program} {w:World} {A:Around} {E:Value->Shared->Prop} {s:Shared}
theorem a6E (n:Nat):Builtin.Slice.sliceAdjust none none (-1) (n:Int)=((n:Int) - 1,-1):=by
 unfold Builtin.Slice.sliceAdjust;simp
theorem a6t (n:Nat):Builtin.Slice.slicePlaces ((n:Int) - 1) (-1) (-1)=n:=by
 unfold Builtin.Slice.slicePlaces;simp;omega
theorem a1D {sl:Addr} {t:Tok} {n:Nat} {Q:Int×Int×Nat->Shared->Prop} (hs:s.heap.IsSliceOf sl .none .none (.int (-1) t))
  (h:Q ((n:Int) - 1,-1,n) s):wpAny (model prog w) A (Builtin.Slice.sliceApplied (.ref sl) (pure (n:Int))) Q E s:=by
 obtain ⟨os,hos,hcs,hds⟩:=id hs;unfold Builtin.Slice.sliceApplied Builtin.Slice.sliceFields;refine wpAny_bind (wpAny_bind (wpAny_field hos hds (x:=.none) rfl (wpAny_bind (wpAny_field hos hds (x:=.none) rfl (wpAny_bind (wpAny_field hos hds (x:=.int (-1) t) rfl (wpAny_pure ?_)))))));refine wpAny_bind (a0L (.int (-1) t) ?_)
 show wpAny _ _ (if ((-1:Int)==0)=true then _ else _) _ _ s
 rw [if_neg (by decide)];refine wpAny_bind (a0L .none (wpAny_bind (a0L .none (wpAny_bind (wpAny_pure ?_)))))
 show wpAny _ _ (match Builtin.Slice.sliceAdjust none none (-1) (n:Int) with | (lo,hi)=>pure (lo,(-1:Int),Builtin.Slice.slicePlaces lo hi (-1))) _ _ s
 rw [a6E n]
 show wpAny _ _ (pure ((n:Int) - 1,(-1:Int),Builtin.Slice.slicePlaces ((n:Int) - 1) (-1) (-1))) _ _ s
 rw [a6t];exact wpAny_pure h
theorem a5H {α β:Type} {f g:α->Option β}:∀ {l:List α},(∀ m∈l,f m=g m)->l.filterMap f=l.filterMap g
 | [],_=>rfl
 | x::r,h=>by rw [eV,eV,h x (.head _),a5H λ m hm=>h m (.tail _ hm)]
theorem a9u (xs:List Value):((aD xs.length).filterMap λ (m:Nat)=>xs.toArray[((xs.length:Int) - 1+(m:Int)*(-1)).toNat]?).toArray=xs.reverse.toArray:=by
 have e:((aD xs.length).filterMap λ (m:Nat)=>xs.toArray[((xs.length:Int) - 1+(m:Int)*(-1)).toNat]?)=(aD xs.length).filterMap λ (m:Nat)=>xs.reverse.toArray[(((0:Nat):Int)+(m:Int)*1).toNat]?:=by
  refine a5H λ m hm=>?_;have hm':=bO.mp hm;rw [show ((xs.length:Int) - 1+(m:Int)*(-1)).toNat=xs.length - 1 - m by omega,show (((0:Nat):Int)+(m:Int)*1).toNat=m by omega,lP,lP,List.getElem?_reverse hm']
 rw [e,b0Z,iT,eE (by simp)]
theorem getItem_tuple_rev {t sl:Addr} {its:List Value} {tk:Tok} {Q:Value->Shared->Prop} (ht:IsTup s.heap t its.toArray) (hs:s.heap.IsSliceOf sl .none .none (.int (-1) tk))
  (h:Q (.ref s.heap.objs.size) { s with heap:=s.heap.push { cls:=.type "tuple",data:=.seq its.reverse.toArray } })
  (hsz:its.length<=sizeLine):wpAny (model prog w) A (getItem (.ref t) (.ref sl)) Q E s:=by
 have htake:sizeOk (.seq its.reverse.toArray):=by
  show its.reverse.toArray.size<=sizeLine
  rw [bD,jJ]; exact hsz
 obtain ⟨os,hos,hcs,hds⟩:=id hs;have hTs:s.TypeIs (.ref sl) "slice":=⟨os,hos,hcs⟩;unfold getItem
 try with_reducible refine wpAny_holding ?_
 first | refine wpAny_bind (wpAny_pure ?_) | skip
 refine wpAny_bind (wpAny_sequenceKey ht.typeIs (by decide) ?_);refine wpAny_bind (wpAny_callSpecial?_slot (name:=Str.ofString "__getitem__") ht.typeIs jK
  (wpAny_call_entry jK ht.typeIs entry_tuple_getitem ?_ (args_tuple_getitem _ _)))
 show wpAny _ _ (Builtin.Tuple.tupleItemsOf (.ref t) >>= _) _ _ s
 refine wpAny_bind (tupleItemsOf_ ht ?_);refine wpAny_bind (wpAny_typeOf hTs ?_);rw [if_pos (by decide)];refine wpAny_bind (a1D hs ?_);have hno:¬ ((((its.toArray.size:Int) - 1)==0&&(-1:Int)==1&&its.toArray.size==its.toArray.size)=true):=by
  intro q;rw [dD,dD] at q;exact absurd q.1.2 (by decide)
 show wpAny _ _ (if (((its.toArray.size:Int) - 1)==0&&(-1:Int)==1&&its.toArray.size==its.toArray.size)=true then _ else _) _ _ s
 rw [if_neg hno,bD,a9u]
 first
  | exact wpAny_bind (m:=Builtin.Tuple.tupleExact _) (wpAny_newObj_type (wpAny_pure ⟨_,rfl,wpAny_pure h⟩) htake)
  | exact wpAny_bind (m:=Builtin.Tuple.tupleExact _) (wpAny_newObj_type (wpAny_bind (wpAny_pure (wpAny_pure ⟨_,rfl,wpAny_pure h⟩))) htake)
  | exact wpAny_bind (wpAny_bind (m:=Builtin.Tuple.tupleExact _) (wpAny_newObj_type (wpAny_pure (wpAny_pure ⟨_,rfl,wpAny_pure h⟩)) htake))
  | exact wpAny_bind (wpAny_bind (m:=Builtin.Tuple.tupleExact _) (wpAny_newObj_type (wpAny_pure ⟨_,rfl,wpAny_pure h⟩) htake))
end
end HT
namespace L2
open PySem PySem.Spec PyProof.Rows
section
variable {X:Cx} {e st:Expr} {te ts:TE} {p2 pos:Pos}
def b2V (K:W.Frag) (te:TE) (ts:TO):TE:=λ σ H Q=>te σ H λ x H1=>ts σ H1 λ o H2=>o=some (-1)/\∃ a xs,x=.ref a/\SqT K H2 a xs/\∀ p,H2 p=none->Q (.ref p) (upd H2 p (.tup xs.reverse))
theorem b1R {ts:TO} (he:PE X e te) (hs:PO X (some st) ts):PE X (.Subscript e (.Slice none none (some st) p2) pos) (b2V X.K te ts):=by
 intro pins s σ H Q I h;refine Subscript_ (C6 (he pins s σ H _ I h) λ v s1 ⟨x,H1,I1,r1,q1⟩=>?_);refine wpAny_Slice ?_;rw [evalPart_none];refine wpAny_pure ?_;refine wpAny_pure ?_;refine C6 (hs pins s1 σ H1 _ I1 q1) λ vs s3 ⟨o,H3,I3,pu,q3⟩=>?_;obtain ⟨rfl,a,xs,rfl,hx,q⟩:=q3;obtain ⟨tk,rfl⟩:∃ tk,vs=.int (-1) tk:=by cases pu; exact ⟨_,rfl⟩
 cases r1;have I4:Inv X pins σ H3 { s3 with heap:=s3.heap.push { cls:=.type "slice",data:=.fields #[.none,.none,.int (-1) tk] } }:=I3.kept (t':=s3.toks) λ b ob q=>Heap.get?_push_of_some _ q;obtain ⟨its,r,ht,hz⟩:=I4.tuple hx
 show wpAny (model X.prog X.w) X.A (subscriptTail e (.Slice none none (some st) p2) (.ref a) (.ref s3.heap.objs.size)) (EP X pins σ Q) X.xe { s3 with heap:=s3.heap.push { cls:=.type "slice",data:=.fields #[.none,.none,.int (-1) tk] } }
 refine tail_any (ops:=[.ref a,.ref s3.heap.objs.size]) ht.typeIs jK.lookup (HT.getItem_tuple_rev ht (Heap.IsSliceOf.new ..) ?_ (by rw [<- r.length]; exact hz)) (by with_unfolding_all rfl);refine ⟨.ref _,_,I4.laid (t':=s3.toks) (o:=.tup xs.reverse) (λ b ob q=>Heap.get?_push_of_some _ q) (aH _) ?_,rfl,q _ (I4.hok.fresh (aH _))⟩;exact ⟨by rw [jJ]; exact hz,_,r.reverse,IsTup.new _ _⟩
end
section
variable {X:Cx}
theorem a6X:∀ {ns:List Int} {its:List Value},Vals (ns.map V.int) its->IntsAre its ns
 | [],_,h=>by cases h; exact .nil
 | n::ns,_,h=>by
  cases h with
  | cons r t =>
   obtain ⟨k,rfl⟩:=r;exact .cons n k (a6X t)
theorem a7H:∀ {ns:List Int} {its:List Value},IntsAre its ns->Vals (ns.map V.int) its
 | _,_,.nil=>.nil
 | _,_,.cons n t h=>.cons ⟨t,rfl⟩ (a7H h)
def b6N (K:W.Frag):List V->Hp->VK->Prop:=λ vs H Q=>∃ (p:Addr) (ns:List Int),vs=[.ref p]/\SqL K H p (ns.map V.int)/\ns.length<64/\∀ (l:Addr) (ns':List Int),H l=none->ns'.Perm ns->ns'.Pairwise (·<=·)->Q (.ref l) (upd H l (.lst (ns'.map V.int)))
theorem a1S:O8 X (.builtin "sorted") (b6N X.K):=by
 intro pins s σ H vs us Q I r h;obtain ⟨p,ns,rfl,hq,hl,q⟩:=h;obtain ⟨u,rfl,ru⟩:=R9 r
 cases ru;obtain ⟨its,rv,pp,_⟩:=I.list hq;have li:its.length=ns.length:=by have:=rv.length; simpa using this.symm
 refine sorted_ints pp.isList (a6X rv) (by omega) λ out ns' hi hp hs=>?_;obtain ⟨e,he⟩:=sortedAll_at s.heap its out;have lo:ns'.length<=sizeLine:=aZ (by rw [hp.length_eq]; exact dX hl) (by decide:64<=sizeLine);refine ⟨.ref (s.heap.objs.size+1),_,I.laid (o:=.lst (ns'.map V.int)) (t':=s.toks) (λ b u e=>sortedAll_old e) (fK _) ⟨by simpa using lo,out.toList,e,a7H hi,by simpa using he⟩,rfl,q _ ns' (I.hok.fresh (fK _)) hp hs⟩
end
end L2
namespace Rim
open PySem L2 Fr
def dJ:Option Q2->PyData
 | none=>.none
 | some x=>dF x
theorem JV.dp {K:W.Frag} {H:Hp} {v:V} {o:Option Q2} (h:JV H v o):Dp K H v (dJ o):=by
 cases o with
 | none=>have h':v=.non:=h; subst h'; exact .non
 | some x=>exact FrV.dp (FrT.v h)
abbrev JL (H:Hp):List V->List (Option Q2)->Prop:=cS (JV H)
theorem JL.same {H H':Hp} {ys:List V} {js:List (Option Q2)} (e:Same H H') (h:JL H ys js):JL H' ys js:=Paired.imp' (λ _ _ r=>JV.same e r) h
theorem b5j (o:Option Q2):(dJ o).canLay0=true:=by
 cases o with
 | none=>show PyData.none.canLay0=true; rw [PyData.canLay0]
 | some x=>exact K3 x
end Rim
namespace L2
open PySem PySem.Spec PyProof.Rows
theorem b5A (K:W.Frag) {X:Cx} {T id:String} {name:Str} {r:V->List V->Hp->VK->Prop} {o e:Expr} {es:List Expr} {to:TE} {t:TA} {apos cpos:Pos} (hK:X.K=K) (pa:PlainAttrs T) (slot:Slot T name id) (hty:typeOf (.builtin id)=pure (.type "method_descriptor")) (hm:MtR X id r) (ho:PE X o to) (ha:PA X (e::es) t)
    (hbase:attributeBase o name X.env (eval o X.env)=eval o X.env:=by rfl)
    (hfew:((backTo cpos (starEach (e::es) X.env)).all (λ x=>!x.1)&&(backToKw cpos (keywordEach [] X.env)).all (λ x=>x.1.isSome)
     &&decide ((e::es).length+([]:List Keyword).length+(if ([]:List Keyword).isEmpty then 0 else 1)<30))=true:=by rfl)
    (hline:(apos.endLine==cpos.line)=true:=by rfl) (hs:starEach (e::es) X.env=(false,eval e X.env)::starEach es X.env:=by rfl) (hplain:(backTo cpos (starEach es X.env)).any (·.1)=false:=by rfl) :
    PE X (.Call (.Attribute o name apos) (e::es) [] cpos) (tBM K T r to t):=by
  subst hK;exact a3e pa slot hty hm ho ha hbase hfew hline hs hplain
end L2
namespace Rim
open PySem L2 Fr
theorem b2s {m:Int} {l:Nat} (h:1<=l):∃ k:Nat,m % (l:Int)=(k:Int)/\k<l:=by
 have h1:=eG m (show (l:Int)≠0 by omega);have h2:=cU m (show (0:Int)<(l:Int) by omega);exact ⟨(m % (l:Int)).toNat,by omega,by omega⟩
theorem b6W {ds:List Int} {j:Nat} (h:j<ds.length):atI (ds.map V.int) (j:Int)=some (.int (ds.getD j 0)):=w6 (by rw [aE,aG,aF h]; rfl)
theorem a8u (l:List Nat) (k:Nat):(y4 l).eraseIdx k=y4 (l.eraseIdx k):=by
 induction l generalizing k with
 | nil=>rfl
 | cons a l ih =>
  cases k with
  | zero=>rfl
  | succ k =>
   show V.int (a:Int)::(y4 l).eraseIdx k=V.int (a:Int)::y4 (l.eraseIdx k)
   rw [ih]
theorem a3f {α:Type}:∀ {l:List α} {k:Nat} (h:k<l.length),(l[k]::l.eraseIdx k).Perm l
 | a::l,0,_=>.refl _
 | a::l,k+1,h=>by
  have:=a3f (l:=l) (k:=k) (by simpa using h);rw [List.getElem_cons_succ,List.eraseIdx_cons_succ];exact (nB a _ _).trans (this.cons a)
section
variable {P:Program} {w:World} {K:W.Frag} {mg:Str->Option Value} {base:Heap} {f Pt CN:Addr} {fd:FuncData} {n:Nat}
def a7G (K:W.Frag):Sp:=λ vs H Q _=>∃ (m:Nat) (pl:Addr) (ds:List Int),vs=[.int (m:Int),.ref pl]/\SqL K H pl (ds.map V.int)/\m<=ds.length/\m<=16 ∧
 ∀ (r:Addr) (H':Hp) (ord:List Nat),Same H H'->H' r=some (.lst (y4 ord))->ord.Perm (aD m)->Q (.ref r) H'
theorem scOd:m6 ["many","picks","left"] ["many","picks"] (i5 S4):=⟨rfl,rfl,rfl,by decide +kernel,rfl,by decide +kernel,by decide +kernel⟩
theorem b6M:(["pick","left"]:List Str).Nodup:=by decide +kernel
theorem b0b (F:Fun K "_law_a_order" "_law_a_order" S4 f fd) (T:w8 mg):FnOk P w K mg base E4 (n+1) f fd ["many","picks"] (a7G K):=by
 refine F.ok scOd (λ vs H Q E h=>?_) (λ cdv A outer s H vs Q E hr h=>?_)
 ·obtain ⟨m,pl,ds,rfl,_⟩:=h
  rfl
 obtain ⟨m,pl,ds,rfl,hS,hm,h16,q⟩:=h;refine ⟨_,i6 (j4 (i:=2) scOd.nd rfl (cC rfl) (t9 (Q0 rfl) rfl T.list dI (c5 (t9 a1Q rfl T.range hV (c5 (pv 0) c6)) c6)))
  (i8 (r6 (O3 ["pick"] [2] rfl (w4 (I0 P5 (pv 1) W5 (D4 (pv 0)))) (λ _ _ _ _=>i7 (i:=0) b6M rfl (aC rfl)) (λ _ _ _ _=>b5A K rfl fE PySem.F.slot_list_pop PySem.F.type_list_pop a9k (pv 1) (c5 (j0 A4 (pv 0) (j9 (b3d K rfl) rfl T.len bR (c5 (pv 1) c6))) c6))))),?_⟩
 have small:=j8 (show (1000:Nat)<=1000 from aH _);refine ⟨_,rfl,_,rfl,λ rp hrp=>?_⟩;have t1:=Same.new hrp (.rng 0 (m:Int));refine ⟨rp,0,m,rfl,by rw [fC]; exact upd_same,by decide,by decide,by omega,λ la hla=>?_⟩;rw [a2W];have t2:=Same.new hla (.lst (y4 (aD m)));have e12:=t1.trans t2;refine ⟨_,rfl,_,rfl,_,rfl,pl,_,rfl,e12.seq hS,λ sl hsl=>?_⟩;rw [a3r (ds.map V.int) m (by rw [aA]; exact hm)];have t3:=Same.new hsl (.lst ((ds.map V.int).take m));refine ⟨sl,rfl,⟨_,SqL.of upd_same⟩,λ p hp=>?_⟩;have gla:=t3 _ _ (upd_same (H:=upd H rp (.rng 0 (m:Int))) (a:=la) (o:=.lst (y4 (aD m))));have gsl:=upd_same (H:=upd (upd H rp (.rng 0 (m:Int))) la (.lst (y4 (aD m)))) (a:=sl) (o:=.lst ((ds.map V.int).take m));have la0:H la=none:=t1.free hla;have e13:=e12.trans t3;have nls:sl≠la:=aY (i4 upd_same hsl);generalize upd (upd (upd H rp (.rng 0 (m:Int))) la (.lst (y4 (aD m)))) sl (.lst ((ds.map V.int).take m))=H1 at *;have nlp:la≠p:=i4 gla hp;have nsp:sl≠p:=i4 gsl hp;have tl:((ds.map V.int).take m).length=m:=by rw [bU,aA]; omega
 refine ⟨λ i mm ys H'=>mm=m - i/\i<=m/\∃ tk left:List Nat,ys=y4 tk/\tk.length=i/\(tk++left).Perm (aD m)/\H' p=some (.lst ys)/\H' la=some (.lst (y4 left))/\∀ b o,b≠la->b≠p->H1 b=some o->H' b=some o,
  ⟨m,rfl,cB _,[],aD m,rfl,rfl,.refl _,upd_same,by rw [i3 nlp]; exact gla,λ b o _ hb h=>by rw [i3 hb]; exact h⟩,?_⟩
 rintro i mm ys H2 ⟨rfl,hi,tk,left,rfl,ltk,pm,hp2,hl2,kp⟩;have hsl2:H2 sl=some (.lst ((ds.map V.int).take m)):=kp _ _ nls nsp gsl;have IT:=u9 (K:=K) (SqL.of hsl2)
 by_cases hlt:i<m
 ·refine .inr ⟨IT.go i _ (Same.refl _) (by rw [tl]; exact hlt),λ x H' y=>?_⟩
  obtain ⟨rfl,hx⟩:=IT.yld i _ x H' (Same.refl _) (by rw [tl]; exact hlt) y;rw [gF hlt,aE] at hx;obtain ⟨d,hd,rfl⟩:=iD.mp hx;have ll:left.length=m - i:=by
   have:=pm.length_eq;rw [aO,cQ] at this;omega
  obtain ⟨k,ek,hk⟩:=b2s (m:=d) (l:=(y4 left).length) (by rw [aA]; omega);have kl:k<left.length:=by rw [aA] at hk; exact hk
  have ix:seqIndex? (k:Int) (y4 left).length=some k:=(a4k (a1L (n:=(y4 left).length) (i:=k) hk)).1;refine ⟨Wk.set (by decide),_,rfl,.inl ⟨rfl,_,SqL.of hl2⟩,_,rfl,_,rfl,la,_,rfl,.inl (SqL.of hl2),_,_,rfl,rfl,(by show (0:Int)<((y4 left).length:Int); omega),?_⟩;refine ⟨la,_,d % ((y4 left).length:Int),k,_,rfl,rfl,hl2,by rw [ek]; omega,by rw [ek]; omega,by rw [ek]; exact ix,a2t kl,?_⟩;rw [a8u];have eg:left.getD k 0=left[k]:=by rw [aG,aF kl]; rfl
  rw [eg];refine ⟨by rw [i3 (aY nlp)]; exact hp2,by rw [aA]; omega,m - (i+1),by omega,rfl,hlt,tk++[left[k]],left.eraseIdx k,by rw [show y4 (tk++[left[k]])=y4 tk++y4 [left[k]] from bC]; rfl,by rw [aO,ltk]; rfl,?_,upd_same,by rw [i3 nlp,upd_same],λ b o h1 h2 h=>by rw [i3 h2,i3 h1]; exact kp _ _ h1 h2 h⟩;refine nD ?_ pm;rw [cX];exact (a3f kl).append_left tk
 ·have:i=m:=by omega
  subst this;refine .inl ⟨by have:=IT.stop _ (Same.refl _); rw [tl] at this; exact this,?_⟩;have l0:left=[]:=by
   have:=pm.length_eq;rw [aO,cQ] at this;exact fF (by omega)
  subst l0;rw [iG] at pm;refine q p H2 tk (λ b o h=>?_) hp2 pm;have n1:b≠la:=i4 h la0;have h1:=e13 _ _ h;exact kp _ _ n1 (i4 h1 hp) h1
def b0s (K:W.Frag) (Pt:Addr):Sp:=λ vs H Q _=>∃ (bl ol:Addr) (xs ys:List V) (hs:List c7) (ord:List Nat) (k i:Nat) (z:Str) (far:Int) (kt kg:Nat),vs=[.ref bl,.int (k:Int),.ref ol,.int (i:Int),.str z]/\Q9 z/\BookIn K H bl xs hs far kt kg/\BookIn K H ol ys (A9 hs ord) far kt kg/\1<=kt/\ord.Perm (aD hs.length)/\ord[i]?=some k/\LT Pt H ∧
 ∀ H',Same1 Pt H H'->LT Pt H'->Q (.bl true) H'
theorem b3g:m6 ["book","number","other","at","sizes"] ["book","number","other","at","sizes"] (i5 B8):=⟨rfl,rfl,rfl,by decide +kernel,rfl,by decide +kernel,by decide +kernel⟩
noncomputable def b6b {cdv:Value} {A:Around} {outer:List Env} {s:Shared} {H:Hp} {E:XK} {f1 f2 f3:Addr} {d1 d2 d3:FuncData} (Cs:X6 P w K mg base n "share" ["book","number","sizes"] (a1a K CN Pt) f1 d1) (Cg:X6 P w K mg base n "growth" ["book","number","sizes"] (a0S K CN Pt) f2 d2) (Co:X6 P w K mg base n "share_of_others" ["book","number","sizes"] (a3C K CN Pt) f3 d3)
  (hr:Room n (A.deeper (dB "_law_one_right" (i5 B8) s.heap.objs.size f cdv))) :
  { t:TS // PSs (M0 E4 P w K mg base ["book","number","other","at","sizes"] "_law_one_right" (i5 B8) f cdv A outer s H E).nox (v5 B8) t } :=
 ⟨_,m8 (A7 (m9 (a0P hr) (i9 (a1w Cs.ok) hr rfl Cs.m Cs.k Cs.b .nil Q8 (c5 (pv 2) (c5 (pv 3) (c5 (pv 4) c6)))) (i9 (a1w Cs.ok) hr rfl Cs.m Cs.k Cs.b .nil Q8 (c5 (pv 0) (c5 (pv 1) (c5 (pv 4) c6)))) (p7 _)) O4 t7)
  (m8 (A7 (m9 (a0P hr) (i9 (a3k Cg.ok) hr rfl Cg.m Cg.k Cg.b .nil Q8 (c5 (pv 2) (c5 (pv 3) (c5 (pv 4) c6)))) (i9 (a3k Cg.ok) hr rfl Cg.m Cg.k Cg.b .nil Q8 (c5 (pv 0) (c5 (pv 1) (c5 (pv 4) c6)))) (p7 _)) O4 t7)
  (i8 (r6 (R5 (a2H hr) (i9 Co.ok hr rfl Co.m Co.k Co.b .nil Q8 (c5 (pv 2) (c5 (pv 3) (c5 (pv 4) c6)))) (i9 Co.ok hr rfl Co.m Co.k Co.b .nil Q8 (c5 (pv 0) (c5 (pv 1) (c5 (pv 4) c6)))) (p7 _)))))⟩
theorem b1H {f1 f2 f3:Addr} {d1 d2 d3:FuncData} (F:Fun K "_law_one_right" "_law_one_right" B8 f fd) (Cs:X6 P w K mg base n "share" ["book","number","sizes"] (a1a K CN Pt) f1 d1) (Cg:X6 P w K mg base n "growth" ["book","number","sizes"] (a0S K CN Pt) f2 d2) (Co:X6 P w K mg base n "share_of_others" ["book","number","sizes"] (a3C K CN Pt) f3 d3) :
  FnOk P w K mg base E4 (n+1) f fd ["book","number","other","at","sizes"] (b0s K Pt):=by
 refine F.ok b3g (λ vs H Q E h=>?_) (λ cdv A outer s H vs Q E hr h=>?_)
 ·obtain ⟨bl,ol,xs,ys,hs,ord,k,i,z,far,kt,kg,rfl,_⟩:=h
  rfl
 obtain ⟨bl,ol,xs,ys,hs,ord,k,i,z,far,kt,kg,rfl,hz,B,O,kt1,hp,hk,L,q⟩:=h;refine ⟨_,(b6b Cs Cg Co hr).2,?_⟩;have xl:xs.length=hs.length:=Paired.length B.b;have yl:ys.length=ord.length:=by rw [Paired.length O.b,aA]
 have hil:=(aU.mp hk).1;have ol':ord.length=hs.length:=by rw [hp.length_eq,cQ]
 have hkl:=(a0K hp).mp (aJ hk);obtain ⟨h,hh⟩:∃ h,hs[k]?=some h:=⟨_,aF hkl⟩;have hho:=S6 hk hh;have S:=a1k hp;have gh:=B.g h (aJ hh);have few:=B.few;have bin:∀ {H':Hp},Same1 Pt H H'->BookIn K H' bl xs hs far kt kg:=λ e=>⟨SqL.same1 L e B.l,Bk.same1 L e B.b,B.g,B.far,B.few,B.t,B.k⟩;have bino:∀ {H':Hp},Same1 Pt H H'->BookIn K H' ol ys (A9 hs ord) far kt kg:=λ e=>⟨SqL.same1 L e O.l,Bk.same1 L e O.b,O.g,O.far,O.few,O.t,O.k⟩;have gd:a0O xs.length (k:Int):=⟨by omega,by omega⟩;have gdo:a0O ys.length (i:Int):=⟨by omega,by omega⟩;refine ⟨λ σ' H'=>σ'=[some (.ref bl),some (.int (k:Int)),some (.ref ol),some (.int (i:Int)),some (.str z)]/\Same1 Pt H H'/\LT Pt H',?_,?_⟩
 ·refine ⟨_,rfl,_,rfl,_,rfl,ol,ys,_,(i:Int),z,far,kt,kg,rfl,hz,O,kt1,K1 (by omega),L,λ i1 h1 A1 B1 H1 u1 hi1 hh1 X1 e1 L1 hu1=>?_,λ bad=>absurd gdo bad⟩
  have:i1=i:=by omega
  subst this;rw [hho] at hh1; cases hh1;refine ⟨_,rfl,_,rfl,_,rfl,bl,xs,hs,(k:Int),z,far,kt,kg,rfl,hz,bin e1,kt1,K1 (by omega),L1,λ k1 h1 A2 B2 H2 u2 hi2 hh2 X2 e2 L2 hu2=>?_,λ bad=>absurd gd bad⟩;have:k1=k:=by omega
  subst this;rw [hh] at hh2; cases hh2;have eq:=Z8 hz S X2 X1 B.g gh;refine ⟨dF (low A1 B1),dF (low A2 B2),FrV.dp (hu1.to1 L1 e2).v,FrV.dp hu2.v,K3 _,K3 _,aZ (dU _ _) (a2J _),_,rfl,?_⟩;rw [eq,K6 _ (K3 _)];exact a0s ⟨rfl,e1.trans e2,L2⟩
 rintro _ H3 ⟨rfl,e3,L3⟩;refine ⟨λ σ' H'=>σ'=[some (.ref bl),some (.int (k:Int)),some (.ref ol),some (.int (i:Int)),some (.str z)]/\Same1 Pt H H'/\LT Pt H',?_,?_⟩
 ·refine ⟨_,rfl,_,rfl,_,rfl,ol,ys,_,(i:Int),z,far,kt,kg,rfl,hz,bino e3,kt1,K1 (by omega),L3,λ i1 h1 A1 B1 H1 u1 hi1 hh1 X1 e1 L1 hu1=>?_,λ bad=>absurd gdo bad⟩
  have:i1=i:=by omega
  subst this;rw [hho] at hh1; cases hh1;refine ⟨_,rfl,_,rfl,_,rfl,bl,xs,hs,(k:Int),z,far,kt,kg,rfl,hz,bin (e3.trans e1),kt1,K1 (by omega),L1,λ k1 h1 A2 B2 H2 u2 hi2 hh2 X2 e2 L2 hu2=>?_,λ bad=>absurd gd bad⟩;have:k1=k:=by omega
  subst this;rw [hh] at hh2; cases hh2;have eq:=a6d hz S X2 X1 B.g gh;refine ⟨dF (low A1 B1),dF (low A2 B2),FrV.dp (hu1.to1 L1 e2).v,FrV.dp hu2.v,K3 _,K3 _,aZ (dU _ _) (a2J _),_,rfl,?_⟩;rw [eq,K6 _ (K3 _)];exact a0s ⟨rfl,e3.trans (e1.trans e2),L2⟩
 rintro _ H4 ⟨rfl,e4,L4⟩;have SL:=a9d hp hk;have hGo:∀ g∈Z2 hs k,HG far kt kg g:=λ g hg=>B.g g (a5C hg);have hko:∀ g∈Z2 hs k,g.1.length=kt/\g.2.length=kg:=λ g hg=>⟨(hGo g hg).lt,(hGo g hg).lg⟩;refine ⟨_,rfl,_,rfl,_,rfl,ol,ys,_,(i:Int),z,far,kt,kg,rfl,hz,bino e4,kt1,K1 (by omega),L4,λ i1 h1 A1 B1 H1 u1 hi1 hh1 X1 e1 L1 hu1=>?_,λ i1 h1 H1 hi1 hh1 N1 e1 L1=>?_,λ bad=>absurd gdo bad⟩
 ·have:i1=i:=by omega
  subst this;rw [hho] at hh1; cases hh1;refine ⟨_,rfl,_,rfl,_,rfl,bl,xs,hs,(k:Int),z,far,kt,kg,rfl,hz,bin (e4.trans e1),kt1,K1 (by omega),L1,λ k1 h1 A2 B2 H2 u2 hi2 hh2 X2 e2 L2 hu2=>?_,λ k1 h1 H2 hi2 hh2 N2 e2 L2=>?_,λ bad=>absurd gd bad⟩
  ·have:k1=k:=by omega
   subst this;rw [hh] at hh2; cases hh2;have eq:=Z8 hz SL X2 X1 hGo gh;refine ⟨dF (low A1 B1),dF (low A2 B2),FrV.dp (hu1.to1 L1 e2).v,FrV.dp hu2.v,K3 _,K3 _,aZ (dU _ _) (a2J _),?_⟩;rw [eq,K6 _ (K3 _)];exact q _ (e4.trans (e1.trans e2)) L2
  ·have:k1=k:=by omega
   subst this;rw [hh] at hh2; cases hh2;exact (N2.notShare hz hko gh (X1.s.same SL.2 SL.1)).elim
 ·have:i1=i:=by omega
  subst this;rw [hho] at hh1; cases hh1;refine ⟨_,rfl,_,rfl,_,rfl,bl,xs,hs,(k:Int),z,far,kt,kg,rfl,hz,bin (e4.trans e1),kt1,K1 (by omega),L1,λ k1 h1 A2 B2 H2 u2 hi2 hh2 X2 e2 L2 hu2=>?_,λ k1 h1 H2 hi2 hh2 N2 e2 L2=>?_,λ bad=>absurd gd bad⟩
  ·have:k1=k:=by omega
   subst this;rw [hh] at hh2; cases hh2;exact ((N1.sameB ⟨SL.2,SL.1⟩).notShare hz hko gh X2.s).elim
  ·refine ⟨.none,.none,.non,.non,rfl,rfl,by decide,?_⟩
   rw [K6 _ rfl];exact q _ (e4.trans (e1.trans e2)) L2
end
section
variable {P:Program} {w:World} {K:W.Frag} {mg:Str->Option Value} {base:Heap} {f Pt CN:Addr} {fd:FuncData} {n:Nat}
theorem BookIn.to1 {H H':Hp} {ba:Addr} {xs:List V} {hs:List c7} {far:Int} {kt kg:Nat} (L:LT Pt H) (e:Same1 Pt H H') (B:BookIn K H ba xs hs far kt kg):BookIn K H' ba xs hs far kt kg:=⟨SqL.same1 L e B.l,Bk.same1 L e B.b,B.g,B.far,B.few,B.t,B.k⟩
theorem b0p {f1 f2 f3 f4 f5:Addr} {d1 d2 d3 d4 d5:FuncData} (F:Fun K "moved" "moved" a0k f fd) (T:w8 mg) (Cl:D3 P w K mg base n "are_like_counts" ["house","other"] (a6Q K) f1 d1) (Ch:X6 P w K mg base n "house_of" ["book","number"] (a1o K CN) f2 d2) (Ce:D3 P w K mg base n "held_against" ["houses","house","sizes"] (a0I K Pt) f3 d3)
  (Cd:D3 P w K mg base n "divided" ["one","other"] (a1u K qd) f4 d4) (Cm:D3 P w K mg base n "multiplied" ["one","other"] (a1u K qm) f5 d5):FnOk P w K mg base (CX1 P w) (n+1) f fd ["before","after","number","sizes"] (a2o K Pt):=by
 refine F.ok1 scMv (λ vs H Q E h=>?_) (λ cdv A outer s H vs Q E hr h=>?_)
 ·obtain ⟨b1,b2,xs1,xs2,hs1,hs2,i,h1,h2,z,far,kt,kg,rfl,_⟩:=h
  rfl
 obtain ⟨b1,b2,xs1,xs2,hs1,hs2,i,h1,h2,z,far,kt,kg,rfl,hz,B1,B2,hh1,hh2,kt1,L,kG,kN⟩:=h;refine ⟨_,(mvT T Cl Ch Ce Cd Cm hr).2,?_⟩;have l1:xs1.length=hs1.length:=Paired.length B1.b;have l2:xs2.length=hs2.length:=Paired.length B2.b;have i1:=(aU.mp hh1).1;have i2:=(aU.mp hh2).1;have f1':=B1.few;have f2':=B2.few;have g1:=B1.g h1 (aJ hh1);have g2:=B2.g h2 (aJ hh2);have m1:=aJ hh1;have m2:=aJ hh2;obtain ⟨u0,hu0⟩:∃ u,xs1[0]?=some u:=⟨_,aF (by omega)⟩;obtain ⟨v0,hv0⟩:∃ u,xs2[0]?=some u:=⟨_,aF (by omega)⟩;obtain ⟨k0,hk0,HS0⟩:=Paired.at B1.b hu0;obtain ⟨k1,hk1,HS1⟩:=Paired.at B2.b hv0;have gk0:=B1.g k0 (aJ hk0);have gk1:=B2.g k1 (aJ hk1);obtain ⟨v1,hx1⟩:∃ u,xs1[i]?=some u:=⟨_,aF (by omega)⟩;obtain ⟨v2,hx2⟩:∃ u,xs2[i]?=some u:=⟨_,aF (by omega)⟩;have hs1':∀ {H':Hp},Same1 Pt H H'->HS K H' v1 h1:=λ e=>by
  obtain ⟨h',hh',r⟩:=Paired.at (Bk.same1 L e B1.b) hx1;rw [hh1] at hh'; cases hh'; exact r
 have hs2':∀ {H':Hp},Same1 Pt H H'->HS K H' v2 h2:=λ e=>by
  obtain ⟨h',hh',r⟩:=Paired.at (Bk.same1 L e B2.b) hx2;rw [hh2] at hh'; cases hh'; exact r
 refine ⟨_,rfl,b1,_,_,_,rfl,rfl,B1.l,w6 (j:=0) hu0,_,rfl,b2,_,_,_,rfl,rfl,B2.l,w6 (j:=0) hv0,u0,v0,k0,k1,rfl,HS0,HS1,_,rfl,?_⟩;rw [decide_eq_true (show k0.1.length=k1.1.length/\k0.2.length=k1.2.length from ⟨gk0.lt.trans gk1.lt.symm,gk0.lg.trans gk1.lg.symm⟩)];refine a0s ?_;refine ⟨_,rfl,_,rfl,b1,xs1,(i:Int),rfl,B1.l,K1 (by omega),λ i' hv hi' hx=>?_,λ bad=>absurd ⟨by omega,by omega⟩ bad⟩;have:i'=i:=by omega
 subst this;rw [hx1] at hx; cases hx;refine ⟨_,rfl,_,rfl,b2,xs2,(i':Int),rfl,B2.l,K1 (by omega),λ i2' hv hi2' hx=>?_,λ bad=>absurd ⟨by omega,by omega⟩ bad⟩;have:i2'=i':=by omega
 subst this;rw [hx2] at hx; cases hx;refine ⟨λ σ' H'=>∃ u x,σ'=[some (.ref b1),some (.ref b2),some (.int (i2':Int)),some (.str z),some v1,some v2,some u,none,none,none,none]/\Same1 Pt H H'/\LT Pt H'/\ShB z hs1 h1 kt kg x/\FrT H' u x,?_,?_⟩
 ·exact ⟨_,rfl,_,rfl,_,rfl,b1,v1,xs1,hs1,h1,z,far,kt,kg,rfl,hz,B1,kt1,hs1' Same1.refl,g1,L,λ x H' u X e L' hu=>⟨u,x,rfl,e,L',X,hu⟩,λ H' N _ _=>(N.notIn hz B1.g m1).elim⟩
 intro σ3 H3 hM_; refine P0 λ G_ hG_=>?_; obtain ⟨u1,x1,rfl,e3,L3,X1,hu1⟩:=hM_; subst hG_;refine ⟨λ σ' H'=>∃ u x,σ'=[some (.ref b1),some (.ref b2),some (.int (i2':Int)),some (.str z),some v1,some v2,some u1,some u,none,none,none]/\Same1 Pt H3 H'/\LT Pt H'/\ShB z hs2 h2 kt kg x/\FrT H' u x,?_,?_⟩
 ·exact ⟨_,rfl,_,rfl,_,rfl,b2,v2,xs2,hs2,h2,z,far,kt,kg,rfl,hz,B2.to1 L e3,kt1,hs2' e3,g2,L3,λ x H' u X e L' hu=>⟨u,x,rfl,e,L',X,hu⟩,λ H' N _ _=>(N.notIn hz B2.g m2).elim⟩
 intro σ4 H4 hM_; refine P0 λ G_ hG_=>?_; obtain ⟨u2,x2,rfl,e4,L4,X2,hu2⟩:=hM_; subst hG_;have e04:=e3.trans e4;have hu1':=hu1.to1 L3 e4;refine ⟨_,rfl,_,rfl,u2,u1,x2,x1,rfl,hu2.v,hu1'.v,X2.b.mono (by decide),X1.b.mono (by decide),λ c H5 e5 hc=>?_⟩;have e05:=e04.trans e5.to1;have L5:=L4.same e5;have fr:∀ {u:V} {x:Q2} {H':Hp},FrT H4 u x->Same1 Pt H5 H'->FrT H' u x:=λ h e=>(h.same e5).to1 L5 e;have gkt:∀ {h:c7},HG far kt kg h->h.1.length=kt/\h.2.length=kg:=λ g=>⟨g.lt,g.lg⟩;refine ⟨λ σ' H'=>∃ v,σ'=[some (.ref b1),some (.ref b2),some (.int (i2':Int)),some (.str z),some v1,some v2,some u1,some u2,some c,some v,none]/\Same1 Pt H5 H'/\LT Pt H'/\((∃ x,ShB z hs1 h2 kt kg x/\FrT H' v x)\/(v=.non/\IsNone z hs1 h2 kt kg)),?_,?_⟩
 ·exact ⟨_,rfl,_,rfl,_,rfl,b1,v2,xs1,hs1,h2,z,far,kt,kg,rfl,hz,B1.to1 L e05,kt1,hs2' e05,g2,L5,λ x H' u X e L' hu=>⟨u,rfl,e,L',.inl ⟨x,X,hu⟩⟩,λ H' N e L'=>⟨_,rfl,e,L',.inr ⟨rfl,N⟩⟩⟩
 intro σ6 H6 hM_; refine P0 λ G_ hG_=>?_; obtain ⟨w1,rfl,e6,L6,O1⟩:=hM_; subst hG_;have e06:=e05.trans e6;refine ⟨λ σ' H'=>∃ v,σ'=[some (.ref b1),some (.ref b2),some (.int (i2':Int)),some (.str z),some v1,some v2,some u1,some u2,some c,some w1,some v]/\Same1 Pt H6 H'/\LT Pt H'/\((∃ x,ShB z hs2 h1 kt kg x/\FrT H' v x)\/(v=.non/\IsNone z hs2 h1 kt kg)),?_,?_⟩
 ·exact ⟨_,rfl,_,rfl,_,rfl,b2,v1,xs2,hs2,h1,z,far,kt,kg,rfl,hz,B2.to1 L e06,kt1,hs1' e06,g1,L6,λ x H' u X e L' hu=>⟨u,rfl,e,L',.inl ⟨x,X,hu⟩⟩,λ H' N e L'=>⟨_,rfl,e,L',.inr ⟨rfl,N⟩⟩⟩
 intro σ7 H7 hM_; refine P0 λ G_ hG_=>?_; obtain ⟨w2,rfl,e7,L7,O2⟩:=hM_; subst hG_;have e57:=e6.trans e7;have e07:=e06.trans e7;have hc7:FrT H7 c (qd x2 x1):=hc.to1 L5 e57;have none_end:(IsNone z hs1 h2 kt kg\/IsNone z hs2 h1 kt kg)->∀ t,H7 t=none->Q (.ref t) (upd H7 t (.tup [c,.non])):=λ N t ht=>by
  have t8:=Same.new ht (.tup [c,.non]);exact kN x1 x2 _ t c X1 X2 N (e07.trans t8.to1) (L7.same t8) upd_same (hc7.same t8)
 rcases O1 with ⟨y1,Y1,hw1⟩ | ⟨rfl,N1⟩
 ·obtain ⟨wa,rfl,hwa⟩:=id hw1
  refine ⟨_,rfl,rfl,_,rfl,a0s ?_⟩;rcases O2 with ⟨y2,Y2,hw2⟩ | ⟨rfl,N2⟩
  ·obtain ⟨wb,rfl,hwb⟩:=id hw2
   refine ⟨_,rfl,rfl,_,rfl,a0s ?_⟩;refine ⟨_,rfl,_,rfl,_,rfl,.ref wa,u2,y1,x2,rfl,(hw1.to1 L6 e7).v,(fr hu2 e57).v,Y1.b.mono (by decide),X2.b.mono (by decide),λ r1 H8 e8 hr1=>?_⟩;refine ⟨_,rfl,_,rfl,u1,.ref wb,x1,y2,rfl,((fr hu1' e57).same e8).v,(hw2.same e8).v,X1.b.mono (by decide),Y2.b.mono (by decide),λ r2 H9 e9 hr2=>?_⟩;refine ⟨r1,r2,qd y1 x2,qd x1 y2,rfl,(hr1.same e9).v,hr2.v,(Y1.b.div X2.b).mono (by decide),(X1.b.div Y2.b).mono (by decide),λ r H10 e10 hr=>?_⟩;refine ⟨(by show 2<=sizeLine; decide),λ t ht=>?_⟩;have t11:=Same.new ht (.tup [c,r]);have e811:=e8.trans (e9.trans (e10.trans t11));exact kG x1 x2 y1 y2 _ t c r X1 X2 Y1 Y2 (e07.trans e811.to1) (L7.same e811) upd_same (hc7.same e811) (hr.same t11)
  ·refine ⟨_,rfl,rfl,_,rfl,a4C ?_⟩
   exact ⟨_,rfl,(by show 2<=sizeLine; decide),λ t ht=>none_end (.inr N2) t ht⟩
 ·refine ⟨_,rfl,rfl,_,rfl,a4C ?_⟩
  refine a4C ?_;exact ⟨_,rfl,(by show 2<=sizeLine; decide),λ t ht=>none_end (.inl N1) t ht⟩
end
def MvV (H:Hp) (t:Addr) (z:Str) (hs1 hs2:List c7) (h1 h2:c7) (kt kg:Nat):Prop:=∃ (c r:V) (x1 x2:Q2),H t=some (.tup [c,r])/\ShB z hs1 h1 kt kg x1/\ShB z hs2 h2 kt kg x2/\FrT H c (qd x2 x1) ∧
 ((∃ y1 y2,ShB z hs1 h2 kt kg y1/\ShB z hs2 h1 kt kg y2/\FrT H r (qm (qd y1 x2) (qd x1 y2)))\/(r=.non/\(IsNone z hs1 h2 kt kg\/IsNone z hs2 h1 kt kg)))
theorem MvV.to1 {Pt:Addr} {H H':Hp} {t:Addr} {z:Str} {hs1 hs2:List c7} {h1 h2:c7} {kt kg:Nat} (L:LT Pt H) (e:Same1 Pt H H') (m:MvV H t z hs1 hs2 h1 h2 kt kg):MvV H' t z hs1 hs2 h1 h2 kt kg:=by
 obtain ⟨c,r,x1,x2,ht,X1,X2,hc,q⟩:=m;refine ⟨c,r,x1,x2,e.get L ht nofun,X1,X2,hc.to1 L e,?_⟩;rcases q with ⟨y1,y2,Y1,Y2,hr⟩ | q
 ·exact .inl ⟨y1,y2,Y1,Y2,hr.to1 L e⟩
 ·exact .inr q
section
variable {P:Program} {w:World} {K:W.Frag} {mg:Str->Option Value} {base:Heap} {f Pt CN:Addr} {fd:FuncData} {n:Nat}
def a5M (K:W.Frag) (Pt:Addr):Sp:=λ vs H Q E=>∃ (b1 b2:Addr) (xs1 xs2:List V) (hs1 hs2:List c7) (i:Nat) (h1 h2:c7) (z:Str) (far:Int) (kt kg:Nat),vs=[.ref b1,.ref b2,.int i,.str z]/\Q9 z/\BookIn K H b1 xs1 hs1 far kt kg/\BookIn K H b2 xs2 hs2 far kt kg/\hs1[i]?=some h1/\hs2[i]?=some h2/\1<=kt/\LT Pt H ∧
 ∀ (H':Hp) (t:Addr),MvV H' t z hs1 hs2 h1 h2 kt kg->Same1 Pt H H'->LT Pt H'->Q (.ref t) H'
theorem mvV {vs:List V} {H:Hp} {Q:VK} {E:XK} (h:a5M K Pt vs H Q E):a2o K Pt vs H Q E:=by
 obtain ⟨b1,b2,xs1,xs2,hs1,hs2,i,h1,h2,z,far,kt,kg,rfl,hz,B1,B2,hh1,hh2,kt1,L,q⟩:=h;exact ⟨b1,b2,xs1,xs2,hs1,hs2,i,h1,h2,z,far,kt,kg,rfl,hz,B1,B2,hh1,hh2,kt1,L,λ x1 x2 y1 y2 H' t c r X1 X2 Y1 Y2 e L' ht hc hr=>q H' t ⟨c,r,x1,x2,ht,X1,X2,hc,.inl ⟨y1,y2,Y1,Y2,hr⟩⟩ e L',λ x1 x2 H' t c X1 X2 N e L' ht hc=>q H' t ⟨c,.non,x1,x2,ht,X1,X2,hc,.inr ⟨rfl,N⟩⟩ e L'⟩
theorem a3S (F:FnOk P w K mg base (CX1 P w) n f fd ["before","after","number","sizes"] (a2o K Pt)):FnOk P w K mg base (CX1 P w) n f fd ["before","after","number","sizes"] (a5M K Pt):=F.imp λ vs H Q E h=>mvV h
end
theorem b1x (K:W.Frag) {X:Cx} {e st:Expr} {te:TE} {ts:TO} {p2 pos:Pos} (h:X.K=K) (he:PE X e te) (hs:PO X (some st) ts):PE X (.Subscript e (.Slice none none (some st) p2) pos) (b2V K te ts):=by subst h; exact b1R he hs
section
variable {P:Program} {w:World} {K:W.Frag} {mg:Str->Option Value} {base:Heap} {f:Addr} {fd:FuncData} {n:Nat} {CN Pt:Addr}
abbrev b5B:List Str:=["script","book","picks","order","other","later","at","number","found","sizes","level","for_takes","for_gives","prices"]
theorem scLaw:m6 b5B ["script"] (i5 a2j):=⟨rfl,rfl,rfl,by decide +kernel,rfl,by decide +kernel,by decide +kernel⟩
theorem nd1:(["k","book"]:List Str).Nodup:=by decide +kernel
theorem nd2:(["takes","gives"]:List Str).Nodup:=by decide +kernel
theorem nd3:(["k","later"]:List Str).Nodup:=by decide +kernel
theorem nd4:(["k","order"]:List Str).Nodup:=by decide +kernel
theorem nd5:(["pick"]:List Str).Nodup:=by decide +kernel
theorem nd6:(["k","book","prices"]:List Str).Nodup:=by decide +kernel
structure Calls (P:Program) (w:World) (K:W.Frag) (mg:Str->Option Value) (base:Heap) (n:Nat) (CN Pt:Addr) (a1 a2 a3 a4 a5 a6 a7 a8 a9 a10 a11:Addr) (d1 d2 d3 d4 d5 d6 d7 d8 d9 d10 d11:FuncData):Prop where
 ab:Cal P w K mg base n "_law_a_book" ["script","at","most","far"] (a7p K) a1 d1
 ca:Cal P w K mg base n "_law_cell_at" ["script","k"] (a4x K) a2 d2
 dr:Cal P w K mg base n "_law_draws" ["cell","many","base"] (a2x K) a3 d3
 od:Cal P w K mg base n "_law_a_order" ["many","picks"] (a7G K) a4 d4
 al:X6 P w K mg base n "share_alone" ["book","number"] (b4j K CN) a5 d5
 sc:X6 P w K mg base n "scale" ["book","number"] (a7Z K CN Pt) a6 d6
 mv:X6 P w K mg base n "moved" ["before","after","number","sizes"] (a2o K Pt) a7 d7
 rt:Cal P w K mg base n "_law_one_right" ["book","number","other","at","sizes"] (b0s K Pt) a8 d8
 lv:D3 P w K mg base n "levels" ["book","sizes"] (a5O K Pt) a9 d9
 ju:D3 P w K mg base n "judged" ["book","prices"] (a1d K) a10 d10
 be:D3 P w K mg base n "best_at" ["book","prices"] (b0z K) a11 d11
abbrev b6B (P:Program) (w:World) (K:W.Frag) (mg:Str->Option Value) (base:Heap) (f:Addr) (cdv:Value) (A:Around) (outer:List Env) (s:Shared) (H:Hp) (E:XK):Cx:=(M0 E4 P w K mg base b5B "law" (i5 a2j) f cdv A outer s H E).nox
variable {cdv:Value} {A:Around} {outer:List Env} {s:Shared} {H:Hp} {E:XK} {a1 a2 a3 a4 a5 a6 a7 a8 a9 a10 a11:Addr} {d1 d2 d3 d4 d5 d6 d7 d8 d9 d10 d11:FuncData}
noncomputable def b6v (T:w8 mg) (C:Calls P w K mg base n CN Pt a1 a2 a3 a4 a5 a6 a7 a8 a9 a10 a11 d1 d2 d3 d4 d5 d6 d7 d8 d9 d10 d11) (hr:Room n (A.deeper (dB "law" (i5 a2j) s.heap.objs.size f cdv))):{ t:TS // PSs (b6B P w K mg base f cdv A outer s H E) (v5 a2j) t } :=
 ⟨_,i6 (j4 (i:=1) scLaw.nd rfl (cC rfl) (i9 C.ab.ok hr rfl C.ab.m C.ab.k C.ab.b .nil r8 (c5 (pv 0) (c5 d0 (c5 d0 (c5 (j0 a4B d0 d0) c6))))))
  (i6 (j4 (i:=2) scLaw.nd rfl (aC rfl) (i9 C.dr.ok hr rfl C.dr.m C.dr.k C.dr.b .nil r8 (c5 (i9 C.ca.ok hr rfl C.ca.m C.ca.k C.ca.b .nil r8 (c5 (pv 0) (c5 d0 c6))) (c5 d0 (c5 d0 c6)))))
  (i6 (j4 (i:=3) scLaw.nd rfl (cC rfl) (i9 C.od.ok hr rfl C.od.m C.od.k C.od.b .nil r8 (c5 (j9 j6 rfl T.len bR (c5 (pv 1) c6)) (c5 (pv 2) c6))))
  (m8 (X9 (i:=4) ["k"] [1] scLaw.nd rfl rfl rfl (w4 (pv 3)) (λ _ _ _ _=>i7 (i:=0) nd1 rfl (aC rfl)) (λ _ _ _ _=>j7 (U6 K rfl) (pv 1) (pv 0) (λ _ _=>rfl)))
  (m8 (j4 (i:=5) scLaw.nd rfl (cC rfl) (O3 ["takes","gives"] [] rfl (w4 (pv 1)) (λ _ _ _ _=>D9 K (n:=2) rfl rfl (j3 (i7 (i:=0) nd2 rfl (aC rfl)) (j3 (i7 (i:=1) nd2 rfl (aC rfl)) v7))) (λ _ _ _ _=>L9 (c5 (pv 0) (c5 (b1x K rfl (pv 1) (D4 (R1 K5 d0))) c6)))))
  (m8 (P3 PassesOwn.never rfl (a1f K rfl rfl T.enum (c5 (pv 3) c6)) (D9 K (n:=2) rfl rfl (j3 (i7 (i:=6) scLaw.nd rfl (aC rfl)) (j3 (i7 (i:=7) scLaw.nd rfl (aC rfl)) v7)))
   (m8 (A7 (m9 (a0P hr) (j7 A6 (i9 C.al.ok hr rfl C.al.m C.al.k C.al.b .nil Q8 (c5 (pv 4) (c5 (pv 6) c6))) d0 (λ _ _=>rfl)) (j7 A6 (i9 C.al.ok hr rfl C.al.m C.al.k C.al.b .nil Q8 (c5 (pv 1) (c5 (pv 7) c6))) d0 (λ _ _=>rfl)) (p7 _)) O4 t7)
   (m8 (A7 (m9 b2D (i9 C.sc.ok hr rfl C.sc.m C.sc.k C.sc.b .nil Q8 (c5 (pv 4) (c5 (pv 6) c6))) (i9 C.sc.ok hr rfl C.sc.m C.sc.k C.sc.b .nil Q8 (c5 (pv 1) (c5 (pv 7) c6))) (p7 _)) O4 t7)
   (m8 (j4 (i:=8) scLaw.nd rfl (aC rfl) (i9 (a3S C.mv.ok) hr rfl C.mv.m C.mv.k C.mv.b .nil Q8 (c5 (pv 4) (c5 (O3 ["k"] [5] rfl (w4 (pv 3)) (λ _ _ _ _=>i7 (i:=0) nd3 rfl (aC rfl)) (λ _ _ _ _=>j7 (U6 K rfl) (pv 1) (pv 0) (λ _ _=>rfl))) (c5 (pv 6) (c5 J1 c6))))))
   (m8 (A7 (m9 (a0P hr) (pv 8) (i9 (a3S C.mv.ok) hr rfl C.mv.m C.mv.k C.mv.b .nil Q8 (c5 (pv 1) (c5 (pv 5) (c5 (pv 7) (c5 J1 c6))))) (p7 _)) O4 t7)
   (i8 (P3 PassesOwn.never rfl (w4 (v6 (c5 J1 (c5 J1 (c5 J1 (c5 J1 c6)))))) (i7 (i:=9) scLaw.nd rfl (aC rfl))
    (i8 (A7 (a6P (a4z (i9 C.rt.ok hr rfl C.rt.m C.rt.k C.rt.b .nil r8 (c5 (pv 1) (c5 (pv 7) (c5 (pv 4) (c5 (pv 6) (c5 (pv 9) c6)))))))) O4 t7)))))))))
  (m8 (P3 PassesOwn.never rfl (w4 (v6 (c5 J1 (c5 J1 (c5 J1 (c5 J1 c6)))))) (i7 (i:=9) scLaw.nd rfl (aC rfl))
   (i6 (j4 (i:=8) scLaw.nd rfl (aC rfl) (v6 c6))
   (m8 (P3 PassesOwn.never rfl (w4 (i9 C.lv.ok hr rfl C.lv.m C.lv.k C.lv.b .nil r8 (c5 (pv 4) (c5 (pv 9) c6)))) (i7 (i:=10) scLaw.nd rfl (aC rfl))
    (i8 (U3 (a3e fE fX fY P4 (pv 8) (c5 (j9 a1S rfl T.so lQ (c5 (O3 ["k"] [3] rfl (w4 (pv 10)) (λ _ _ _ _=>i7 (i:=0) nd4 rfl (aC rfl)) (λ _ _ _ _=>j7 (U6 K rfl) (pv 1) (pv 0) (λ _ _=>rfl))) c6)) c6)))))
   (i8 (A7 (m9 (a0P hr) (pv 8) (i9 C.lv.ok hr rfl C.lv.m C.lv.k C.lv.b .nil r8 (c5 (pv 1) (c5 (pv 9) c6))) (p7 _)) O4 t7)))))
  (m8 (X9 (i:=11) ["pick"] [] scLaw.nd rfl rfl rfl (w4 (I0 P5 (pv 2) (D4 d0) (D4 (j0 C2 d0 (j9 j6 rfl T.len bR (c5 (j7 A6 (j7 j5 (pv 1) d0 (λ _ _=>rfl)) d0 (λ _ _=>rfl)) c6)))))) (λ _ _ _ _=>i7 (i:=0) nd5 rfl (aC rfl)) (λ _ _ _ _=>L9 (c5 (j0 A4 (pv 0) d0) (c5 d0 c6))))
  (m8 (X9 (i:=12) ["pick"] [] scLaw.nd rfl rfl rfl (w4 (I0 P5 (pv 2) (D4 d0) (D4 (j0 C2 d0 (j9 j6 rfl T.len bR (c5 (j7 A6 (j7 j5 (pv 1) d0 (λ _ _=>rfl)) d0 (λ _ _=>rfl)) c6)))))) (λ _ _ _ _=>i7 (i:=0) nd5 rfl (aC rfl)) (λ _ _ _ _=>L9 (c5 (j0 A4 (pv 0) d0) (c5 d0 c6))))
  (m8 (j4 (i:=13) scLaw.nd rfl (cC rfl) (L9 (c5 (pv 11) (c5 (pv 12) (c5 (L9 (c5 (j0 a2U (j0 A4 (j7 j5 (pv 2) d0 (λ _ _=>rfl)) d0) d0) (c5 d0 c6))) c6)))))
  (m8 (A7 (m9 (a0P hr) (i9 C.ju.ok hr rfl C.ju.m C.ju.k C.ju.b .nil r8 (c5 (pv 4) (c5 (pv 13) c6))) (O3 ["k"] [1,13] rfl (w4 (pv 3)) (λ _ _ _ _=>i7 (i:=0) nd6 rfl (aC rfl)) (λ _ _ _ _=>j7 (U6 K rfl) (i9 C.ju.ok hr rfl C.ju.m C.ju.k C.ju.b .nil r8 (c5 (pv 1) (c5 (pv 2) c6))) (pv 0) (λ _ _=>rfl))) (p7 _)) O4 t7)
  (i8 (r6 (R5 (a2H hr) (j9 a1S rfl T.so lQ (c5 (O3 ["k"] [3] rfl (w4 (i9 C.be.ok hr rfl C.be.m C.be.k C.be.b .nil r8 (c5 (pv 4) (c5 (pv 13) c6)))) (λ _ _ _ _=>i7 (i:=0) nd4 rfl (aC rfl)) (λ _ _ _ _=>j7 (U6 K rfl) (pv 1) (pv 0) (λ _ _=>rfl))) c6)) (i9 C.be.ok hr rfl C.be.m C.be.k C.be.b .nil r8 (c5 (pv 1) (c5 (pv 13) c6))) (p7 _))))))))))))))⟩
end
theorem b2t (x y:Q2):(PyData.tuple [dF x,dF y]).canLay0=true:=by rw [PyData.canLay0,PyData.canLayAll0,PyData.canLayAll0,PyData.canLayAll0,K3,K3]; rfl
theorem b1Q (x y:Q2):(PyData.tuple [dF x,dF y]).depth<=60:=by unfold dF; simp [PyData.depth,PyData.depthAll]
theorem b2d (x:Q2):(PyData.tuple [dF x,.none]).canLay0=true:=by rw [PyData.canLay0,PyData.canLayAll0,PyData.canLayAll0,PyData.canLayAll0,K3,PyData.canLay0]; rfl
theorem b2e (x:Q2):(PyData.tuple [dF x,.none]).depth<=60:=by unfold dF; simp [PyData.depth,PyData.depthAll]
abbrev a6U:List V:=[V.str "any",V.str "one",V.str "less",V.str "more"]
theorem a7J {m:Nat} {v:V} (h:a6U[m]?=some v):∃ z,v=.str z/\Q9 z:=by
 have:=aJ h;simp only [aR,bY,or_false] at this;rcases this with rfl | rfl | rfl | rfl
 ·exact ⟨_,rfl,.inl rfl⟩
 ·exact ⟨_,rfl,.inr (.inl rfl)⟩
 ·exact ⟨_,rfl,.inr (.inr (.inl rfl))⟩
 ·exact ⟨_,rfl,.inr (.inr (.inr rfl))⟩
def rvH (h:c7):c7:=(h.1,h.2.reverse)
theorem a7j {far:Int} {kt kg:Nat} {h:c7} (g:HG far kt kg h):HG far kt kg (rvH h) :=
 ⟨g.lt,(jJ).trans g.lg,g.t,λ x hx=>g.g x (lR.mp hx),let ⟨x,hx,x0⟩:=g.p; ⟨x,lR.mpr hx,x0⟩⟩
theorem b1c {K:W.Frag} {H:Hp} {t t':Addr} {z:Str} {hs1 hs2 hs1' hs2':List c7} {h1 h2:c7} {kt kg:Nat} {far:Int} (hz:Q9 z) (S1:X8 hs1 hs1') (S2:X8 hs2 hs2') (G1:∀ g∈hs1,HG far kt kg g) (G2:∀ g∈hs2,HG far kt kg g) (g1:HG far kt kg h1) (g2:HG far kt kg h2) (m:MvV H t z hs1 hs2 h1 h2 kt kg) (m':MvV H t' z hs1' hs2' h1 h2 kt kg) :
  ∃ d:PyData,Dp K H (.ref t) d/\Dp K H (.ref t') d/\d.canLay0=true/\d.depth<=60:=by
 obtain ⟨c,r,x1,x2,ht,X1,X2,hc,qq⟩:=m;obtain ⟨c',r',x1',x2',ht',X1',X2',hc',qq'⟩:=m';have q1:=a0n hz S1 X1 X1' G1 g1;have q2:=a0n hz S2 X2 X2' G2 g2;subst q1 q2;have no1:∀ {y:Q2},ShB z hs1 h2 kt kg y->¬ IsNone z hs1' h2 kt kg:=λ Y N=>by
  obtain ⟨A,B,I,_⟩:=Y.s;exact (N.sameB ⟨S1.2,S1.1⟩).notShare hz (λ g hg=>⟨(G1 g hg).lt,(G1 g hg).lg⟩) g2 I
 have no2:∀ {y:Q2},ShB z hs2 h1 kt kg y->¬ IsNone z hs2' h1 kt kg:=λ Y N=>by
  obtain ⟨A,B,I,_⟩:=Y.s;exact (N.sameB ⟨S2.2,S2.1⟩).notShare hz (λ g hg=>⟨(G2 g hg).lt,(G2 g hg).lg⟩) g1 I
 have no1':∀ {y:Q2},ShB z hs1' h2 kt kg y->¬ IsNone z hs1 h2 kt kg:=λ Y N=>by
  obtain ⟨A,B,I,_⟩:=Y.s;exact N.notShare hz (λ g hg=>⟨(G1 g hg).lt,(G1 g hg).lg⟩) g2 (I.same S1.2 S1.1)
 have no2':∀ {y:Q2},ShB z hs2' h1 kt kg y->¬ IsNone z hs2 h1 kt kg:=λ Y N=>by
  obtain ⟨A,B,I,_⟩:=Y.s;exact N.notShare hz (λ g hg=>⟨(G2 g hg).lt,(G2 g hg).lg⟩) g1 (I.same S2.2 S2.1)
 rcases qq with ⟨y1,y2,Y1,Y2,hr⟩ | ⟨rfl,N⟩ <;> rcases qq' with ⟨y1',y2',Y1',Y2',hr'⟩ | ⟨rfl,N'⟩
 ·have q3:=a0n hz S1 Y1 Y1' G1 g2
  have q4:=a0n hz S2 Y2 Y2' G2 g1;subst q3 q4;exact ⟨.tuple [dF _,dF _],.tup (SqT.of ht) (.cons (FrV.dp hc.v) (.cons (FrV.dp hr.v) .nil)),.tup (SqT.of ht') (.cons (FrV.dp hc'.v) (.cons (FrV.dp hr'.v) .nil)),b2t _ _,b1Q _ _⟩
 ·rcases N' with N' | N'
  ·exact (no1 Y1 N').elim
  ·exact (no2 Y2 N').elim
 ·rcases N with N | N
  ·exact (no1' Y1' N).elim
  ·exact (no2' Y2' N).elim
 ·exact ⟨.tuple [dF _,.none],.tup (SqT.of ht) (.cons (FrV.dp hc.v) (.cons .non .nil)),.tup (SqT.of ht') (.cons (FrV.dp hc'.v) (.cons .non .nil)),b2d _,b2e _⟩
theorem b0E {K:W.Frag} {H:Hp} {ys:List V} {js:List (Option Q2)} (h:JL H ys js):Dps K H ys (js.map dJ):=by
 induction h with
 | nil=>exact .nil
 | cons r _ ih=>exact .cons r.dp ih
theorem a6F (js:List (Option Q2)):(PyData.list (js.map dJ)).canLay0=true:=by
 rw [PyData.canLay0]
 induction js with
 | nil=>rw [fL,PyData.canLayAll0]
 | cons b bs ih=>rw [bJ,PyData.canLayAll0,ih,b5j]; rfl
theorem b3p (js:List (Option Q2)):(PyData.list (js.map dJ)).depth<=60:=by
 have:∀ l:List (Option Q2),PyData.depthAll (l.map dJ)<=8:=λ l=>by
  induction l with
  | nil=>simp [PyData.depthAll]
  | cons b r ih =>
   rw [bJ,PyData.depthAll];refine jH.mpr ⟨?_,ih⟩
   cases b with
   | none=>simp [dJ,PyData.depth]
   | some x=>unfold dJ dF; simp [PyData.depth,PyData.depthAll]
 rw [PyData.depth];have:=this js;omega
theorem b0l {z:Str} {hs:List c7}:∀ (n:Nat) (left:List Nat),∀ l∈lev z hs n left,∀ k∈l,k∈left
 | 0,_,l,hl,_,_=>by simp [lev] at hl
 | n+1,left,l,hl,k,hk=>by
  by_cases h:left=[]
  ·rw [h,W2] at hl; cases hl
  ·rw [S3 h] at hl
   rcases aR.mp hl with rfl | hl
   ·exact a3v hk
   ·exact a4Q (b0l n (rst z hs left) l hl k hk)
theorem b0u {K:W.Frag} {H:Hp} {f:c7->c7}:∀ (zs:List V) (gs:List c7),zs.length=gs.length->(∀ (i:Nat) (y:V),zs[i]?=some y->∃ h,gs[i]?=some h/\HS K H y (f h))->Bk K H zs (gs.map f)
 | [],[],_,_=>.nil
 | y::zs,g::gs,hl,hq=>by
  obtain ⟨h,hh,r⟩:=hq 0 y rfl
  cases hh;exact .cons r (b0u zs gs (by simpa using hl) λ i y' h'=>hq (i+1) y' (by simpa using h'))
 | [],_::_,hl,_=>by simp at hl
 | _::_,[],hl,_=>by simp at hl
section
variable {P:Program} {w:World} {K:W.Frag} {mg:Str->Option Value} {base:Heap} {f:Addr} {fd:FuncData} {n:Nat} {CN Pt:Addr}
def a7U (K:W.Frag) (Pt:Addr):Sp:=λ vs H Q _=>∃ (a:Addr) (ns:List Int),vs=[.ref a]/\SqL K H a (ns.map V.int)/\ns.length<=63/\LT Pt H/\∀ H',Q (.bl true) H'
theorem b4h {a1 a2 a3 a4 a5 a6 a7 a8 a9 a10 a11:Addr} {d1 d2 d3 d4 d5 d6 d7 d8 d9 d10 d11:FuncData} (F:Fun K "law" "law" a2j f fd) (T:w8 mg) (C:Calls P w K mg base n CN Pt a1 a2 a3 a4 a5 a6 a7 a8 a9 a10 a11 d1 d2 d3 d4 d5 d6 d7 d8 d9 d10 d11) :
  FnOk P w K mg base E4 (n+1) f fd ["script"] (a7U K Pt):=by
 refine F.ok scLaw (λ vs H Q E h=>?_) (λ cdv A outer s H vs Q E hr h=>?_)
 ·obtain ⟨a,ns,rfl,_⟩:=h
  rfl
 obtain ⟨a,ns,rfl,hS,h63,L,q⟩:=h;refine ⟨_,(b6v T C hr).2,?_⟩;refine ⟨_,rfl,_,_,rfl,rfl,⟨by decide,by decide,by decide⟩,a,ns,0,10,10 ^ 9,rfl,hS,by decide,by decide,by decide,by decide,λ bl G0 xs hs kt kg e0 hbl0 hB0 hn1 hn10 kt1 kt4 kg1 kg4 hG=>?_⟩;have xlen:xs.length=hs.length:=Paired.length hB0;refine ⟨_,rfl,a,ns,2,rfl,e0.seq hS,by decide,λ c=>?_⟩;refine ⟨c,30,1000,rfl,by decide,by decide,by decide,λ pk G1 ds e1 hpk1 ld bd=>?_⟩;refine ⟨_,rfl,bl,_,rfl,.inl (SqL.of (e1 _ _ hbl0)),_,rfl,xs.length,pk,ds,rfl,SqL.of hpk1,by omega,by omega,λ orl G ord e2 hor hpm=>?_⟩;rw [xlen] at hpm;have hbl:=e2 _ _ (e1 _ _ hbl0);have hB:=Bk.same (e1.trans e2) hB0;have hpk:=e2 _ _ hpk1;have LG:=L.same (e0.trans (e1.trans e2))
 clear e0 e1 e2 hbl0 hB0 hpk1 hS
 have olen:ord.length=hs.length:=by rw [hpm.length_eq,cQ]
 have small:=j8 (show (1000:Nat)<=1000 from aH _);have oin:∀ {k:Nat},k∈ord->k<hs.length:=λ hk=>(a0K hpm).mp hk;have dn:∀ j,j<30->0<=ds.getD j 0:=λ j hj=>(bd _ (by rw [aG,aF (by omega)]; exact cD _)).1;have lx:∀ (vs:List V),vs.length=hs.length->∀ k∈ord,vs[k]?=some (vs.getD k .non):=λ vs hv k hk=>by
  have:=oin hk;rw [aG,aF (by omega)]; rfl
 refine ⟨λ σ' H'=>∃ ol:Addr,σ'=[some (.ref a),some (.ref bl),some (.ref pk),some (.ref orl),some (.ref ol),none,none,none,none,none,none,none,none,none]/\Same G H'/\H' ol=some (.lst (ord.map λ k=>xs.getD k .non)),?_,?_⟩
 ·refine ⟨_,rfl,orl,rfl,⟨_,SqL.of hor⟩,λ ol hol=>?_⟩
  refine N9 (u9 (SqL.of hor)) hol (by rw [aA]; omega) (λ x=>xs.getD (vI x).toNat .non) (λ j x H2 N hx e hN=>?_) ?_
  ·obtain ⟨k,hk',rfl⟩:=T6 hx
   exact ⟨Wk.set (by decide),_,rfl,_,rfl,bl,xs,_,_,rfl,rfl,SqL.of (e _ _ hbl),w6 (lx xs xlen k (aJ hk')),hN⟩
  ·refine ⟨ol,rfl,Same.new hol _,?_⟩
   rw [upd_same,aM]; rfl
 rintro _ G2 ⟨ol,rfl,e2,hol⟩;refine ⟨λ σ' H'=>∃ (ll:Addr) (zs:List V),σ'=[some (.ref a),some (.ref bl),some (.ref pk),some (.ref orl),some (.ref ol),some (.ref ll),none,none,none,none,none,none,none,none]/\Same G2 H'/\H' ll=some (.lst zs)/\Bk K H' zs (hs.map rvH),?_,?_⟩
 ·have hbl2:=e2 _ _ hbl
  have hB2:=Bk.same e2 hB;refine ⟨_,rfl,bl,rfl,⟨_,SqL.of hbl2⟩,λ p hp=>?_⟩;refine P6 (u9 (SqL.of hbl2)) hp (by omega) (λ i y H'=>∃ h,hs[i]?=some h/\∀ H'':Hp,(∀ b o,b≠p->H' b=some o->H'' b=some o)->HS K H'' y (rvH h)) (λ i y Ha Hb ⟨h,h1,h2⟩ st=>⟨h,h1,λ H'' st2=>h2 H'' λ b o hb hh=>st2 b o hb (st b o hb hh)⟩) (λ i y H7 zs N hy e hp' hNN=>?_) (λ zs H7 e hp' len pr=>?_)
  ·obtain ⟨h,hh,⟨av,ta,ga,rfl,p1,p2,p3⟩⟩:=Paired.at hB2 hy
   refine ⟨av,_,rfl,e.tseq p1,rfl,_,_,rfl,_,_,rfl,rfl,a2y (by decide) (by decide),?_⟩;refine ⟨_,rfl,_,rfl,_,rfl,_,rfl,rfl,ga,_,rfl,e.tseq p3,λ g2 hg2=>?_⟩;have s9:=Same.new hg2 (.tup (h.2.map V.int).reverse);refine ⟨(by show 2<=sizeLine; decide),λ t3 ht3=>?_⟩;have s10:=Same.new ht3 (.tup [V.ref ta,V.ref g2]);have hp10:=s10 _ _ (s9 _ _ hp');refine hNN _ _ (s9.trans s10) ⟨h,hh,λ H'' st=>?_⟩;have HSn:HS K (upd (upd H7 g2 (.tup (h.2.map V.int).reverse)) t3 (.tup [V.ref ta,V.ref g2])) (.ref t3) (rvH h):=⟨t3,ta,g2,rfl,SqT.of upd_same,(s9.trans s10).tseq (e.tseq p2),by
    show SqT K _ g2 (h.2.reverse.map V.int)
    rw [List.map_reverse]; exact SqT.of (s10 _ _ upd_same)⟩
   exact HSn.keep λ b o hb nl=>st b o (λ z=>by rw [z,hp10] at hb; exact nl _ (aS hb).symm) hb
  ·exact ⟨p,zs,rfl,e,hp',b0u zs hs (by omega) λ i y hy=>by
    obtain ⟨h,hh,r⟩:=pr i y hy;exact ⟨h,hh,r _ λ b o _ hb=>hb⟩⟩
 rintro _ G3 ⟨ll,zs,rfl,e3,hll,hLB⟩;have e23:=e2.trans e3;have L3:=LG.same e23;have gbl:=e23 _ _ hbl;have gpk:=e23 _ _ hpk;have gor:=e23 _ _ hor;have gol:=e3 _ _ hol;have gB:=Bk.same e23 hB
 clear e2 e3 e23 hbl hpk hor hol hB LG
 have zlen:zs.length=hs.length:=by rw [Paired.length hLB,aA]
 have hGl:∀ g∈hs.map rvH,HG (10 ^ 9) kt kg g:=λ g hg=>by
  obtain ⟨h,hh,rfl⟩:=aK.mp hg;exact a7j (hG h hh)
 have bin:∀ {H':Hp},Same1 Pt G3 H'->BookIn K H' bl xs hs (10 ^ 9) kt kg:=λ e=>⟨SqL.of (e.get L3 gbl nofun),Bk.same1 L3 e gB,hG,by decide,by omega,by omega,by omega⟩;have binl:∀ {H':Hp},Same1 Pt G3 H'->BookIn K H' ll zs (hs.map rvH) (10 ^ 9) kt kg:=λ e=>⟨SqL.of (e.get L3 hll nofun),Bk.same1 L3 e hLB,hGl,by decide,by rw [aA]; omega,by omega,by omega⟩;have bino:∀ {H':Hp},Same1 Pt G3 H'->BookIn K H' ol (ord.map λ k=>xs.getD k .non) (A9 hs ord) (10 ^ 9) kt kg:=λ e=>a3n (bin e) (λ k hk=>oin hk) (by omega) (e.get L3 gol nofun);have SB:=a1k hpm;have hpl:ord.Perm (aD (hs.map rvH).length):=by rw [aA]; exact hpm
 have SL:=a1k hpl;have yl:(ord.map λ k=>xs.getD k .non).length=hs.length:=by rw [aA]; exact olen
 refine ⟨λ σ' H'=>∃ o6 o7 o8 o9,σ'=[some (.ref a),some (.ref bl),some (.ref pk),some (.ref orl),some (.ref ol),some (.ref ll),o6,o7,o8,o9,none,none,none,none]/\Same1 Pt G3 H'/\LT Pt H',?_,?_⟩
 ·refine ⟨_,rfl,orl,rfl,⟨_,SqL.of gor⟩,?_⟩
  refine a0T (xs:=y4 ord) (i1:=6) (i2:=7) (λ j σ H'=>∃ o6 o7 o8 o9,σ=[some (.ref a),some (.ref bl),some (.ref pk),some (.ref orl),some (.ref ol),some (.ref ll),o6,o7,o8,o9,none,none,none,none]/\Same1 Pt G3 H'/\LT Pt H')
   ⟨_,_,_,_,rfl,Same1.refl,L3⟩ (λ j σ H' ⟨_,_,_,_,_,e,_⟩=>SqL.of (e.get L3 gor nofun)) ?_ (λ σ H' h=>h)
  rintro i x σ H1 qq hx ⟨o6,o7,o8,o9,rfl,e1,L1⟩ hq;obtain ⟨k,hk,rfl⟩:=T6 hx;have s1:=Same.new hq (.tup [V.int (i:Int),V.int (k:Int)]);have e2:=e1.trans s1.to1;have L2:=L1.same s1;generalize upd H1 qq (.tup [V.int (i:Int),V.int (k:Int)])=H2 at *;have hkl:=oin (aJ hk);have hil:=(aU.mp hk).1;obtain ⟨h,hh⟩:∃ h,hs[k]?=some h:=⟨_,aF hkl⟩;have hmm:=aJ hh;have gh:=hG h hmm;have hho:=S6 hk hh;have gd:a0O xs.length (k:Int):=⟨by omega,by omega⟩;have gdo:a0O (ord.map λ k=>xs.getD k .non).length (i:Int):=⟨by omega,by omega⟩;refine ⟨λ σ' H'=>σ'=[some (.ref a),some (.ref bl),some (.ref pk),some (.ref orl),some (.ref ol),some (.ref ll),some (.int (i:Int)),some (.int (k:Int)),o8,o9,none,none,none,none]/\Same H2 H',?_,?_⟩
  ·refine ⟨_,rfl,_,rfl,ol,_,_,(i:Int),kt,kg,rfl,(bino e2).l,(bino e2).b,(bino e2).g,kt1,by omega,K1 (by omega),λ i' h' hi' hh' v1 H3 e3 b1=>?_,λ bad=>absurd gdo bad⟩
   have:i'=i:=by omega
   subst this;rw [hho] at hh'; cases hh';obtain ⟨⟨q1,k1⟩,eb1⟩:=lS.mp (b0N hho gh);rw [eb1] at b1;obtain ⟨t1,u1,rfl,ht1,hu1,_⟩:=b1;refine ⟨t1,_,0,_,rfl,rfl,SqT.of ht1,T9 _ _,_,rfl,_,rfl,bl,xs,hs,(k:Int),kt,kg,rfl,e3.seq (bin e2).l,Bk.same e3 (bin e2).b,hG,kt1,by omega,K1 (by omega),λ k' h' hi2 hh' v2 H4 e4 b2=>?_,λ bad=>absurd gd bad⟩;have:k'=k:=by omega
   subst this;rw [hh] at hh'; cases hh';obtain ⟨⟨q2,k2⟩,eb2⟩:=lS.mp (b0N hh gh);rw [eb2] at b2;obtain ⟨t2,u2,rfl,ht2,hu2,_⟩:=b2;have eq:=a8C SB gh eb2 eb1;subst eq;refine ⟨t2,_,0,_,rfl,rfl,SqT.of ht2,T9 _ _,dF q2,dF q2,FrV.dp (hu1.same e4).v,FrV.dp hu2.v,K3 _,K3 _,aZ (dU _ _) (a2J _),_,rfl,?_⟩;rw [K6 _ (K3 _)];exact a0s ⟨rfl,e3.trans e4⟩
  rintro _ H3 ⟨rfl,e3⟩;have e03:=e2.trans e3.to1;have L3':=L2.same e3;refine ⟨λ σ' H'=>σ'=[some (.ref a),some (.ref bl),some (.ref pk),some (.ref orl),some (.ref ol),some (.ref ll),some (.int (i:Int)),some (.int (k:Int)),o8,o9,none,none,none,none]/\Same1 Pt H3 H'/\LT Pt H',?_,?_⟩
  ·refine ⟨_,rfl,_,rfl,ol,_,_,(i:Int),10 ^ 9,kt,kg,rfl,bino e03,kt1,K1 (by omega),L3',λ i' h' H4 t1 hi' hh' s1 e4 L4=>?_,λ bad=>absurd gdo bad⟩
   have:i'=i:=by omega
   subst this;rw [hho] at hh'; cases hh';refine ⟨_,rfl,_,rfl,bl,xs,hs,(k:Int),10 ^ 9,kt,kg,rfl,bin (e03.trans e4),kt1,K1 (by omega),L4,λ k' h' H5 t2 hi2 hh' s2 e5 L5=>?_,λ bad=>absurd gd bad⟩;have:k'=k:=by omega
   subst this;rw [hh] at hh'; cases hh';have et:=a8P SB hG gh s2 s1;subst et;refine ⟨rfl,_,rfl,?_⟩;rw [show (!decide (V.str t2=V.str t2))=false by simp];exact a0s ⟨rfl,e4.trans e5,L5⟩
  rintro _ H4 ⟨rfl,e4,L4⟩;have e04:=e03.trans e4;have hl2:(hs.map rvH)[k]?=some (rvH h):=by rw [aE,hh]; rfl
  have hlo:=S6 hk hl2;refine ⟨λ σ' H'=>∃ t,σ'=[some (.ref a),some (.ref bl),some (.ref pk),some (.ref orl),some (.ref ol),some (.ref ll),some (.int (i:Int)),some (.int (k:Int)),some (.ref t),o9,none,none,none,none]/\Same1 Pt H4 H'/\LT Pt H'/\MvV H' t "any" (A9 hs ord) (A9 (hs.map rvH) ord) h (rvH h) kt kg,?_,?_⟩
  ·refine ⟨_,rfl,_,rfl,orl,rfl,⟨_,SqL.of (e04.get L3 gor nofun)⟩,λ pl hpl'=>?_⟩
   refine N9 (u9 (SqL.of (e04.get L3 gor nofun))) hpl' (by rw [aA]; omega) (λ x=>zs.getD (vI x).toNat .non) (λ j x H2 N hx e hN=>?_) ?_
   ·obtain ⟨k,hk',rfl⟩:=T6 hx
    exact ⟨Wk.set (by decide),_,rfl,_,rfl,ll,zs,_,_,rfl,rfl,SqL.of (e _ _ (e04.get L3 hll nofun)),w6 (lx zs zlen k (aJ hk')),hN⟩
   have em:(y4 ord).map (λ x=>zs.getD (vI x).toNat .non)=ord.map λ k=>zs.getD k .non:=by rw [aM]; rfl
   rw [em];have t5:=Same.new hpl' (.lst (ord.map λ k=>zs.getD k .non));have e05:=e04.trans t5.to1;refine ⟨_,rfl,ol,pl,_,_,_,_,i,h,rvH h,"any",10 ^ 9,kt,kg,rfl,.inl rfl,bino e05,a3n (binl e05) (λ k hk=>by rw [aA]; exact oin hk) (by omega) upd_same,hho,hlo,kt1,L4.same t5,λ H7 t M e7 L7=>?_⟩;exact ⟨t,rfl,t5.to1.trans e7,L7,M⟩
  rintro _ H5 ⟨t,rfl,e5,L5,M5⟩;have e05:=e04.trans e5;refine ⟨λ σ' H'=>σ'=[some (.ref a),some (.ref bl),some (.ref pk),some (.ref orl),some (.ref ol),some (.ref ll),some (.int (i:Int)),some (.int (k:Int)),some (.ref t),o9,none,none,none,none]/\Same1 Pt H5 H'/\LT Pt H',?_,?_⟩
  ·refine ⟨_,rfl,_,rfl,_,rfl,_,rfl,bl,ll,xs,zs,hs,_,k,h,rvH h,"any",10 ^ 9,kt,kg,rfl,.inl rfl,bin e05,binl e05,hh,hl2,kt1,L5,λ H6 t' M6 e6 L6=>?_⟩
   obtain ⟨d,D1,D2,ly,dp⟩:=b1c (K:=K) (.inl rfl) SB SL hG hGl gh (a7j gh) M6 (M5.to1 L5 e6);refine ⟨d,d,D2,D1,ly,ly,aZ (dU _ _) dp,_,rfl,?_⟩;rw [K6 _ ly];exact a0s ⟨rfl,e6,L6⟩
  rintro _ H6 ⟨rfl,e6,L6⟩;have e06:=e05.trans e6;refine ⟨(by show 4<=sizeLine; decide),λ sl hsl=>?_⟩;have s4:=Same.new hsl (.lst a6U);have L7:=L6.same s4;refine ⟨sl,rfl,⟨_,SqL.of upd_same⟩,?_⟩;refine Z4 (xs:=a6U) (λ m σ H'=>∃ o9,σ=[some (.ref a),some (.ref bl),some (.ref pk),some (.ref orl),some (.ref ol),some (.ref ll),some (.int (i:Int)),some (.int (k:Int)),some (.ref t),o9,none,none,none,none]/\Same1 Pt (upd H6 sl (.lst a6U)) H'/\LT Pt H')
   ⟨_,rfl,Same1.refl,L7⟩ (λ m σ H' _ ⟨_,_,e,_⟩=>SqL.of (e.get L7 upd_same nofun)) ?_ ?_
  rotate_left
  ·rintro σ H' ⟨o9,rfl,e,L'⟩
   exact ⟨_,_,_,_,rfl,e06.trans (s4.to1.trans e),L'⟩
  rintro m zv σ H7 hzv ⟨o9,rfl,e7,L7'⟩;obtain ⟨z,rfl,hz⟩:=a7J hzv;have e07:=e06.trans (s4.to1.trans e7);refine ⟨_,rfl,_,rfl,_,rfl,_,rfl,_,rfl,bl,ol,xs,_,hs,ord,k,i,z,10 ^ 9,kt,kg,rfl,hz,bin e07,bino e07,kt1,hpm,hk,L7',λ H8 e8 L8=>?_⟩;exact ⟨_,rfl,a0s ⟨_,rfl,e7.trans e8,L8⟩⟩
 rintro _ G4 ⟨o6,o7,o8,o9,rfl,e4,L4⟩;have gds:∀ {k:Nat},k<ord.length->(y4 ord)[k]?=some (.int ((ord.getD k 0:Nat):Int)):=λ h=>a2t h;refine ⟨λ σ' H'=>∃ o8 o9 o10,σ'=[some (.ref a),some (.ref bl),some (.ref pk),some (.ref orl),some (.ref ol),some (.ref ll),o6,o7,o8,o9,o10,none,none,none]/\Same1 Pt G3 H'/\LT Pt H',?_,?_⟩
 ·refine ⟨(by show 4<=sizeLine; decide),λ sl hsl=>?_⟩
  have s4:=Same.new hsl (.lst a6U);have L5:=L4.same s4;refine ⟨sl,rfl,⟨_,SqL.of upd_same⟩,?_⟩;refine Z4 (xs:=a6U) (λ m σ H'=>∃ o8 o9 o10,σ=[some (.ref a),some (.ref bl),some (.ref pk),some (.ref orl),some (.ref ol),some (.ref ll),o6,o7,o8,o9,o10,none,none,none]/\Same1 Pt (upd G4 sl (.lst a6U)) H'/\LT Pt H')
   ⟨_,_,_,rfl,Same1.refl,L5⟩ (λ m σ H' _ ⟨_,_,_,_,e,_⟩=>SqL.of (e.get L5 upd_same nofun)) ?_ ?_
  rotate_left
  ·rintro σ H' ⟨o8,o9,o10,rfl,e,L'⟩
   exact ⟨_,_,_,rfl,e4.trans (s4.to1.trans e),L'⟩
  rintro m zv σ H1 hzv ⟨o8,o9,o10,rfl,e1,L1⟩;obtain ⟨z,rfl,hz⟩:=a7J hzv;have e01:=e4.trans (s4.to1.trans e1);refine ⟨(by show 0<=sizeLine; decide),λ fl hfl=>?_⟩;have s2:=Same.new hfl (.lst []);have L2:=L1.same s2;have hf2:(upd H1 fl (.lst [])) fl=some (.lst []):=upd_same;have e02:=e01.trans s2.to1;refine ⟨λ σ' H'=>∃ (bs:List Addr) (o10:Option V),σ'=[some (.ref a),some (.ref bl),some (.ref pk),some (.ref orl),some (.ref ol),some (.ref ll),o6,o7,some (.ref fl),some (.str z),o10,none,none,none]/\Same1 Pt H1 H'/\LT Pt H'/\H' fl=some (.lst (bs.map V.ref))/\NatsAt H' bs (lev z hs hs.length (aD hs.length)),?_,?_⟩
  ·generalize upd H1 fl (.lst [])=H2 at *
   refine ⟨_,rfl,_,rfl,ol,_,_,z,10 ^ 9,kt,kg,rfl,hz,bino e02,by decide,kt1,L2,λ H3 r as e3 L3' hr0 hr3 na asn=>?_⟩;rw [show (A9 hs ord).length=hs.length by rw [aA]; exact olen] at na;have PL:=a7B (z:=z) hpm hs.length (aD hs.length) (aD hs.length) (Up.range _) (Up.range _) (λ i hi=>by rw [olen]; exact bO.mp hi) (by
    have:=a0F ord;rw [olen] at this;rw [this]; exact hpm)
   have plen:(lev z (A9 hs ord) hs.length (aD hs.length)).length=(lev z hs hs.length (aD hs.length)).length:=Paired.length PL;have llen:=a7e (z:=z) (hs:=hs) hs.length (aD hs.length);have alen:as.length=(lev z hs hs.length (aD hs.length)).length:=na.1.trans plen;have hf3:H3 fl=some (.lst []):=e3.get L2 hf2 nofun;have nrf:r≠fl:=λ z=>by rw [z,hf2] at hr0; cases hr0
   have naf:∀ a∈as,a≠fl:=λ a ha z=>by have:=asn a ha; rw [z,hf2] at this; cases this
   have hor3:H3 orl=some (.lst (y4 ord)):=(e02.trans e3).get L3 gor nofun;have nof:orl≠fl:=λ z=>by
    have h1:H1 orl=some (.lst (y4 ord)):=e01.get L3 gor nofun;rw [z,hfl] at h1; cases h1
   refine ⟨r,rfl,⟨_,SqL.of hr3⟩,?_⟩;refine Z4 (xs:=as.map V.ref) (λ i σ H'=>∃ (bs:List Addr) (o10:Option V),σ=[some (.ref a),some (.ref bl),some (.ref pk),some (.ref orl),some (.ref ol),some (.ref ll),o6,o7,some (.ref fl),some (.str z),o10,none,none,none]/\(∀ b o,b≠fl->H3 b=some o->H' b=some o)/\LT Pt H'/\H' fl=some (.lst (bs.map V.ref))/\bs.length=i/\(∀ b∈bs,b≠fl)/\NatsAt H' bs ((lev z hs hs.length (aD hs.length)).take i))
    ⟨[],_,rfl,λ b o _ h=>h,L3',hf3,rfl,nofun,rfl,λ k a l h1 _=>by simp at h1⟩ (λ i σ H' _ ⟨_,_,_,kp,_⟩=>SqL.of (kp _ _ nrf hr3)) ?_ ?_
   ·rintro i x σ H4 hx ⟨bs,o10',rfl,kp,L4',hf4,blen,bne,nb⟩
    rw [aE] at hx;obtain ⟨ai,hai,rfl⟩:=iD.mp hx;have hia:=(aU.mp hai).1;obtain ⟨l',hl'⟩:∃ l',(lev z (A9 hs ord) hs.length (aD hs.length))[i]?=some l':=⟨_,aF (by omega)⟩;obtain ⟨l,hl,pm,up⟩:=Paired.at PL hl';have hai4:H4 ai=some (.lst (y4 l')):=kp _ _ (naf ai (aJ hai)) (na.2 i ai l' hai hl');have hor4:H4 orl=some (.lst (y4 ord)):=kp _ _ nof hor3;have lin:∀ k∈l',k<ord.length:=λ k hk=>by
     have:=b0l (z:=z) (hs:=A9 hs ord) hs.length (aD hs.length) l' (aJ hl') k hk;rw [olen]; exact bO.mp this
    have lle:l'.length<=16:=by
     have h1:=a3M (z:=z) (hs:=A9 hs ord) hs.length (aD hs.length) (by rw [cQ]; exact aH _) l' (aJ hl');omega
    refine ⟨_,rfl,.inl ⟨rfl,_,SqL.of hf4⟩,_,rfl,ai,rfl,⟨_,SqL.of hai4⟩,λ p hp=>?_⟩;refine N9 (u9 (SqL.of hai4)) hp (by rw [aA]; omega) (λ x=>.int ((ord.getD (vI x).toNat 0:Nat):Int)) (λ j x H5 N hx e hN=>?_) ?_
    ·obtain ⟨k,hk',rfl⟩:=T6 hx
     exact ⟨Wk.set (by decide),_,rfl,_,rfl,orl,_,_,_,rfl,rfl,SqL.of (e _ _ hor4),w6 (gds (lin k (aJ hk'))),hN⟩
    have em:(y4 l').map (λ x=>V.int ((ord.getD (vI x).toNat 0:Nat):Int))=((l'.map λ k=>ord.getD k 0).map λ (k:Nat)=>(k:Int)).map V.int:=by
     rw [aM,aM,aM]; rfl
    rw [em];have t5:=Same.new hp (.lst (((l'.map λ k=>ord.getD k 0).map λ (k:Nat)=>(k:Int)).map V.int));refine ⟨p,_,rfl,SqL.of upd_same,by rw [aA,aA]; omega,λ s8 ns' hs8 hp8 hs'=>?_⟩;rw [b0J hp8 hs' pm up,show (l.map λ (k:Nat)=>(k:Int)).map V.int=y4 l by rw [aM]; rfl];have t8:=Same.new hs8 (.lst (y4 l));have t58:=t5.trans t8;have hf5:=t58 _ _ hf4;have h8:=upd_same (H:=upd H4 p (.lst (((l'.map λ k=>ord.getD k 0).map λ (k:Nat)=>(k:Int)).map V.int))) (a:=s8) (o:=.lst (y4 l));have n8:s8≠fl:=λ z=>by rw [z,t5 _ _ hf4] at hs8; cases hs8
    have L8:=L4'.same t58;generalize upd (upd H4 p (.lst (((l'.map λ k=>ord.getD k 0).map λ (k:Nat)=>(k:Int)).map V.int))) s8 (.lst (y4 l))=H8 at *;refine ⟨fl,_,_,rfl,rfl,hf5,by rw [aA]; omega,?_⟩;refine ⟨bs++[s8],_,rfl,λ b o hb h=>by rw [i3 hb]; exact t58 _ _ (kp _ _ hb h),L8.write hf5,by rw [upd_same,bC]; rfl,by rw [aO,blen]; rfl,λ b hb=>?_,?_⟩
    ·rcases aQ.mp hb with q1 | q1
     ·exact bne b q1
     ·rw [bN.mp q1]; exact n8
    ·rw [List.take_add_one,hl]
     refine NatsAt.snoc ⟨nb.1,λ k b m h1 h2=>?_⟩ (by rw [i3 n8]; exact h8);rw [i3 (bne b (aJ h1))]; exact t58 _ _ (nb.2 k b m h1 h2)
   ·rintro σ H4 ⟨bs,o10',rfl,kp,L4',hf4,blen,bne,nb⟩
    rw [eE (by rw [aA]; omega)] at nb;refine ⟨bs,o10',rfl,λ b o n h=>?_,L4',hf4,nb⟩;have h2:=s2 _ _ h;exact kp _ _ (i4 h hfl) (e3 _ _ n h2)
  rintro _ H5 ⟨bs,o10',rfl,e5,L5',hf5,nb⟩;refine ⟨_,rfl,_,rfl,_,rfl,bl,xs,hs,z,10 ^ 9,kt,kg,rfl,hz,bin (e01.trans e5),by decide,kt1,L5',λ H6 r2 as2 e6 L6 _ hr2 na2 _=>?_⟩;have nb':NatsAt H6 bs (lev z hs hs.length (aD hs.length)):=⟨nb.1,λ k a l h1 h2=>e6.get L5' (nb.2 k a l h1 h2) nofun⟩;refine ⟨a6o _,a6o _,a9f (e6.get L5' hf5 nofun) nb',a9f hr2 na2,a4P _,a4P _,aZ (dU _ _) (aZ (a8J _) (by decide)),_,rfl,?_⟩;rw [K6 _ (a4P _)];exact a0s ⟨_,_,_,rfl,e1.trans (e5.trans e6),L6⟩
 rintro _ G5 ⟨o8',o9',o10,rfl,e5,L5⟩;obtain ⟨h0,hh0⟩:∃ h,hs[0]?=some h:=⟨_,aF (by omega)⟩;obtain ⟨x0,hx0⟩:∃ x,xs[0]?=some x:=⟨_,aF (by omega)⟩;have gh0:=hG h0 (aJ hh0);obtain ⟨h0',hh0',⟨b0,tb0,gb0,rfl,p1,p2,p3⟩⟩:=Paired.at (bin e5).b hx0;rw [hh0] at hh0'; cases hh0';have gbl5:G5 bl=some (.lst xs):=e5.get L3 gbl nofun;have gpk5:G5 pk=some (.lst (ds.map V.int)):=e5.get L3 gpk nofun;refine ⟨λ σ' H'=>∃ (ta:Addr) (fts:List V) (pt:List Int),σ'=[some (.ref a),some (.ref bl),some (.ref pk),some (.ref orl),some (.ref ol),some (.ref ll),o6,o7,o8',o9',o10,some (.ref ta),none,none]/\Same G5 H'/\H' ta=some (.lst fts)/\FrsAt H' fts pt 1/\pt.length=kt/\∀ x∈pt,0<=x/\x<100,?_,?_⟩
 ·refine ⟨_,rfl,_,rfl,_,rfl,bl,_,_,_,rfl,rfl,SqL.of gbl5,w6 hx0,b0,_,_,_,rfl,rfl,p1,T9 _ _,tb0,_,rfl,.inr p2,_,_,rfl,rfl,_,rfl,pk,_,rfl,SqL.of gpk5,λ sl hsl=>?_⟩
  have ec:M1 (ds.map V.int) (some 10) (some (10+((h0.1.map V.int).length:Int)))=((ds.drop 10).take kt).map V.int:=by
   unfold M1;rw [show (10:Int)=((10:Nat):Int) from rfl,aA,aA,gh0.lt,show ((10:Nat):Int)+(kt:Int)=((10+kt:Nat):Int) by omega,HT.sIx_nat,HT.sIx_nat];rw [eZ (by omega),eZ (by omega),show 10+kt - 10=kt by omega,hZ,iX]
  rw [ec];have t1:=Same.new hsl (.lst (((ds.drop 10).take kt).map V.int));refine ⟨sl,rfl,⟨_,SqL.of upd_same⟩,λ p hp=>?_⟩;have len1:((ds.drop 10).take kt).length=kt:=by rw [bU,cW]; omega
  refine P6 (u9 (SqL.of upd_same)) hp (by rw [aA]; omega) (λ i y H'=>∃ d,((ds.drop 10).take kt)[i]?=some d/\∀ H'':Hp,(∀ b o,b≠p->H' b=some o->H'' b=some o)->FrT H'' y (low (d % 9) 1)) (λ i y Ha Hb ⟨h,h1,h2⟩ st=>⟨h,h1,λ H'' st2=>h2 H'' λ b o hb hh=>st2 b o hb (st b o hb hh)⟩) (λ i y H7 zs N hy e hp' hNN=>?_) (λ zs H7 e hp' len pr=>?_)
  ·rw [aE] at hy
   obtain ⟨d,hd,rfl⟩:=iD.mp hy;refine ⟨Wk.set (by decide),_,rfl,_,_,rfl,rfl,(by show (0:Int)<9; decide),(by show 2<=sizeLine; decide),λ t ht=>?_⟩;have t2:=Same.new ht (.tup [V.int (d % 9),V.int 1]);refine hNN _ _ t2 ⟨d,hd,λ H'' st=>⟨t,rfl,?_⟩⟩;rw [a1x];exact st _ _ (a0v upd_same (t2 _ _ hp') nofun) upd_same
  ·rw [aA,len1] at len
   refine ⟨p,zs,((ds.drop 10).take kt).map (· % 9),rfl,t1.trans e,hp',⟨by rw [aA,len1]; exact len,λ i y hy=>?_⟩,by rw [aA]; exact len1,λ x hx=>?_⟩
   ·obtain ⟨d,hd,r⟩:=pr i y hy
    rw [aG,aE,hd];exact r _ λ b o _ h=>h
   ·obtain ⟨d,hd,rfl⟩:=aK.mp hx
    omega
 rintro _ G6 ⟨ta,fts,pt,rfl,e6,hta,ft,ptl,ptb⟩;have gbl6:=e6 _ _ gbl5;have gpk6:=e6 _ _ gpk5;refine ⟨λ σ' H'=>∃ (ga:Addr) (gts:List V) (pg:List Int),σ'=[some (.ref a),some (.ref bl),some (.ref pk),some (.ref orl),some (.ref ol),some (.ref ll),o6,o7,o8',o9',o10,some (.ref ta),some (.ref ga),none]/\Same G6 H'/\H' ga=some (.lst gts)/\FrsAt H' gts pg 1/\pg.length=kg/\∀ x∈pg,0<=x/\x<100,?_,?_⟩
 ·refine ⟨_,rfl,_,rfl,_,rfl,bl,_,_,_,rfl,rfl,SqL.of gbl6,w6 hx0,b0,_,_,_,rfl,rfl,e6.tseq p1,Z0 _ _,gb0,_,rfl,.inr (e6.tseq p3),_,_,rfl,rfl,_,rfl,pk,_,rfl,SqL.of gpk6,λ sl hsl=>?_⟩
  have ec:M1 (ds.map V.int) (some 14) (some (14+((h0.2.map V.int).length:Int)))=((ds.drop 14).take kg).map V.int:=by
   unfold M1;rw [show (14:Int)=((14:Nat):Int) from rfl,aA,aA,gh0.lg,show ((14:Nat):Int)+(kg:Int)=((14+kg:Nat):Int) by omega,HT.sIx_nat,HT.sIx_nat];rw [eZ (by omega),eZ (by omega),show 14+kg - 14=kg by omega,hZ,iX]
  rw [ec];have t1:=Same.new hsl (.lst (((ds.drop 14).take kg).map V.int));refine ⟨sl,rfl,⟨_,SqL.of upd_same⟩,λ p hp=>?_⟩;have len1:((ds.drop 14).take kg).length=kg:=by rw [bU,cW]; omega
  refine P6 (u9 (SqL.of upd_same)) hp (by rw [aA]; omega) (λ i y H'=>∃ d,((ds.drop 14).take kg)[i]?=some d/\∀ H'':Hp,(∀ b o,b≠p->H' b=some o->H'' b=some o)->FrT H'' y (low (d % 7) 1)) (λ i y Ha Hb ⟨h,h1,h2⟩ st=>⟨h,h1,λ H'' st2=>h2 H'' λ b o hb hh=>st2 b o hb (st b o hb hh)⟩) (λ i y H7 zs N hy e hp' hNN=>?_) (λ zs H7 e hp' len pr=>?_)
  ·rw [aE] at hy
   obtain ⟨d,hd,rfl⟩:=iD.mp hy;refine ⟨Wk.set (by decide),_,rfl,_,_,rfl,rfl,(by show (0:Int)<7; decide),(by show 2<=sizeLine; decide),λ t ht=>?_⟩;have t2:=Same.new ht (.tup [V.int (d % 7),V.int 1]);refine hNN _ _ t2 ⟨d,hd,λ H'' st=>⟨t,rfl,?_⟩⟩;rw [a1x];exact st _ _ (a0v upd_same (t2 _ _ hp') nofun) upd_same
  ·rw [aA,len1] at len
   refine ⟨p,zs,((ds.drop 14).take kg).map (· % 7),rfl,t1.trans e,hp',⟨by rw [aA,len1]; exact len,λ i y hy=>?_⟩,by rw [aA]; exact len1,λ x hx=>?_⟩
   ·obtain ⟨d,hd,r⟩:=pr i y hy
    rw [aG,aE,hd];exact r _ λ b o _ h=>h
   ·obtain ⟨d,hd,rfl⟩:=aK.mp hx
    omega
 rintro _ G7 ⟨ga,gts,pg,rfl,e7,hga,gt,pgl,pgb⟩;have gpk7:=e7 _ _ gpk6;refine ⟨λ σ' H'=>∃ (pr:Addr) (ps:Int),σ'=[some (.ref a),some (.ref bl),some (.ref pk),some (.ref orl),some (.ref ol),some (.ref ll),o6,o7,o8',o9',o10,some (.ref ta),some (.ref ga),some (.ref pr)]/\Same G7 H'/\PrA H' pr pt pg ps 1/\-10<=ps/\ps<=10,?_,?_⟩
 ·refine ⟨_,rfl,_,rfl,_,rfl,pk,_,_,_,rfl,rfl,SqL.of gpk7,b6W (j:=18) (by omega),_,_,rfl,rfl,(by show (0:Int)<5; decide),_,_,rfl,rfl,(by show 2<=sizeLine; decide),λ u hu=>?_⟩
  have t1:=Same.new hu (.tup [V.int (ds.getD 18 0 % 5 - 2),V.int 1]);refine ⟨(by show 3<=sizeLine; decide),λ t ht=>?_⟩;have t2:=Same.new ht (.tup [V.ref ta,V.ref ga,V.ref u]);have t12:=t1.trans t2;refine ⟨t,ds.getD 18 0 % 5 - 2,rfl,t12,⟨ta,ga,.ref u,fts,gts,upd_same,t12 _ _ (e7 _ _ hta),(ft.same (e7.trans t12)),t12 _ _ hga,gt.same t12,⟨u,rfl,by rw [a1x]; exact t2 _ _ upd_same⟩⟩,by omega,by omega⟩
 rintro _ G8 ⟨pr,ps,rfl,e8,PR,ps1,ps2⟩;have e08:Same1 Pt G3 G8:=e5.trans (e6.trans (e7.trans e8)).to1;have bigI:∀ {x:Int},-1000<=x->x<=1000->Big 5000 x:=λ {x} h1 h2=>by
  unfold Big;exact eK (show x.natAbs<=1000 by omega) (bA (by decide:1000<2 ^ 10) (fB (by decide) (by decide)))
 have PN:PrN pt pg ps 1 kt kg:=⟨ptl,pgl,λ x hx=>⟨(ptb x hx).1,bigI (by have:=(ptb x hx).1; omega) (by have:=(ptb x hx).2; omega)⟩,λ x hx=>⟨(pgb x hx).1,bigI (by have:=(pgb x hx).1; omega) (by have:=(pgb x hx).2; omega)⟩,bigI (by omega) (by omega),by decide,by decide⟩;have gor8:G8 orl=some (.lst (y4 ord)):=e08.get L3 gor nofun;have slen:(A9 hs ord).length=hs.length:=by rw [aA]; exact olen
 refine ⟨λ σ' H'=>σ'=[some (.ref a),some (.ref bl),some (.ref pk),some (.ref orl),some (.ref ol),some (.ref ll),o6,o7,o8',o9',o10,some (.ref ta),some (.ref ga),some (.ref pr)]/\Same G8 H',?_,?_⟩
 ·refine ⟨_,rfl,_,rfl,ol,pr,_,_,pt,pg,ps,1,10 ^ 9,kt,kg,rfl,(bino e08).l,(bino e08).b,by omega,(bino e08).g,by decide,by omega,by omega,PR,PN,λ jl js H1 e1 _ hjl hJ=>?_⟩
  refine ⟨_,rfl,orl,rfl,⟨_,SqL.of (e1 _ _ gor8)⟩,λ p hp=>?_⟩;refine P6 (u9 (SqL.of (e1 _ _ gor8))) hp (by rw [aA]; omega) (λ i y H'=>∃ k,ord[i]?=some k/\∀ H'':Hp,(∀ b o,b≠p->H' b=some o->H'' b=some o)->JV H'' y (Y0 pt pg ps (hs.getD k ([],[])))) (λ i y Ha Hb ⟨h,h1,h2⟩ st=>⟨h,h1,λ H'' st2=>h2 H'' λ b o hb hh=>st2 b o hb (st b o hb hh)⟩) (λ i y H7 zs N hy e hp' hNN=>?_) (λ zs H7 e hp' len pr'=>?_)
  ·obtain ⟨k,hk,rfl⟩:=T6 hy
   have hkl:=oin (aJ hk);have e17:=e1.trans e;refine ⟨Wk.set (by decide),_,rfl,_,rfl,bl,pr,xs,hs,pt,pg,ps,1,10 ^ 9,kt,kg,rfl,e17.seq (bin e08).l,Bk.same e17 (bin e08).b,by omega,hG,by decide,by omega,by omega,PR.same e17,PN,λ jl2 js2 H8 e8' _ hjl2 hJ2=>?_⟩;have jlen:js2.length=hs.length:=by rw [Paired.length hJ2,aA]
   obtain ⟨v,hv⟩:∃ v,js2[k]?=some v:=⟨_,aF (by omega)⟩;obtain ⟨o,ho,hjv⟩:=Paired.at hJ2 hv;rw [aE,aF hkl] at ho;have eo:o=Y0 pt pg ps (hs.getD k ([],[])):=by
    rw [aG,aF hkl]; exact (aS ho).symm
   subst eo;refine ⟨_,rfl,jl2,_,_,_,rfl,rfl,SqL.of hjl2,w6 hv,hNN _ _ e8' ⟨k,hk,λ H'' st=>?_⟩⟩
   revert hjv
   cases Y0 pt pg ps (hs.getD k ([],[])) with
   | none=>exact λ h=>h
   | some x=>exact λ ⟨b,h1,h2⟩=>⟨b,h1,st _ _ (a0v h2 (e8' _ _ hp') nofun) h2⟩
  ·have hJ7:cS (JV H7) zs ((A9 hs ord).map (Y0 pt pg ps)):=by
    have gen:∀ (zs:List V) (os:List (Option Q2)),zs.length=os.length->(∀ (i:Nat) y o,zs[i]?=some y->os[i]?=some o->JV H7 y o)->cS (JV H7) zs os:=by
     intro zs
     induction zs with
     | nil=>intro os hl _; rw [fF hl.symm]; exact .nil
     | cons z zs ih =>
      intro os hl hq
      cases os with
      | nil=>simp at hl
      | cons o os=>exact .cons (hq 0 z o rfl rfl) (ih os (by simpa using hl) λ i y o' h1 h2=>hq (i+1) y o' (by simpa using h1) (by simpa using h2))
    refine gen _ _ (by rw [len,aA,aA,aA]) λ i y o hy ho=>?_;obtain ⟨k,hk,r⟩:=pr' i y hy;rw [aE,aE,hk] at ho
    cases ho;exact r _ λ b o _ h=>h
   refine ⟨.list (((A9 hs ord).map (Y0 pt pg ps)).map dJ),.list (((A9 hs ord).map (Y0 pt pg ps)).map dJ),.lst (SqL.of (e _ _ hjl)) (b0E (JL.same e hJ)),.lst (SqL.of hp') (b0E hJ7),a6F _,a6F _,aZ (dU _ _) (b3p _),_,rfl,?_⟩;rw [K6 _ (a6F _)];exact a0s ⟨rfl,e1.trans e⟩
 rintro _ G9 ⟨rfl,e9⟩;have e09:=e08.trans e9.to1;have gor9:=e9 _ _ gor8;refine ⟨_,rfl,_,rfl,ol,pr,_,_,pt,pg,ps,1,10 ^ 9,kt,kg,rfl,(bino e09).l,(bino e09).b,by omega,(bino e09).g,by decide,by omega,by omega,PR.same e9,PN,λ jl H1 e1 _ hjl=>?_⟩;obtain ⟨bs,hbs⟩:∃ bs,bs=(aD (A9 hs ord).length).filter (N0 ((A9 hs ord).map (Y0 pt pg ps))):=⟨_,rfl⟩;rw [<- hbs] at hjl;have blin:∀ k∈bs,k<ord.length:=λ k hk=>by
  rw [hbs] at hk;have:=bO.mp (dL.mp hk).1;omega
 have blen:bs.length<=16:=by
  rw [hbs];refine aZ (eO _ _) ?_;rw [cQ]; omega
 refine ⟨jl,rfl,⟨_,SqL.of hjl⟩,λ p hp=>?_⟩;refine N9 (xs:=y4 bs) (u9 (SqL.of hjl)) hp (by rw [aA]; omega) (λ x=>.int ((ord.getD (vI x).toNat 0:Nat):Int)) (λ j x H5 N hx e hN=>?_) ?_
 ·obtain ⟨k,hk',rfl⟩:=T6 hx
  exact ⟨Wk.set (by decide),_,rfl,_,rfl,orl,_,_,_,rfl,rfl,SqL.of (e _ _ (e1 _ _ gor9)),w6 (gds (blin k (aJ hk'))),hN⟩
 have em:(y4 bs).map (λ x=>V.int ((ord.getD (vI x).toNat 0:Nat):Int))=((bs.map λ k=>ord.getD k 0).map λ (k:Nat)=>(k:Int)).map V.int:=by
  rw [aM,aM,aM]; rfl
 rw [em];have t2:=Same.new hp (.lst (((bs.map λ k=>ord.getD k 0).map λ (k:Nat)=>(k:Int)).map V.int));refine ⟨p,_,rfl,SqL.of upd_same,by rw [aA,aA]; omega,λ s8 ns' hs8 hp8 hs'=>?_⟩;have pm:=a9B hpm (pt:=pt) (pg:=pg) (ps:=ps);rw [<- hbs] at pm;have ev:(((aD hs.length).filter (N0 (hs.map (Y0 pt pg ps)))).map λ (k:Nat)=>(k:Int)).map V.int=y4 ((aD hs.length).filter (N0 (hs.map (Y0 pt pg ps)))):=by rw [aM]; rfl
 rw [b0J hp8 hs' pm ((Up.range _).filter _),ev];have t3:=Same.new hs8 (.lst (y4 ((aD hs.length).filter (N0 (hs.map (Y0 pt pg ps))))));have e3:=e1.trans (t2.trans t3);have e93:=e9.trans e3;refine ⟨_,rfl,_,rfl,bl,pr,xs,hs,pt,pg,ps,1,10 ^ 9,kt,kg,rfl,e3.seq (bin e09).l,Bk.same e3 (bin e09).b,by omega,hG,by decide,by omega,by omega,PR.same e93,PN,λ jl2 H8 e8' _ hjl2=>?_⟩;refine ⟨a0y _,a0y _,a4I (e8' _ _ upd_same),a4I hjl2,a0Z _,a0Z _,aZ (dU _ _) (aZ (a2Q _) (by decide)),?_⟩;rw [K6 _ (a0Z _)];exact q _
end
end Rim
namespace L2
open PySem PySem.W
theorem b3V {K:Frag} {C:Addr} {B:List Value} {nid:String} (q:excIn K C B nid=true):∃ nm qn N bs bm hdct sn sub ab col dd k0 k1 k2 k3 k5,K.lookup C=some (excClassObj nm qn C N bs bm hdct sn sub ab col dd k0 k1 k2 k3 k5 nid)/\nsOkIn K N=true/\nsIn K N "__init__"=some none/\tailIn K B bm=true:=by
 unfold excIn at q
 split at q
 ·rename_i e1 e2 e3 lk
  split at q
  ·rename_i C' bm w0 w1 w2 w3 nn w5 em es
   simp only [dD,beq_iff_eq,Bool.not_eq_true'] at q;obtain ⟨⟨⟨⟨⟨u1,u2⟩,u3⟩,u4⟩,u5⟩,u6⟩:=q
   cases u1
   cases u2;obtain ⟨n1,n2,n3,n4,n5,n6,n7,n8,n9,n10,n11⟩:=e2;obtain ⟨ls⟩:=e3
   replace em:n3=_:=em
   replace u3:n11=false:=u3
   replace es:ls=_:=es
   subst em u3 es;exact ⟨n1,n5,n4,n2,bm,n6,n7,n8,n9,n10,e1,w0,w1,w2,w3,w5,lk,u5,u6,u4⟩
  ·cases q
 ·cases q
def FunI (K:Frag) (x qual:Str) (st:Stmt) (f:Addr) (cd:Value):Prop:=∃ oc od kV dc pm an ct sl,K.lookup f=some ⟨oc,od,.func (fnOf x qual (J5 st) (v5 st) (i5 st) .none kV dc pm an cd ct),sl⟩/\codeIn K cd qual=true/\keepIn K (.ref f)=true
theorem fun_in {K:Frag} {x qual:Str} {st:Stmt} {f:Addr} {cd oc kV dc pm ct:Value} {od an:Option Addr} {sl:Array (Option Value)} (l:K.lookup f=some ⟨oc,od,.func (fnOf x qual (J5 st) (v5 st) (i5 st) .none kV dc pm an cd ct),sl⟩) (c:codeIn K cd qual=true) (k:keepIn K (.ref f)=true):FunI K x qual st f cd:=⟨_,_,_,_,_,_,_,_,l,c,k⟩
theorem FunI.fn {K:Frag} {x qual:Str} {st:Stmt} {f:Addr} {cd:Value} (h:FunI K x qual st f cd):∃ fd,Fun K x qual st f fd/\fd.code=cd/\keepIn K (.ref f)=true:=by
 obtain ⟨_,_,_,_,_,_,_,_,l,c,k⟩:=h;exact ⟨_,a9h l c k,rfl,k⟩
theorem Fun.b1 {K:Frag} {x qual:Str} {st:Stmt} {f:Addr} {fd:FuncData} {p0:Str} (F:Fun K x qual st f fd) (h:∀ (kV doc pm:Value) (an:Option Addr) (cdv ct v0:Value),bindArgs (fnOf x qual (J5 st) (v5 st) (i5 st) .none kV doc pm an cdv ct) ⟨[v0],[]⟩=pure [(p0,v0)]):Binds K fd [p0] [] :=
 F.binds λ a b c d e g us hl=>match us,hl with | [v0],_=>h a b c d e g v0
theorem Fun.b2 {K:Frag} {x qual:Str} {st:Stmt} {f:Addr} {fd:FuncData} {p0 p1:Str} (F:Fun K x qual st f fd) (h:∀ (kV doc pm:Value) (an:Option Addr) (cdv ct v0 v1:Value),bindArgs (fnOf x qual (J5 st) (v5 st) (i5 st) .none kV doc pm an cdv ct) ⟨[v0,v1],[]⟩=pure [(p0,v0),(p1,v1)]):Binds K fd [p0,p1] [] :=
 F.binds λ a b c d e g us hl=>match us,hl with | [v0,v1],_=>h a b c d e g v0 v1
theorem Fun.b3 {K:Frag} {x qual:Str} {st:Stmt} {f:Addr} {fd:FuncData} {p0 p1 p2:Str} (F:Fun K x qual st f fd) (h:∀ (kV doc pm:Value) (an:Option Addr) (cdv ct v0 v1 v2:Value),bindArgs (fnOf x qual (J5 st) (v5 st) (i5 st) .none kV doc pm an cdv ct) ⟨[v0,v1,v2],[]⟩=pure [(p0,v0),(p1,v1),(p2,v2)]):Binds K fd [p0,p1,p2] [] :=
 F.binds λ a b c d e g us hl=>match us,hl with | [v0,v1,v2],_=>h a b c d e g v0 v1 v2
theorem Fun.b4 {K:Frag} {x qual:Str} {st:Stmt} {f:Addr} {fd:FuncData} {p0 p1 p2 p3:Str} (F:Fun K x qual st f fd) (h:∀ (kV doc pm:Value) (an:Option Addr) (cdv ct v0 v1 v2 v3:Value),bindArgs (fnOf x qual (J5 st) (v5 st) (i5 st) .none kV doc pm an cdv ct) ⟨[v0,v1,v2,v3],[]⟩=pure [(p0,v0),(p1,v1),(p2,v2),(p3,v3)]):Binds K fd [p0,p1,p2,p3] [] :=
 F.binds λ a b c d e g us hl=>match us,hl with | [v0,v1,v2,v3],_=>h a b c d e g v0 v1 v2 v3
theorem Fun.b5 {K:Frag} {x qual:Str} {st:Stmt} {f:Addr} {fd:FuncData} {p0 p1 p2 p3 p4:Str} (F:Fun K x qual st f fd) (h:∀ (kV doc pm:Value) (an:Option Addr) (cdv ct v0 v1 v2 v3 v4:Value),bindArgs (fnOf x qual (J5 st) (v5 st) (i5 st) .none kV doc pm an cdv ct) ⟨[v0,v1,v2,v3,v4],[]⟩=pure [(p0,v0),(p1,v1),(p2,v2),(p3,v3),(p4,v4)]):Binds K fd [p0,p1,p2,p3,p4] [] :=
 F.binds λ a b c d e g us hl=>match us,hl with | [v0,v1,v2,v3,v4],_=>h a b c d e g v0 v1 v2 v3 v4
end L2
namespace Rim
open PySem L2 Fr
theorem all_mk {l:W.OpenLaw} {w:World} {K:W.Frag} {h:Heap} {mg:Str->Option Value} {fa:Addr} {Ct Pt:Addr} (X:K.In h) (G:h.Ns mainGlobals mg) (hfa:mg "law"=some (.ref fa))
    {f1 f2 f3 f4 f5 f6 f7 f8 f9 f10 f11 f12 f13 f14 f15 f16 f17 f18 f19 f20 f21 f22 f23 f24 f25 f26 f27 f28 f29 f30 f31 f32 f33 f34 f35 f36 f37 f38 f39 f40 f41 f42 f43 f44 CB dS tS0 tS1 tS2 tS3 cE_NoHouse:Addr} {cd1 cd2 cd3 cd4 cd5 cd6 cd7 cd8 cd9 cd10 cd11 cd12 cd13 cd15 cd16 cd17 cd18 cd19 cd20 cd21 cd22 cd23 cd24 cd25 cd26 cd27 cd28 cd29 cd30 cd31 cd32 cd33 cd34 cd35 cd36 cd37 cd38 cd39 cd40 cd41 cd42 cd43 ocL kVL dcL pmL cdL ctL:Value} {odL anL:Option Addr} {slL:Array (Option Value)} {odS0 odS1 odS2 odS3:Option Addr} {slS0 slS1 slS2 slS3:Array (Option Value)} {eS:Array DictEntry} {nS nS0 nS1 nS2 nS3:Nat} {tkA tkB tkC tkD:Tok} {oC_NOUGHT:Addr} {odC_NOUGHT:Option Addr} {slC_NOUGHT:Array (Option Value)} {nC_NOUGHT:Nat} {tkC0_NOUGHT tkC1_NOUGHT:Tok}
    (aB:W.nsIn K mainGlobals "Board"=some (some (.ref CB)))
    (a1:W.nsIn K mainGlobals "_law_cell_at"=some (some (.ref f1)))
    (l1:FunI K "_law_cell_at" "_law_cell_at" a9e f1 cd1)
    (a2:W.nsIn K mainGlobals "_law_draws"=some (some (.ref f2)))
    (l2:FunI K "_law_draws" "_law_draws" a6I f2 cd2)
    (a3:W.nsIn K mainGlobals "_law_near"=some (some (.ref f3)))
    (l3:FunI K "_law_near" "_law_near" b0x f3 cd3)
    (a4:W.nsIn K mainGlobals "_law_a_book"=some (some (.ref f4)))
    (l4:FunI K "_law_a_book" "_law_a_book" a1A f4 cd4)
    (a5:W.nsIn K mainGlobals "_law_a_order"=some (some (.ref f5)))
    (l5:FunI K "_law_a_order" "_law_a_order" S4 f5 cd5)
    (a6:W.nsIn K mainGlobals "house_of"=some (some (.ref f6)))
    (l6:FunI K "house_of" "house_of" b4e f6 cd6)
    (a7:W.nsIn K mainGlobals "gives_no_less"=some (some (.ref f7)))
    (l7:FunI K "gives_no_less" "gives_no_less" R0 f7 cd7)
    (a8:W.nsIn K mainGlobals "common_divisor"=some (some (.ref f8)))
    (l8:FunI K "common_divisor" "common_divisor" b3i f8 cd8)
    (a9:W.nsIn K mainGlobals "lowest"=some (some (.ref f9)))
    (l9:FunI K "lowest" "lowest" b3b f9 cd9)
    (a10:W.nsIn K mainGlobals "compared"=some (some (.ref f10)))
    (l10:FunI K "compared" "compared" a0D f10 cd10)
    (a11:W.nsIn K mainGlobals "least_times"=some (some (.ref f11)))
    (l11:FunI K "least_times" "least_times" Q1 f11 cd11)
    (a12:W.nsIn K mainGlobals "share_alone"=some (some (.ref f12)))
    (l12:FunI K "share_alone" "share_alone" Q4 f12 cd12)
    (a13:W.findIn K (.ref CB) "__init__"=some (some (.ref f13)))
    (l13:FunI K "__init__" "Board.__init__" a5h f13 cd13)
    (n13:W.isFn K (.ref f13)=true)
    (a14:W.findIn K (.ref CB) "coming"=some (some (.ref f14)))
    (l14:FunI K "coming" "Board.coming" a4V f14 (.ref Ct))
    (n14:W.isFn K (.ref f14)=true)
    (a15:W.findIn K (.ref CB) "is_ahead"=some (some (.ref f15)))
    (l15:FunI K "is_ahead" "Board.is_ahead" a6e f15 cd15)
    (n15:W.isFn K (.ref f15)=true)
    (a16:W.findIn K (.ref CB) "going"=some (some (.ref f16)))
    (l16:FunI K "going" "Board.going" a6O f16 cd16)
    (n16:W.isFn K (.ref f16)=true)
    (a17:W.nsIn K mainGlobals "swept"=some (some (.ref f17)))
    (l17:FunI K "swept" "swept" a6h f17 cd17)
    (a18:W.findIn K (.ref CB) "exchange"=some (some (.ref f18)))
    (l18:FunI K "exchange" "Board.exchange" R7 f18 cd18)
    (n18:W.isFn K (.ref f18)=true)
    (a19:W.findIn K (.ref CB) "amounts"=some (some (.ref f19)))
    (l19:FunI K "amounts" "Board.amounts" b0P f19 cd19)
    (n19:W.isFn K (.ref f19)=true)
    (a20:W.findIn K (.ref CB) "weights"=some (some (.ref f20)))
    (l20:FunI K "weights" "Board.weights" b3O f20 cd20)
    (n20:W.isFn K (.ref f20)=true)
    (a21:W.nsIn K mainGlobals "greatest"=some (some (.ref f21)))
    (l21:FunI K "greatest" "greatest" P1 f21 cd21)
    (a22:W.nsIn K mainGlobals "house_rows"=some (some (.ref f22)))
    (l22:FunI K "house_rows" "house_rows" T3 f22 cd22)
    (a23:W.nsIn K mainGlobals "greatest_earned"=some (some (.ref f23)))
    (l23:FunI K "greatest_earned" "greatest_earned" a0g f23 cd23)
    (a24:W.nsIn K mainGlobals "held_against"=some (some (.ref f24)))
    (l24:FunI K "held_against" "held_against" a9C f24 cd24)
    (a25:W.nsIn K mainGlobals "share"=some (some (.ref f25)))
    (l25:FunI K "share" "share" a6z f25 cd25)
    (a26:W.nsIn K mainGlobals "scale"=some (some (.ref f26)))
    (l26:FunI K "scale" "scale" a4X f26 cd26)
    (a27:W.nsIn K mainGlobals "are_like_counts"=some (some (.ref f27)))
    (l27:FunI K "are_like_counts" "are_like_counts" a9x f27 cd27)
    (a28:W.nsIn K mainGlobals "divided"=some (some (.ref f28)))
    (l28:FunI K "divided" "divided" a1H f28 cd28)
    (a29:W.nsIn K mainGlobals "multiplied"=some (some (.ref f29)))
    (l29:FunI K "multiplied" "multiplied" X3 f29 cd29)
    (a30:W.nsIn K mainGlobals "moved"=some (some (.ref f30)))
    (l30:FunI K "moved" "moved" a0k f30 cd30)
    (a31:W.nsIn K mainGlobals "greatest_given"=some (some (.ref f31)))
    (l31:FunI K "greatest_given" "greatest_given" a1O f31 cd31)
    (a32:W.nsIn K mainGlobals "growth"=some (some (.ref f32)))
    (l32:FunI K "growth" "growth" a4H f32 cd32)
    (a33:W.nsIn K mainGlobals "without"=some (some (.ref f33)))
    (l33:FunI K "without" "without" a2O f33 cd33)
    (a34:W.nsIn K mainGlobals "share_of_others"=some (some (.ref f34)))
    (l34:FunI K "share_of_others" "share_of_others" a4S f34 cd34)
    (a35:W.nsIn K mainGlobals "_law_one_right"=some (some (.ref f35)))
    (l35:FunI K "_law_one_right" "_law_one_right" B8 f35 cd35)
    (a36:W.nsIn K mainGlobals "greatest_floor"=some (some (.ref f36)))
    (l36:FunI K "greatest_floor" "greatest_floor" a1z f36 cd36)
    (a37:W.nsIn K mainGlobals "rim_of"=some (some (.ref f37)))
    (l37:FunI K "rim_of" "rim_of" a6w f37 cd37)
    (a38:W.nsIn K mainGlobals "levels"=some (some (.ref f38)))
    (l38:FunI K "levels" "levels" a0c f38 cd38)
    (a39:W.nsIn K mainGlobals "over_one_bottom"=some (some (.ref f39)))
    (l39:FunI K "over_one_bottom" "over_one_bottom" N5 f39 cd39)
    (a40:W.nsIn K mainGlobals "come_to"=some (some (.ref f40)))
    (l40:FunI K "come_to" "come_to" a5a f40 cd40)
    (a41:W.nsIn K mainGlobals "worths"=some (some (.ref f41)))
    (l41:FunI K "worths" "worths" V4 f41 cd41)
    (a42:W.nsIn K mainGlobals "judged"=some (some (.ref f42)))
    (l42:FunI K "judged" "judged" U8 f42 cd42)
    (a43:W.nsIn K mainGlobals "best_at"=some (some (.ref f43)))
    (l43:FunI K "best_at" "best_at" R6 f43 cd43)
    (a44:W.nsIn K mainGlobals "law"=some (some (.ref f44)))
    (l44:K.lookup f44=some ⟨ocL,odL,.func (W.fnOf "law" "law" (J5 a2j) (v5 a2j) (i5 a2j) .none kVL dcL pmL anL cdL ctL),slL⟩)
    (c44:W.codeIn K cdL "law"=true)
    (k44:W.keepIn K (.ref f44)=true)
    (z1:W.nsIn K mainGlobals "len"=some none)
    (z2:W.nsIn K mainGlobals "all"=some none)
    (z3:W.nsIn K mainGlobals "any"=some none)
    (z4:W.nsIn K mainGlobals "max"=some none)
    (z5:W.nsIn K mainGlobals "min"=some none)
    (z6:W.nsIn K mainGlobals "sum"=some none)
    (z7:W.nsIn K mainGlobals "tuple"=some none)
    (z8:W.nsIn K mainGlobals "list"=some none)
    (z9:W.nsIn K mainGlobals "int"=some none)
    (z10:W.nsIn K mainGlobals "bool"=some none)
    (z11:W.nsIn K mainGlobals "range"=some none)
    (z12:W.nsIn K mainGlobals "isinstance"=some none)
    (z13:W.nsIn K mainGlobals "abs"=some none)
    (z14:W.nsIn K mainGlobals "zip"=some none)
    (z15:W.nsIn K mainGlobals "enumerate"=some none)
    (z16:W.nsIn K mainGlobals "ValueError"=some none)
    (z17:W.nsIn K mainGlobals "sorted"=some none)
    (bp:W.plainGet K CB Str.empty=true)
    (bh:W.hasDictIn K CB=true)
    (bo:W.plainOver K CB=true)
    (bs:W.findIn K (.ref CB) "__setattr__"=some (some (.builtin "object.__setattr__")))
    (b_many:W.findIn K (.ref CB) "many"=some none)
    (b_scale:W.findIn K (.ref CB) "scale"=some none)
    (b_cells:W.findIn K (.ref CB) "cells"=some none)
    (b_outs:W.findIn K (.ref CB) "outs"=some none)
    (b_ins:W.findIn K (.ref CB) "ins"=some none)
    (bm:W.makesIn K CB=true)
    (bk:W.keepIn K (.ref CB)=true)
    (s1:W.nsIn K mainGlobals "SIZE_SIGNS"=some (some (.ref dS)))
    (s3:K.lookup dS=some ⟨.type "dict",none,.dict eS nS,#[]⟩)
    (s4:W.KeysLit w.params eS.toList)
    (sa0:W.nsIn K dS "any"=some (some (.ref tS0)))
    (sb0:K.lookup tS0=some ⟨.type "tuple",odS0,.seq #[] nS0,slS0⟩)
    (sa1:W.nsIn K dS "one"=some (some (.ref tS1)))
    (sb1:K.lookup tS1=some ⟨.type "tuple",odS1,.seq #[.int 1 tkA,.int (-1) tkB] nS1,slS1⟩)
    (sa2:W.nsIn K dS "less"=some (some (.ref tS2)))
    (sb2:K.lookup tS2=some ⟨.type "tuple",odS2,.seq #[.int (-1) tkC] nS2,slS2⟩)
    (sa3:W.nsIn K dS "more"=some (some (.ref tS3)))
    (sb3:K.lookup tS3=some ⟨.type "tuple",odS3,.seq #[.int 1 tkD] nS3,slS3⟩)
    (xmNoHouse:W.nsIn K mainGlobals "NoHouse"=some (some (.ref cE_NoHouse)))
    (xoNoHouse:W.excIn K cE_NoHouse [.type "ValueError",.type "Exception",.type "BaseException",.type "object"] "ValueError.__new__"=true)
    (xgaNoHouse:W.findIn K (.ref cE_NoHouse) "__getattribute__"=some (some (.builtin "BaseException.__getattribute__")))
    (xgnNoHouse:W.findIn K (.ref cE_NoHouse) "__getattr__"=some none)
    (xcaNoHouse:W.findIn K (.ref cE_NoHouse) "__class__"=some (some (.builtin "object.__class__")))
    (xmoNoHouse:W.mroIn K cE_NoHouse (.type "object")=some true)
    (xmbNoHouse:W.mroIn K cE_NoHouse (.type "BaseException")=some true)
    (cmNOUGHT:W.nsIn K mainGlobals "NOUGHT"=some (some (.ref oC_NOUGHT)))
    (clNOUGHT:K.lookup oC_NOUGHT=some ⟨.type "tuple",odC_NOUGHT,.seq #[.int 0 tkC0_NOUGHT,.int 1 tkC1_NOUGHT] nC_NOUGHT,slC_NOUGHT⟩)
   :∃ fd:FuncData,(∀ (s:Shared) (v:Value),BindsTo s fd ⟨[v],[]⟩ [("script",v)])/\∀ base:Heap,K.In base->base.Ns mainGlobals mg->X5 mg base->(∀ t∈[(Ct,Pt)],W.CodeHd base t.1 t.2)->FnOk l.prog w K mg base E4 10 fa fd ["script"] (a7U K Pt):=by
  have e:=hfa.symm.trans (W.mg_of X G a44)
  cases e;obtain ⟨_,F1,hc1,k1⟩:=l1.fn;obtain ⟨_,F2,hc2,k2⟩:=l2.fn;obtain ⟨_,F3,hc3,k3⟩:=l3.fn;obtain ⟨_,F4,hc4,k4⟩:=l4.fn;obtain ⟨_,F5,hc5,k5⟩:=l5.fn;obtain ⟨_,F6,hc6,k6⟩:=l6.fn;obtain ⟨_,F7,hc7,k7⟩:=l7.fn;obtain ⟨_,F8,hc8,k8⟩:=l8.fn;obtain ⟨_,F9,hc9,k9⟩:=l9.fn;obtain ⟨_,F10,hc10,k10⟩:=l10.fn;obtain ⟨_,F11,hc11,k11⟩:=l11.fn;obtain ⟨_,F12,hc12,k12⟩:=l12.fn;obtain ⟨_,F13,hc13,k13⟩:=l13.fn;obtain ⟨_,F14,hc14,k14⟩:=l14.fn;obtain ⟨_,F15,hc15,k15⟩:=l15.fn;obtain ⟨_,F16,hc16,k16⟩:=l16.fn;obtain ⟨_,F17,hc17,k17⟩:=l17.fn;obtain ⟨_,F18,hc18,k18⟩:=l18.fn;obtain ⟨_,F19,hc19,k19⟩:=l19.fn;obtain ⟨_,F20,hc20,k20⟩:=l20.fn;obtain ⟨_,F21,hc21,k21⟩:=l21.fn;obtain ⟨_,F22,hc22,k22⟩:=l22.fn;obtain ⟨_,F23,hc23,k23⟩:=l23.fn;obtain ⟨_,F24,hc24,k24⟩:=l24.fn;obtain ⟨_,F25,hc25,k25⟩:=l25.fn;obtain ⟨_,F26,hc26,k26⟩:=l26.fn;obtain ⟨_,F27,hc27,k27⟩:=l27.fn;obtain ⟨_,F28,hc28,k28⟩:=l28.fn;obtain ⟨_,F29,hc29,k29⟩:=l29.fn;obtain ⟨_,F30,hc30,k30⟩:=l30.fn;obtain ⟨_,F31,hc31,k31⟩:=l31.fn;obtain ⟨_,F32,hc32,k32⟩:=l32.fn;obtain ⟨_,F33,hc33,k33⟩:=l33.fn;obtain ⟨_,F34,hc34,k34⟩:=l34.fn;obtain ⟨_,F35,hc35,k35⟩:=l35.fn;obtain ⟨_,F36,hc36,k36⟩:=l36.fn;obtain ⟨_,F37,hc37,k37⟩:=l37.fn;obtain ⟨_,F38,hc38,k38⟩:=l38.fn;obtain ⟨_,F39,hc39,k39⟩:=l39.fn;obtain ⟨_,F40,hc40,k40⟩:=l40.fn;obtain ⟨_,F41,hc41,k41⟩:=l41.fn;obtain ⟨_,F42,hc42,k42⟩:=l42.fn;obtain ⟨_,F43,hc43,k43⟩:=l43.fn;have F44:=a9h (st:=a2j) l44 c44 k44;have b1:Binds K _ ["script","k"] []:=F1.b2 λ _ _ _ _ _ _ _ _=>rfl;have b2:Binds K _ ["cell","many","base"] []:=F2.b3 λ _ _ _ _ _ _ _ _ _=>rfl;have b3:Binds K _ ["house","picks","far"] []:=F3.b3 λ _ _ _ _ _ _ _ _ _=>rfl;have b4:Binds K _ ["script","at","most","far"] []:=F4.b4 λ _ _ _ _ _ _ _ _ _ _=>rfl;have b5:Binds K _ ["many","picks"] []:=F5.b2 λ _ _ _ _ _ _ _ _=>rfl;have b6:Binds K _ ["book","number"] []:=F6.b2 λ _ _ _ _ _ _ _ _=>rfl;have b7:Binds K _ ["house","other"] []:=F7.b2 λ _ _ _ _ _ _ _ _=>rfl;have b8:Binds K _ ["one","other"] []:=F8.b2 λ _ _ _ _ _ _ _ _=>rfl;have b9:Binds K _ ["top","bottom"] []:=F9.b2 λ _ _ _ _ _ _ _ _=>rfl;have b10:Binds K _ ["one","other"] []:=F10.b2 λ _ _ _ _ _ _ _ _=>rfl;have b11:Binds K _ ["takes","others"] []:=F11.b2 λ _ _ _ _ _ _ _ _=>rfl;have b12:Binds K _ ["book","number"] []:=F12.b2 λ _ _ _ _ _ _ _ _=>rfl;have b13:Binds K _ ["self","goal","rows","bounds"] []:=F13.b4 λ _ _ _ _ _ _ _ _ _ _=>rfl;have b14:Binds K _ ["self"] []:=F14.b1 λ _ _ _ _ _ _ _=>rfl;have b15:Binds K _ ["self","row","other","column"] []:=F15.b4 λ _ _ _ _ _ _ _ _ _ _=>rfl;have b16:Binds K _ ["self","column"] []:=F16.b2 λ _ _ _ _ _ _ _ _=>rfl;have b17:Binds K _ ["cells","lead","column","scale"] []:=F17.b4 λ _ _ _ _ _ _ _ _ _ _=>rfl;have b18:Binds K _ ["self","row","column"] []:=F18.b3 λ _ _ _ _ _ _ _ _ _=>rfl;have b19:Binds K _ ["self"] []:=F19.b1 λ _ _ _ _ _ _ _=>rfl;have b20:Binds K _ ["self"] []:=F20.b1 λ _ _ _ _ _ _ _=>rfl;have b21:Binds K _ ["goal","rows","bounds"] []:=F21.b3 λ _ _ _ _ _ _ _ _ _=>rfl;have b22:Binds K _ ["houses","sizes"] []:=F22.b2 λ _ _ _ _ _ _ _ _=>rfl;have b23:Binds K _ ["houses","house","sizes"] []:=F23.b3 λ _ _ _ _ _ _ _ _ _=>rfl;have b24:Binds K _ ["houses","house","sizes"] []:=F24.b3 λ _ _ _ _ _ _ _ _ _=>rfl;have b25:Binds K _ ["book","number","sizes"] []:=F25.b3 λ _ _ _ _ _ _ _ _ _=>rfl;have b26:Binds K _ ["book","number"] []:=F26.b2 λ _ _ _ _ _ _ _ _=>rfl;have b27:Binds K _ ["house","other"] []:=F27.b2 λ _ _ _ _ _ _ _ _=>rfl;have b28:Binds K _ ["one","other"] []:=F28.b2 λ _ _ _ _ _ _ _ _=>rfl;have b29:Binds K _ ["one","other"] []:=F29.b2 λ _ _ _ _ _ _ _ _=>rfl;have b30:Binds K _ ["before","after","number","sizes"] []:=F30.b4 λ _ _ _ _ _ _ _ _ _ _=>rfl;have b31:Binds K _ ["houses","house","sizes"] []:=F31.b3 λ _ _ _ _ _ _ _ _ _=>rfl;have b32:Binds K _ ["book","number","sizes"] []:=F32.b3 λ _ _ _ _ _ _ _ _ _=>rfl;have b33:Binds K _ ["houses","number"] []:=F33.b2 λ _ _ _ _ _ _ _ _=>rfl;have b34:Binds K _ ["book","number","sizes"] []:=F34.b3 λ _ _ _ _ _ _ _ _ _=>rfl;have b35:Binds K _ ["book","number","other","at","sizes"] []:=F35.b5 λ _ _ _ _ _ _ _ _ _ _ _=>rfl;have b36:Binds K _ ["houses","number","sizes"] []:=F36.b3 λ _ _ _ _ _ _ _ _ _=>rfl;have b37:Binds K _ ["book","sizes"] []:=F37.b2 λ _ _ _ _ _ _ _ _=>rfl;have b38:Binds K _ ["book","sizes"] []:=F38.b2 λ _ _ _ _ _ _ _ _=>rfl;have b39:Binds K _ ["ones"] []:=F39.b1 λ _ _ _ _ _ _ _=>rfl;have b40:Binds K _ ["amounts","tops"] []:=F40.b2 λ _ _ _ _ _ _ _ _=>rfl;have b41:Binds K _ ["book","prices"] []:=F41.b2 λ _ _ _ _ _ _ _ _=>rfl;have b42:Binds K _ ["book","prices"] []:=F42.b2 λ _ _ _ _ _ _ _ _=>rfl;have b43:Binds K _ ["book","prices"] []:=F43.b2 λ _ _ _ _ _ _ _ _=>rfl;have T:w8 mg:=⟨W.mg_none_of X G z1,W.mg_none_of X G z2,W.mg_none_of X G z3,W.mg_none_of X G z4,W.mg_none_of X G z5,W.mg_none_of X G z6,W.mg_none_of X G z7,W.mg_none_of X G z8,W.mg_none_of X G z9,W.mg_none_of X G z10,W.mg_none_of X G z11,W.mg_none_of X G z12,W.mg_none_of X G z13,W.mg_none_of X G z14,W.mg_none_of X G z15,W.mg_none_of X G z16,W.mg_none_of X G z17⟩;have TBd:TB K CB:=⟨⟨bp,bh,bo,bs⟩,b_many,b_scale,b_cells,b_outs,b_ins⟩;have SG:Sg K w.params mg dS:=⟨W.mg_of X G s1,⟨_,_,s3,s4⟩,λ z hz=>by
    rcases hz with rfl | rfl | rfl | rfl
    . exact ⟨_,sa0,λ H=>.inr ⟨_,_,_,sb0,rfl,rfl,(by show 0<=sizeLine; decide),.nil⟩⟩
    . exact ⟨_,sa1,λ H=>.inr ⟨_,_,_,sb1,rfl,rfl,(by show 2<=sizeLine; decide),.cons ⟨_,rfl⟩ (.cons ⟨_,rfl⟩ .nil)⟩⟩
    . exact ⟨_,sa2,λ H=>.inr ⟨_,_,_,sb2,rfl,rfl,(by show 1<=sizeLine; decide),.cons ⟨_,rfl⟩ .nil⟩⟩
    . exact ⟨_,sa3,λ H=>.inr ⟨_,_,_,sb3,rfl,rfl,(by show 1<=sizeLine; decide),.cons ⟨_,rfl⟩ .nil⟩⟩
    ⟩
  have C_NOUGHT:a6S K mg oC_NOUGHT:=⟨W.mg_of X G cmNOUGHT,λ H=>.inr ⟨_,_,_,clNOUGHT,rfl,rfl,(by show 2<=sizeLine; decide),.cons ⟨_,rfl⟩ (.cons ⟨_,rfl⟩ .nil)⟩⟩;have k_NoHouse:b3f K cE_NoHouse:=⟨b3V xoNoHouse,xgaNoHouse,xgnNoHouse,xcaNoHouse,xmoNoHouse,xmbNoHouse⟩;have m_NoHouse:=W.mg_of X G xmNoHouse;refine ⟨W.fnOf "law" "law" (J5 a2j) (v5 a2j) (i5 a2j) .none kVL dcL pmL anL cdL ctL,λ s v=>.of_eq rfl,λ base _ _ BM hCH=>?_⟩;have g1:=λ n:Nat=>b1Z (mg:=mg) (P:=l.prog) (w:=w) (base:=base) (n:=n) F1 T;have g2:=λ n:Nat=>a9X (mg:=mg) (P:=l.prog) (w:=w) (base:=base) (n:=n) F2 T;have g3:=λ n:Nat=>b2q (mg:=mg) (P:=l.prog) (w:=w) (base:=base) (n:=n) F3 T;have g4:=λ n:Nat=>b0n (mg:=mg) (P:=l.prog) (w:=w) (base:=base) F4 T (g1 (n+0)) b1 k1 (W.mg_of X G a1) (g2 (n+0)) b2 k2 (W.mg_of X G a2) (g3 (n+0)) b3 k3 (W.mg_of X G a3);have g5:=λ n:Nat=>b0b (mg:=mg) (P:=l.prog) (w:=w) (base:=base) (n:=n) F5 T;have g6:=λ n:Nat=>b3k (mg:=mg) (P:=l.prog) (w:=w) (base:=base) (n:=n) F6 T k_NoHouse m_NoHouse;have g7:=λ n:Nat=>b3z (mg:=mg) (P:=l.prog) (w:=w) (base:=base) (n:=n) F7 T;have g8:=λ n:Nat=>b3m (mg:=mg) (P:=l.prog) (w:=w) (base:=base) (n:=n) F8 T;have g9:=λ n:Nat=>b3C (mg:=mg) (P:=l.prog) (w:=w) (base:=base) F9 T ⟨g8 (n+0),b8,k8,(W.mg_of X G a8)⟩;have g10:=λ n:Nat=>b2g (mg:=mg) (P:=l.prog) (w:=w) (base:=base) (n:=n) F10;have g11:=λ n:Nat=>b3s (mg:=mg) (P:=l.prog) (w:=w) (base:=base) F11 T C_NOUGHT ⟨g9 (n+0),b9,k9,(W.mg_of X G a9)⟩ ⟨g10 (n+1),b10,k10,(W.mg_of X G a10)⟩;have g12:=λ n:Nat=>b3Z (mg:=mg) (P:=l.prog) (w:=w) (base:=base) F12 T ⟨g6 (n+2),b6,k6,(W.mg_of X G a6)⟩ ⟨g7 (n+2),b7,k7,(W.mg_of X G a7)⟩ ⟨g11 (n+0),b11,k11,(W.mg_of X G a11)⟩ ⟨g10 (n+2),b10,k10,(W.mg_of X G a10)⟩;have g13:=λ n:Nat=>b1j (mg:=mg) (P:=l.prog) (w:=w) (base:=base) (n:=n) F13 T TBd;have g14:=λ n:Nat=>a8N (mg:=mg) (P:=l.prog) (w:=w) (base:=base) (n:=n) F14 hc14 (hCH _ (.head _)) BM T TBd;have g15:=λ n:Nat=>a9g (mg:=mg) (P:=l.prog) (w:=w) (base:=base) (n:=n) F15 TBd;have g16:=λ n:Nat=>a9n (mg:=mg) (P:=l.prog) (w:=w) (base:=base) F16 T TBd ⟨g15 (n+0),b15,⟨a15,n15,k15⟩⟩;have g17:=λ n:Nat=>a9A (mg:=mg) (P:=l.prog) (w:=w) (base:=base) (n:=n) F17 T;have g18:=λ n:Nat=>a5G (mg:=mg) (P:=l.prog) (w:=w) (base:=base) F18 TBd ⟨g17 (n+0),b17,k17,(W.mg_of X G a17)⟩;have g19:=λ n:Nat=>b1u (mg:=mg) (P:=l.prog) (w:=w) (base:=base) (n:=n) F19 T TBd;have g20:=λ n:Nat=>b3t (mg:=mg) (P:=l.prog) (w:=w) (base:=base) (n:=n) F20 T TBd;have g21:=λ n:Nat=>a5B (mg:=mg) (P:=l.prog) (w:=w) (base:=base) F21 TBd ⟨⟨bm,a13,n13,bk⟩,g13 (n+2),b13,W.mg_of X G aB,⟨g14 (n+0),b14,⟨a14,n14,k14⟩⟩,⟨g16 (n+1),b16,⟨a16,n16,k16⟩⟩,⟨g18 (n+1),b18,⟨a18,n18,k18⟩⟩,⟨g19 (n+2),b19,⟨a19,n19,k19⟩⟩,⟨g20 (n+2),b20,⟨a20,n20,k20⟩⟩⟩;have g22:=λ n:Nat=>a4p (mg:=mg) (P:=l.prog) (w:=w) (base:=base) (n:=n) F22 T SG;have g23:=λ n:Nat=>a8F (mg:=mg) (P:=l.prog) (w:=w) (base:=base) F23 T SG ⟨g21 (n+0),b21,k21,(W.mg_of X G a21)⟩ ⟨g22 (n+4),b22,k22,(W.mg_of X G a22)⟩;have g24:=λ n:Nat=>b1U (mg:=mg) (P:=l.prog) (w:=w) (base:=base) F24 ⟨g23 (n+0),b23,k23,(W.mg_of X G a23)⟩ ⟨g9 (n+4),b9,k9,(W.mg_of X G a9)⟩;have g25:=λ n:Nat=>a9J (mg:=mg) (P:=l.prog) (w:=w) (base:=base) F25 ⟨g6 (n+6),b6,k6,(W.mg_of X G a6)⟩ ⟨g24 (n+0),b24,k24,(W.mg_of X G a24)⟩;have g26:=λ n:Nat=>b0R (mg:=mg) (P:=l.prog) (w:=w) (base:=base) F26 ⟨g25 (n+0),b25,k25,(W.mg_of X G a25)⟩;have g27:=λ n:Nat=>b1g (mg:=mg) (P:=l.prog) (w:=w) (base:=base) (n:=n) F27 T;have g28:=λ n:Nat=>a6H (mg:=mg) (P:=l.prog) (w:=w) (base:=base) F28 ⟨g9 (n+0),b9,k9,(W.mg_of X G a9)⟩;have g29:=λ n:Nat=>a3H (mg:=mg) (P:=l.prog) (w:=w) (base:=base) F29 ⟨g9 (n+0),b9,k9,(W.mg_of X G a9)⟩;have g30:=λ n:Nat=>b0p (mg:=mg) (P:=l.prog) (w:=w) (base:=base) F30 T ⟨g27 (n+6),b27,k27,(W.mg_of X G a27)⟩ ⟨g6 (n+6),b6,k6,(W.mg_of X G a6)⟩ ⟨g24 (n+0),b24,k24,(W.mg_of X G a24)⟩ ⟨g28 (n+4),b28,k28,(W.mg_of X G a28)⟩ ⟨g29 (n+4),b29,k29,(W.mg_of X G a29)⟩;have g31:=λ n:Nat=>b0U (mg:=mg) (P:=l.prog) (w:=w) (base:=base) F31 T SG ⟨g21 (n+0),b21,k21,(W.mg_of X G a21)⟩ ⟨g22 (n+4),b22,k22,(W.mg_of X G a22)⟩;have g32:=λ n:Nat=>a8Y (mg:=mg) (P:=l.prog) (w:=w) (base:=base) F32 ⟨g6 (n+5),b6,k6,(W.mg_of X G a6)⟩ ⟨g31 (n+0),b31,k31,(W.mg_of X G a31)⟩ ⟨g9 (n+4),b9,k9,(W.mg_of X G a9)⟩;have g33:=λ n:Nat=>a6j (mg:=mg) (P:=l.prog) (w:=w) (base:=base) F33 ⟨g6 (n+0),b6,k6,(W.mg_of X G a6)⟩;have g34:=λ n:Nat=>a8m (mg:=mg) (P:=l.prog) (w:=w) (base:=base) F34 ⟨g6 (n+6),b6,k6,(W.mg_of X G a6)⟩ ⟨g33 (n+5),b33,k33,(W.mg_of X G a33)⟩ ⟨g24 (n+0),b24,k24,(W.mg_of X G a24)⟩;have g35:=λ n:Nat=>b1H (mg:=mg) (P:=l.prog) (w:=w) (base:=base) F35 ⟨g25 (n+0),b25,k25,(W.mg_of X G a25)⟩ ⟨g32 (n+1),b32,k32,(W.mg_of X G a32)⟩ ⟨g34 (n+0),b34,k34,(W.mg_of X G a34)⟩;have g36:=λ n:Nat=>b0q (mg:=mg) (P:=l.prog) (w:=w) (base:=base) F36 T ⟨g21 (n+0),b21,k21,(W.mg_of X G a21)⟩ ⟨g22 (n+4),b22,k22,(W.mg_of X G a22)⟩;have g37:=λ n:Nat=>a9G (mg:=mg) (P:=l.prog) (w:=w) (base:=base) F37 T ⟨g36 (n+0),b36,k36,(W.mg_of X G a36)⟩;have g38:=λ n:Nat=>a8t (mg:=mg) (P:=l.prog) (w:=w) (base:=base) F38 T ⟨g37 (n+0),b37,k37,(W.mg_of X G a37)⟩;have g39:=λ n:Nat=>b1S (mg:=mg) (P:=l.prog) (w:=w) (base:=base) F39 ⟨g8 (n+0),b8,k8,(W.mg_of X G a8)⟩;have g40:=λ n:Nat=>b0e (mg:=mg) (P:=l.prog) (w:=w) (base:=base) (n:=n) F40 T;have g41:=λ n:Nat=>a8l (mg:=mg) (P:=l.prog) (w:=w) (base:=base) F41 T ⟨g39 (n+0),b39,k39,(W.mg_of X G a39)⟩ ⟨g40 (n+1),b40,k40,(W.mg_of X G a40)⟩;have g42:=λ n:Nat=>a8S (mg:=mg) (P:=l.prog) (w:=w) (base:=base) F42 T ⟨g41 (n+0),b41,k41,(W.mg_of X G a41)⟩ ⟨g9 (n+1),b9,k9,(W.mg_of X G a9)⟩;have g43:=λ n:Nat=>b1s (mg:=mg) (P:=l.prog) (w:=w) (base:=base) F43 T ⟨g42 (n+0),b42,k42,(W.mg_of X G a42)⟩ ⟨g10 (n+3),b10,k10,(W.mg_of X G a10)⟩;exact b4h F44 T ⟨⟨g4 7,b4,k4,(W.mg_of X G a4)⟩,⟨g1 8,b1,k1,(W.mg_of X G a1)⟩,⟨g2 8,b2,k2,(W.mg_of X G a2)⟩,⟨g5 8,b5,k5,(W.mg_of X G a5)⟩,⟨g12 5,b12,k12,(W.mg_of X G a12)⟩,⟨g26 0,b26,k26,(W.mg_of X G a26)⟩,⟨g30 1,b30,k30,(W.mg_of X G a30)⟩,⟨g35 0,b35,k35,(W.mg_of X G a35)⟩,⟨g38 1,b38,k38,(W.mg_of X G a38)⟩,⟨g42 5,b42,k42,(W.mg_of X G a42)⟩,⟨g43 4,b43,k43,(W.mg_of X G a43)⟩⟩
end Rim
def PySem.W.Fast.tw3045438144098019970:Nat:=0
def PySem.W.Fast.tw18009068231926507696:Nat:=0
def PySem.W.Fast.tw1559400471845349481:Nat:=0
def PySem.W.Fast.tw9226649875265011443:Nat:=0
def PySem.W.Fast.tw3909173430790551381:Nat:=0
def PySem.W.Fast.tw17353337023829113852:Nat:=0
def PySem.W.Fast.tw11477704715028226363:Nat:=0
def PySem.W.Fast.tw6810104479109433135:Nat:=0
def PySem.W.Fast.tw9096404128549343285:Nat:=0
def PySem.W.Fast.tw7649877035613851567:Nat:=0
def PySem.W.Fast.tw17031397120481927395:Nat:=0
def PySem.W.Fast.tw9770498301470495213:Nat:=0
def PySem.W.Fast.tw3710315026513357477:Nat:=0
def PySem.W.Fast.tw17209750584311259509:Nat:=0
def PySem.W.Fast.tw15888295632503006029:Nat:=0
def PySem.W.Fast.tw12805293134181898339:Nat:=0
def PySem.W.Fast.tw11287750505524179541:Nat:=0
def PySem.W.Fast.tw7566843667833415855:Nat:=0
def PySem.W.Fast.tw13414666106994433692:Nat:=0
def PySem.W.Fast.tw2218941931825426659:Nat:=0
def PySem.W.Fast.tw12817572583915664038:Nat:=0
def PySem.W.Fast.tw12831732900701414248:Nat:=0
def PySem.W.Fast.tw8455665142214325723:Nat:=0
def PySem.W.Fast.tw18002510643724143349:Nat:=0
def PySem.W.Fast.tw4042893105964821744:Nat:=0
def PySem.W.Fast.tw2633973686950401096:Nat:=0
def PySem.W.Fast.tw13238119978649565563:Nat:=0
def PySem.W.Fast.tw14584360300478376380:Nat:=0
def PySem.W.Fast.tw14536930946619018443:Nat:=0
def PySem.W.Fast.tw6770222943072722174:Nat:=0
def PySem.W.Fast.tw500850270982307898:Nat:=0
def PySem.W.Fast.tw9033464663669709613:Nat:=0
def PySem.W.Fast.tw18235447113688228107:Nat:=0
def PySem.W.Fast.tw11341863525707835326:Nat:=0
def PySem.W.Fast.tw8326795463840105956:Nat:=0
def PySem.W.Fast.tw15186355262362044013:Nat:=0
def PySem.W.Fast.tw13971294835670516529:Nat:=0
def PySem.W.Fast.tw11214404754459548765:Nat:=0
def PySem.W.Fast.tw9775637662337476351:Nat:=0
def PySem.W.Fast.tw4317977392847611187:Nat:=0
def PySem.W.Fast.tw16616972228698025484:Nat:=0
def PySem.W.Fast.tw8812152715085604585:Nat:=0
def PySem.W.Fast.tw17649178916601677386:Nat:=0
def PySem.W.Fast.tw1831116278810627203:Nat:=0
def PySem.W.Fast.tw13378297823211635492:Nat:=0
def PySem.W.Fast.tw13814350215950974936:Nat:=0
def PySem.W.Fast.tw17793483638454508622:Nat:=0
def PySem.W.Fast.tw727360219137528564:Nat:=0
def PySem.W.Fast.tw17457016945108472106:Nat:=0
def PySem.W.Fast.tw15599133641129852452:Nat:=0
def PySem.W.Fast.tw7981289238239439606:Nat:=0
def PySem.W.Fast.tw7509690062986763836:Nat:=0
def PySem.W.Fast.tw9210887663592866273:Nat:=0
def PySem.W.Fast.tw1402373826316150625:Nat:=0
def PySem.W.Fast.tw5638381521424317378:Nat:=0
def PySem.W.Fast.tw11165882278415065334:Nat:=0
def PySem.W.Fast.tw6907377398208064771:Nat:=0
def PySem.W.Fast.tw2429882255078846352:Nat:=0
def PySem.W.Fast.tw8852638863744809410:Nat:=0
def PySem.W.Fast.tw17172836356506617:Nat:=0
def PySem.W.Fast.tw7021782093625082064:Nat:=0
def PySem.W.Fast.tw4376427924787160453:Nat:=0
def PySem.W.Fast.tw8418221983034647273:Nat:=0
def PySem.W.Fast.tw7243018980349600426:Nat:=0
def PySem.W.Fast.tw13702849019875053308:Nat:=0
def PySem.W.Fast.tw15081213507604551795:Nat:=0
def PySem.W.Fast.tw13833701988882283108:Nat:=0
def PySem.W.Fast.tw854889665191405336:Nat:=0
def PySem.W.Fast.tw10681577966689504754:Nat:=0
def PySem.W.Fast.tw12832612430647560073:Nat:=0
def PySem.W.Fast.tw17794608541649848702:Nat:=0
def PySem.W.Fast.tw8477032484896263472:Nat:=0
def PySem.W.Fast.tw9708339272331792254:Nat:=0
def PySem.W.Fast.tw5175785402632202240:Nat:=0
def PySem.W.Fast.tw3218553464308068356:Nat:=0
def PySem.W.Fast.tw17098839849675407911:Nat:=0
def PySem.W.Fast.tw12903610867446440291:Nat:=0
def PySem.W.Fast.tw7540387994822777648:Nat:=0
def PySem.W.Fast.tw7619625567759630395:Nat:=0
def PySem.W.Fast.tw4451817685350949168:Nat:=0
def PySem.W.Fast.tw14197224442034262853:Nat:=0
def PySem.W.Fast.tw8048967771022531802:Nat:=0
def PySem.W.Fast.tw6621373027573694223:Nat:=0
def PySem.W.Fast.tw17363406360466567002:Nat:=0
def PySem.W.Fast.tw7532040551864257929:Nat:=0
def PySem.W.Fast.tw7589397854495121694:Nat:=0
def PySem.W.Fast.tw930005395355617985:Nat:=0
def PySem.W.Fast.tw14029171041127077536:Nat:=0
def PySem.W.Fast.tw16515533392347838848:Nat:=0
def PySem.W.Fast.tw7226400218347173155:Nat:=0
def PySem.W.Fast.tw13915383492047408623:Nat:=0
def PySem.W.Fast.tw18038275160869042251:Nat:=0
def PySem.W.Fast.tw2212841022546895305:Nat:=0
def PySem.W.Fast.tw982953009032566323:Nat:=0
def PySem.W.Fast.tw12381274223274424706:Nat:=0
def PySem.W.Fast.tw1680479914709424545:Nat:=0
def PySem.W.Fast.tw18099502563433864774:Nat:=0
def PySem.W.Fast.tw11201139390344713909:Nat:=0
def PySem.W.Fast.tw4319961717123552774:Nat:=0
def PySem.W.Fast.tw13056838318530391940:Nat:=0
def PySem.W.Fast.tw12666832875194824659:Nat:=0
def PySem.W.Fast.tw7431743961971264423:Nat:=0
def PySem.W.Fast.tw1503983438846289318:Nat:=0
def PySem.W.Fast.tw16511032120083055660:Nat:=0
def PySem.W.Fast.tw12812913220337106344:Nat:=0
def PySem.W.Fast.tw3459542055790299977:Nat:=0
def PySem.W.Fast.tw4228053345944575477:Nat:=0
def PySem.W.Fast.tw14506753444152461182:Nat:=0
def PySem.W.Fast.tw9941821455382956084:Nat:=0
def PySem.W.Fast.tw13632746509616964118:Nat:=0
def PySem.W.Fast.tw11518462007935818376:Nat:=0
def PySem.W.Fast.tw5974577739107139338:Nat:=0
def PySem.W.Fast.tw1595903960698992038:Nat:=0
def PySem.W.Fast.tw7986653492873173437:Nat:=0
def PySem.W.Fast.tw14479405534080210466:Nat:=0
def PySem.W.Fast.tw15495744150898500799:Nat:=0
def PySem.W.Fast.tw15106935815152849529:Nat:=0
def PySem.W.Fast.tw14345922329724786825:Nat:=0
def PySem.W.Fast.tw17379965124318541237:Nat:=0
def PySem.W.Fast.tw8051961843319864520:Nat:=0
def PySem.W.Fast.tw14825406917274598104:Nat:=0
def PySem.W.Fast.tw7156449586584108852:Nat:=0
def PySem.W.Fast.tw855144840255956923:Nat:=0
def PySem.W.Fast.tw6069267359226986920:Nat:=0
def PySem.W.Fast.tw12358598573596513182:Nat:=0
def PySem.W.Fast.tw7584786945919821121:Nat:=0
def PySem.W.Fast.tw471871196917153802:Nat:=0
def PySem.W.Fast.tw13432450957426556395:Nat:=0
def PySem.W.Fast.tw8887097649918923303:Nat:=0
def PySem.W.Fast.tw10300622625432540679:Nat:=0
def PySem.W.Fast.tw1537018805155853048:Nat:=0
def PySem.W.Fast.tw6187414835469273476:Nat:=0
def PySem.W.Fast.tw10492507839573201103:Nat:=0
def PySem.W.Fast.tw9324739920011475932:Nat:=0
def PySem.W.Fast.tw3305075994511227052:Nat:=0
def PySem.W.Fast.tw445171096796004421:Nat:=0
def PySem.W.Fast.tw740996355711529695:Nat:=0
def PySem.W.Fast.tw1434062127315523901:Nat:=0
def PySem.W.Fast.tw15516154713036945300:Nat:=0
def PySem.W.Fast.tw16355019631483951040:Nat:=0
def PySem.W.Fast.tw10874403647222296247:Nat:=0
def PySem.W.Fast.tw2167479802983342400:Nat:=0
def PySem.W.Fast.tw13885990105342834656:Nat:=0
def PySem.W.Fast.tw6462545294009442003:Nat:=0
def PySem.W.Fast.tw1474829047283054313:Nat:=0
def PySem.W.Fast.tw10717979979899655903:Nat:=0
def PySem.W.Fast.tw2237859762420065641:Nat:=0
def PySem.W.Fast.tw10076171688074559286:Nat:=0
def PySem.W.Fast.tw10698541168582417762:Nat:=0
def PySem.W.Fast.tw17008676031536041623:Nat:=0
def PySem.W.Fast.tw16462421457651499472:Nat:=0
def PySem.W.Fast.tw6221006087824102485:Nat:=0
def PySem.W.Fast.tw16600636394621873280:Nat:=0
def PySem.W.Fast.tw13846402386233097419:Nat:=0
def PySem.W.Fast.tw6939995227616238467:Nat:=0
def PySem.W.Fast.tw13671401716101308031:Nat:=0
def PySem.W.Fast.tw5423213167865229097:Nat:=0
def PySem.W.Fast.tw10369832895048957846:Nat:=0
def PySem.W.Fast.tw15397096762194222510:Nat:=0
def PySem.W.Fast.tw5879615864523930038:Nat:=0
def PySem.W.Fast.tw5239838142519282480:Nat:=0
def PySem.W.Fast.tw13532422174630265685:Nat:=0
def PySem.W.Fast.tw8641205308865507098:Nat:=0
def PySem.W.Fast.tw13011446622704701959:Nat:=0
def PySem.W.Fast.tw6503285960790245094:Nat:=0
def PySem.W.Fast.tw888979438535957756:Nat:=0
def PySem.W.Fast.tw9469886295188605312:Nat:=0
def PySem.W.Fast.tw8699110172632142755:Nat:=0
def PySem.W.Fast.tw6928014196029645417:Nat:=0
def PySem.W.Fast.tw17273569486266544061:Nat:=0
def PySem.W.Fast.tw3363255195767727333:Nat:=0
def PySem.W.Fast.tw6121604674300014369:Nat:=0
def PySem.W.Fast.tw12118623504847560347:Nat:=0
def PySem.W.Fast.tw17174733032453366536:Nat:=0
def PySem.W.Fast.tw11405813664181510807:Nat:=0
def PySem.W.Fast.tw1382027329916998676:Nat:=0
def PySem.W.Fast.tw14896295520164048938:Nat:=0
def PySem.W.Fast.tw16622260115990399323:Nat:=0
def PySem.W.Fast.tw6334199009584538039:Nat:=0
def PySem.W.Fast.tw15765581723211901075:Nat:=0
def PySem.W.Fast.tw11758545749604000949:Nat:=0
def PySem.W.Fast.tw16063566751549548515:Nat:=0
def PySem.W.Fast.tw17179177247370212213:Nat:=0
def PySem.W.Fast.tw13507336881918391155:Nat:=0
def PySem.W.Fast.tw1024036778810328620:Nat:=0
def PySem.W.Fast.tw5702139281320856432:Nat:=0
def PySem.W.Fast.tw4551566312851115442:Nat:=0
def PySem.W.Fast.tw12567996257152051325:Nat:=0
def PySem.W.Fast.tw10708715210050480297:Nat:=0
def PySem.W.Fast.tw6705421835605542956:Nat:=0
def PySem.W.Fast.tw3428250161144801597:Nat:=0
def PySem.W.Fast.tw16165627778699692361:Nat:=0
def PySem.W.Fast.tw707913366823520262:Nat:=0
def PySem.W.Fast.tw12388438616357008190:Nat:=0
def PySem.W.Fast.tw3348219268606955156:Nat:=0
def PySem.W.Fast.tw3074156007049212470:Nat:=0
def PySem.W.Fast.tw18377960434044442508:Nat:=0
def PySem.W.Fast.tw15096459181868797289:Nat:=0
namespace Rim
open PySem L2 Fr
theorem walk {l:W.OpenLaw} {q:Program} {loose:List Str} {XP:(Str->Option Value)->Heap->Prop} {YP:World->Heap->Prop} {d:DefRec} {K:Params->W.Frag} {Ct Pt:Addr} (hn:l.most=some 63) (hdf:d.params.defaults=[])
  (hY:∀ (w:World) (h:Heap),YP w h->(K w.params).In h/\∀ t∈[(Ct,Pt)],h.get? t.2=some (W.tabObj #[]))
  (hC:∀ (w:World),∀ t∈[(Ct,Pt)],W.codeHdIn (K w.params) t.1 t.2=true/\(K w.params).lookup t.2=none)
  (F:∀ (w:World) (mg:Str->Option Value) (fa:Addr) (h:Heap),(K w.params).In h->h.Ns mainGlobals mg->mg d.name=some (.ref fa) →
   ∃ fd:FuncData,(∀ (s:Shared) (u:Value),BindsTo s fd ⟨[u],[]⟩ [("script",u)])/\∀ base:Heap,(K w.params).In base->base.Ns mainGlobals mg->X5 mg base->(∀ t∈[(Ct,Pt)],W.CodeHd base t.1 t.2)->FnOk l.prog w (K w.params) mg base E4 10 fa fd ["script"] (a7U (K w.params) Pt)) :
  W.WalkO q loose XP YP l.row.toRowW d [] (λ f vs=>iL f vs) :=
 L2.walk_ofT (n:=63) (k:=10) (x:="script") (Ts:=[(Ct,Pt)]) (CX:=λ _=>E4) (sp:=λ w=>a7U (K w.params) Pt) hn (by decide) hdf ⟨rfl,by decide,by decide⟩ hY hC F (λ _ _ a ns hl hT hS=>⟨a,ns,rfl,hS,hl,.inl (hT _ (.head _)),λ _=>rfl⟩) λ _ _ _ _ _ z=>z
end Rim
open PySem PySem.W PyProof.Rows
set_option maxRecDepth 100000 in
set_option maxHeartbeats 0 in
theorem PySem.Challenge.cw_rimhouse_k35_whole_houses_in_another_ord_holds : PySem.Challenge.rw_rimhouse_k35_whole_houses_in_another_ord.Holds := by
  w_on; o_law; km_head; (case hw=>w_witness2)
  k_fill
  refine' Rim.walk (l:=PySem.Challenge.rw_rimhouse_k35_whole_houses_in_another_ord) (Ct:=_) (Pt:=118) rfl rfl ?Y ?C ?F
  case Y=>exact λ w h Y=>⟨W.km_in_of Y,λ t ht=>by rw [bN.mp ht]; exact W.km_tabs_of Y _ (.head _)⟩
  case F =>
    intro w mg fa h KX G hmg;refine' Rim.all_mk KX G hmg ?aB ?a1 ?l1 ?a2 ?l2 ?a3 ?l3 ?a4 ?l4 ?a5 ?l5 ?a6 ?l6 ?a7 ?l7 ?a8 ?l8 ?a9 ?l9 ?a10 ?l10 ?a11 ?l11 ?a12 ?l12 ?a13 ?l13 ?n13 ?a14 ?l14 ?n14 ?a15 ?l15 ?n15 ?a16 ?l16 ?n16 ?a17 ?l17 ?a18 ?l18 ?n18 ?a19 ?l19 ?n19 ?a20 ?l20 ?n20 ?a21 ?l21 ?a22 ?l22 ?a23 ?l23 ?a24 ?l24 ?a25 ?l25 ?a26 ?l26 ?a27 ?l27 ?a28 ?l28 ?a29 ?l29 ?a30 ?l30 ?a31 ?l31 ?a32 ?l32 ?a33 ?l33 ?a34 ?l34 ?a35 ?l35 ?a36 ?l36 ?a37 ?l37 ?a38 ?l38 ?a39 ?l39 ?a40 ?l40 ?a41 ?l41 ?a42 ?l42 ?a43 ?l43 ?a44 ?l44 ?c44 ?k44 ?z1 ?z2 ?z3 ?z4 ?z5 ?z6 ?z7 ?z8 ?z9 ?z10 ?z11 ?z12 ?z13 ?z14 ?z15 ?z16 ?z17 ?bp ?bh ?bo ?bs ?b_many ?b_scale ?b_cells ?b_outs ?b_ins ?bm ?bk ?s1 ?s3 ?s4 ?sa0 ?sb0 ?sa1 ?sb1 ?sa2 ?sb2 ?sa3 ?sb3 ?xmNoHouse ?xoNoHouse ?xgaNoHouse ?xgnNoHouse ?xcaNoHouse ?xmoNoHouse ?xmbNoHouse ?cmNOUGHT ?clNOUGHT
    (case aB=>k_is)
    (case a1=>k_is)
    (case l1=>(refine' L2.fun_in ?l ?c ?k; (case l=>k_is); (case c=>k_is); (case k=>k_is)))
    (case a2=>k_is)
    (case l2=>(refine' L2.fun_in ?l ?c ?k; (case l=>k_is); (case c=>k_is); (case k=>k_is)))
    (case a3=>k_is)
    (case l3=>(refine' L2.fun_in ?l ?c ?k; (case l=>k_is); (case c=>k_is); (case k=>k_is)))
    (case a4=>k_is)
    (case l4=>(refine' L2.fun_in ?l ?c ?k; (case l=>k_is); (case c=>k_is); (case k=>k_is)))
    (case a5=>k_is)
    (case l5=>(refine' L2.fun_in ?l ?c ?k; (case l=>k_is); (case c=>k_is); (case k=>k_is)))
    (case a6=>k_is)
    (case l6=>(refine' L2.fun_in ?l ?c ?k; (case l=>k_is); (case c=>k_is); (case k=>k_is)))
    (case a7=>k_is)
    (case l7=>(refine' L2.fun_in ?l ?c ?k; (case l=>k_is); (case c=>k_is); (case k=>k_is)))
    (case a8=>k_is)
    (case l8=>(refine' L2.fun_in ?l ?c ?k; (case l=>k_is); (case c=>k_is); (case k=>k_is)))
    (case a9=>k_is)
    (case l9=>(refine' L2.fun_in ?l ?c ?k; (case l=>k_is); (case c=>k_is); (case k=>k_is)))
    (case a10=>k_is)
    (case l10=>(refine' L2.fun_in ?l ?c ?k; (case l=>k_is); (case c=>k_is); (case k=>k_is)))
    (case a11=>k_is)
    (case l11=>(refine' L2.fun_in ?l ?c ?k; (case l=>k_is); (case c=>k_is); (case k=>k_is)))
    (case a12=>k_is)
    (case l12=>(refine' L2.fun_in ?l ?c ?k; (case l=>k_is); (case c=>k_is); (case k=>k_is)))
    (case a13=>k_is)
    (case l13=>(refine' L2.fun_in ?l ?c ?k; (case l=>k_is); (case c=>k_is); (case k=>k_is)))
    (case n13=>k_is)
    (case a14=>k_is)
    (case l14=>(refine' L2.fun_in ?l ?c ?k; (case l=>k_is); (case c=>k_is); (case k=>k_is)))
    (case n14=>k_is)
    (case a15=>k_is)
    (case l15=>(refine' L2.fun_in ?l ?c ?k; (case l=>k_is); (case c=>k_is); (case k=>k_is)))
    (case n15=>k_is)
    (case a16=>k_is)
    (case l16=>(refine' L2.fun_in ?l ?c ?k; (case l=>k_is); (case c=>k_is); (case k=>k_is)))
    (case n16=>k_is)
    (case a17=>k_is)
    (case l17=>(refine' L2.fun_in ?l ?c ?k; (case l=>k_is); (case c=>k_is); (case k=>k_is)))
    (case a18=>k_is)
    (case l18=>(refine' L2.fun_in ?l ?c ?k; (case l=>k_is); (case c=>k_is); (case k=>k_is)))
    (case n18=>k_is)
    (case a19=>k_is)
    (case l19=>(refine' L2.fun_in ?l ?c ?k; (case l=>k_is); (case c=>k_is); (case k=>k_is)))
    (case n19=>k_is)
    (case a20=>k_is)
    (case l20=>(refine' L2.fun_in ?l ?c ?k; (case l=>k_is); (case c=>k_is); (case k=>k_is)))
    (case n20=>k_is)
    (case a21=>k_is)
    (case l21=>(refine' L2.fun_in ?l ?c ?k; (case l=>k_is); (case c=>k_is); (case k=>k_is)))
    (case a22=>k_is)
    (case l22=>(refine' L2.fun_in ?l ?c ?k; (case l=>k_is); (case c=>k_is); (case k=>k_is)))
    (case a23=>k_is)
    (case l23=>(refine' L2.fun_in ?l ?c ?k; (case l=>k_is); (case c=>k_is); (case k=>k_is)))
    (case a24=>k_is)
    (case l24=>(refine' L2.fun_in ?l ?c ?k; (case l=>k_is); (case c=>k_is); (case k=>k_is)))
    (case a25=>k_is)
    (case l25=>(refine' L2.fun_in ?l ?c ?k; (case l=>k_is); (case c=>k_is); (case k=>k_is)))
    (case a26=>k_is)
    (case l26=>(refine' L2.fun_in ?l ?c ?k; (case l=>k_is); (case c=>k_is); (case k=>k_is)))
    (case a27=>k_is)
    (case l27=>(refine' L2.fun_in ?l ?c ?k; (case l=>k_is); (case c=>k_is); (case k=>k_is)))
    (case a28=>k_is)
    (case l28=>(refine' L2.fun_in ?l ?c ?k; (case l=>k_is); (case c=>k_is); (case k=>k_is)))
    (case a29=>k_is)
    (case l29=>(refine' L2.fun_in ?l ?c ?k; (case l=>k_is); (case c=>k_is); (case k=>k_is)))
    (case a30=>k_is)
    (case l30=>(refine' L2.fun_in ?l ?c ?k; (case l=>k_is); (case c=>k_is); (case k=>k_is)))
    (case a31=>k_is)
    (case l31=>(refine' L2.fun_in ?l ?c ?k; (case l=>k_is); (case c=>k_is); (case k=>k_is)))
    (case a32=>k_is)
    (case l32=>(refine' L2.fun_in ?l ?c ?k; (case l=>k_is); (case c=>k_is); (case k=>k_is)))
    (case a33=>k_is)
    (case l33=>(refine' L2.fun_in ?l ?c ?k; (case l=>k_is); (case c=>k_is); (case k=>k_is)))
    (case a34=>k_is)
    (case l34=>(refine' L2.fun_in ?l ?c ?k; (case l=>k_is); (case c=>k_is); (case k=>k_is)))
    (case a35=>k_is)
    (case l35=>(refine' L2.fun_in ?l ?c ?k; (case l=>k_is); (case c=>k_is); (case k=>k_is)))
    (case a36=>k_is)
    (case l36=>(refine' L2.fun_in ?l ?c ?k; (case l=>k_is); (case c=>k_is); (case k=>k_is)))
    (case a37=>k_is)
    (case l37=>(refine' L2.fun_in ?l ?c ?k; (case l=>k_is); (case c=>k_is); (case k=>k_is)))
    (case a38=>k_is)
    (case l38=>(refine' L2.fun_in ?l ?c ?k; (case l=>k_is); (case c=>k_is); (case k=>k_is)))
    (case a39=>k_is)
    (case l39=>(refine' L2.fun_in ?l ?c ?k; (case l=>k_is); (case c=>k_is); (case k=>k_is)))
    (case a40=>k_is)
    (case l40=>(refine' L2.fun_in ?l ?c ?k; (case l=>k_is); (case c=>k_is); (case k=>k_is)))
    (case a41=>k_is)
    (case l41=>(refine' L2.fun_in ?l ?c ?k; (case l=>k_is); (case c=>k_is); (case k=>k_is)))
    (case a42=>k_is)
    (case l42=>(refine' L2.fun_in ?l ?c ?k; (case l=>k_is); (case c=>k_is); (case k=>k_is)))
    (case a43=>k_is)
    (case l43=>(refine' L2.fun_in ?l ?c ?k; (case l=>k_is); (case c=>k_is); (case k=>k_is)))
    (case a44=>k_is)
    (case l44=>k_is)
    (case c44=>k_is)
    (case k44=>k_is)
    (case z1=>k_is)
    (case z2=>k_is)
    (case z3=>k_is)
    (case z4=>k_is)
    (case z5=>k_is)
    (case z6=>k_is)
    (case z7=>k_is)
    (case z8=>k_is)
    (case z9=>k_is)
    (case z10=>k_is)
    (case z11=>k_is)
    (case z12=>k_is)
    (case z13=>k_is)
    (case z14=>k_is)
    (case z15=>k_is)
    (case z16=>k_is)
    (case z17=>k_is)
    (case bp=>k_is)
    (case bh=>k_is)
    (case bo=>k_is)
    (case bs=>k_is)
    (case b_many=>k_is)
    (case b_scale=>k_is)
    (case b_cells=>k_is)
    (case b_outs=>k_is)
    (case b_ins=>k_is)
    (case bm=>k_is)
    (case bk=>k_is)
    (case s1=>k_is)
    (case s3=>k_is)
    (case s4=>k_keys)
    (case sa0=>k_is)
    (case sb0=>k_is)
    (case sa1=>k_is)
    (case sb1=>k_is)
    (case sa2=>k_is)
    (case sb2=>k_is)
    (case sa3=>k_is)
    (case sb3=>k_is)
    (case xmNoHouse=>k_is)
    (case xoNoHouse=>k_exc)
    (case xgaNoHouse=>k_is)
    (case xgnNoHouse=>k_is)
    (case xcaNoHouse=>k_is)
    (case xmoNoHouse=>k_is)
    (case xmbNoHouse=>k_is)
    (case cmNOUGHT=>k_is)
    (case clNOUGHT=>k_is)
  case C=>exact λ w t ht=>by rw [bN.mp ht]; exact ⟨by kernel_rfl,by kernel_rfl⟩
