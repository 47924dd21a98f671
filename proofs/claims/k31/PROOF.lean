import PyProof.Rows.All
import Wide.All
import OpenK.AllK
import Wide.FinOn
import Lean
import PyProof.EqAt
import PyProof.EqKinds
import PyProof.TupleCall
import PyProof.NeData
import PyProof.ZipIter
import PyProof.EnumMake
import PyProof.EnumFor
import KE.KMinKey
import KE.KUnpack
import KE.KNestM
import PyProof.AssignAttr
import KE.KLam
import PySem.Challenge.RW_rimhouse_k31_whole_kept_altered_and_back
set_option Elab.async false
set_option maxHeartbeats 16000000
set_option linter.all false
set_option maxRecDepth 100000
open Array renaming length_toList->iR,toList->iS
open Bool renaming false_ne_true->bY,and_eq_true->dZ,eq_false_iff->eH,eq_iff_iff->fD,false_eq_true->gF,noConfusion->jG,and_true->kO
open Classical renaming byContradiction->fK,propDecidable->iM,choose_spec->kP,choose->mJ
open False renaming elim->bO
open ForInStep renaming yield->gG
open Iff renaming rfl->gN
open Int renaming mul_comm->aR,mul_assoc->aX,mul_zero->bB,toNat_natCast->bD,le_of_lt->bG,le_refl->cC,mul_nonneg->cK,add_mul->cQ,mul_neg->dB,add_zero->dN,zero_mul->dP,mul_pos->eI,neg_mul->eJ,mul_le_mul_of_nonneg_right->eK,mul_one->eP,mul_add->fG,mul_sub->fH,mul_le_mul_of_nonneg_left->fJ,zero_add->fL,emod_nonneg->fO,emod_lt_of_pos->fP,one_mul->fY,natAbs_neg->fZ,mul_eq_zero->gM,gcd->iD,natAbs_mul->iE,eq_of_mul_eq_mul_right->iF,le_of_mul_le_mul_right->iG,fdiv_eq_ediv_of_nonneg->iT,dvd_mul_of_dvd_left->jH,mul_ediv_cancel_left->jI,mul_ediv_cancel'->jJ,mul_dvd_mul_left->jK,natAbs_dvd_natAbs->jL,sub_mul->jR,le_trans->jS,lt_of_le_of_lt->jX,add_sub_cancel->kA,lt_of_lt_of_le->kF
open List renaming length_map->aA,getElem?_map->aD,range->aF,getElem?_eq_getElem->aG,mem_cons->aH,getD_eq_getElem?_getD->aI,replicate->aJ,length_append->aM,mem_append->aS,map_map->aT,size_toArray->aU,map_cons->aV,map_append->aW,mem_singleton->aY,not_mem_nil->bA,getElem?_set_ne->bC,getElem?_range->bF,mem_map->bH,length_replicate->bK,getElem?_eq_none->bL,mem_cons_of_mem->bM,getElem?_eq_some_iff->bN,length_take->bP,getElem?_append_left->bQ,getElem?_set_self->bR,mem_append_right->bS,mem_of_getElem?->bV,length_set->bW,sum_cons->bX,cons_append->bZ,getElem?_append_right->cA,zipWith->cD,mem_cons_self->cF,zipWith_cons_cons->cG,ext_getElem?->cJ,mem_range->cO,getElem_mem->cP,map_congr_left->cS,length_cons->cV,length_drop->cW,length_singleton->cX,nil_append->cY,lookup_cons->cZ,getElem?_replicate->dG,replicate_succ->dH,append_assoc->dI,mem_append_left->dJ,map_nil->dL,length_range->dQ,lookup->dW,append_nil->dX,forIn_cons->dY,mem_of_mem_drop->eL,forIn_nil->eV,take_of_length_le->eW,mem_of_mem_take->fA,set_comm->fB,flatten_cons->fE,length_zipWith->fF,range_succ->fN,mem_filter->fQ,all_eq_true->fT,length_filter_le->fW,length_nil->fX,eq_nil_of_length_eq_zero->gA,nodup_cons->gC,of_mem_zip->gD,zipIdx_cons->gH,zipIdx_nil->gJ,filter_append->gK,map_set->gP,take_left'->gQ,filterMap_cons->gU,mem_filterMap->gW,length->gY,foldl->gZ,length_dropLast->hU,getElem_of_mem->hZ,any_eq_true->iA,length_pos_iff->iB,getElem?_zipWith->iH,dropLast_concat_getLast->iK,getElem?_of_mem->iL,eq_nil_or_concat->iN,map_eq_nil_iff->iP,getElem?_eq_none_iff->iQ,getElem?_take_of_lt->iV,take_succ_eq_append_getElem->jD,take_succ->jE,length_eq_zero_iff->jM,drop_zero->jN,range_succ_eq_map->jO,getElem?_drop->jP,set_set->jQ,mem_replicate->jY,map->kC,map_id->kJ,drop_left'->kK,forIn_toArray->kM,map_take->kU,filter->kW
open List.Pairwise renaming nil->lX
open Nat renaming le_refl->aE,lt_of_lt_of_le->aO,le_trans->aZ,ne_of_lt->bI,lt_irrefl->bJ,zero_le->bU,lt_of_le_of_lt->cI,ne_of_gt->cN,le_of_lt->dA,le_add_right->dM,add_sub_cancel_left->dU,min_le_left->eM,lt_succ_self->eR,sub_self->fM,lt_succ_of_lt->fU,max_le->gB,succ_mul->gE,min_eq_left->gL,pow_le_pow_right->gO,le_succ->gX,le_of_not_lt->hV,log2_lt->iC,pow_pos->iI,mul_le_mul_right->iJ,le_of_eq->iU,mul_comm->jA,lt_of_succ_le->jC,le_antisymm->jT,pow_add->jW,add_assoc->jZ
open Ne renaming symm->aQ
open Option renaming getD_some->dO,map_some->eX,getD_none->iZ,none->jB
open Option.some renaming inj->aN
open Or renaming inl->aC,inr->eU
open PyProof.Rows renaming envOfC->cU,boot_list->dD,boot_isinstance->dE,callWith_type1->fC,boot_tuple->gR,boot_max->gS,boot_min->iO,boot_range->jU,boot_int->jV,boot_sum->kH,callWith_builtin1->lV,callWith_kw->lY,boot_bool->mD,boot_all->mG,boot_any->mI
open PyProof.Rows.Boot renaming abs->lZ
open PySem renaming Paired->aL,boot_len->bE,mem_of_lookup->fR,Fin->fV,Within->gT,call->hW,ofString_length->jF
open PySem.EqMixed renaming eq_bool_str->lC,eq_int_str->lE,eq_str_bool->lG,eq_str_int->lH,ne_bool_str->lN,ne_int_str->lP,ne_str_bool->lR,ne_str_int->lT
open PySem.EqNone renaming eq_none_none->kX,eq_none_bool->kY,eq_none_int->kZ,eq_none_str->lA,eq_bool_none->lB,eq_int_none->lD,eq_str_none->lF,ne_none_none->lI,ne_none_bool->lJ,ne_none_int->lK,ne_none_str->lL,ne_bool_none->lM,ne_int_none->lO,ne_str_none->lQ
open PySem.F renaming plainAttrs_list->dR,slot_list_append->eY,type_list_append->eZ,slot_tuple_add->iW,entry_tuple_add->iX,args_tuple_add_2->iY,slot_list_pop->kQ,type_list_pop->kS
open PySem.IsL renaming update->lW
open PySem.Within renaming cons->lU
open Sum renaming inl->eN,inr->eO
open True renaming intro->eQ
namespace L2
open PySem PySem.Spec PyProof.Rows
abbrev Key:=Sum Int Str
def b2f:Key->Value->Bool
 | .inl k,v=>Value.isInt k v
 | .inr x,v=>Value.isStrOf x v
def b5L (w:World):Key->Int
 | .inl k=>hashInt k
 | .inr x=>hashStr w x
theorem A8:∀ {k:Key} {v:Value},b2f k v=true->(∃ i t,k=eN i/\v=Value.int i t)\/(∃ x t,k=eO x/\v=Value.str x t)
 | .inl i,v,h=>by
  obtain ⟨t,e⟩:=Value.isInt_shape (k:=i) (v:=v) h;exact .inl ⟨i,t,rfl,e⟩
 | .inr x,v,h=>by
  obtain ⟨t,e⟩:=Value.isStrOf_shape (x:=x) (v:=v) h;exact .inr ⟨x,t,rfl,e⟩
theorem b2s (a b:Int):decide ((eN a:Key)=eN b)=(a==b):=by
 by_cases e:a=b
 ·subst e; simp
 ·have h:¬ (eN a:Key)=eN b:=λ q=>e (Sum.inl.inj q)
  rw [decide_eq_false h];exact (beq_eq_false_iff_ne.mpr e).symm
theorem b2E (a b:Str):decide ((eO a:Key)=eO b)=decide (a=b):=by
 by_cases e:a=b
 ·subst e; simp
 ·have h:¬ (eO a:Key)=eO b:=λ q=>e (Sum.inr.inj q)
  rw [decide_eq_false h,decide_eq_false e]
theorem b3e (a:Int) (b:Str):decide ((eN a:Key)=eO b)=false:=decide_eq_false (λ q=>nomatch q)
theorem b2j (a:Str) (b:Int):decide ((eO a:Key)=eN b)=false:=decide_eq_false (λ q=>nomatch q)
def a3t (prog:Program) (w:World):PySem.KeyKind prog w Key where
 is:=b2f
 hash:=b5L w
 inj:=λ v a b ha hb=>by
  rcases A8 ha with ⟨i,t,rfl,rfl⟩ | ⟨x,t,rfl,rfl⟩
  ·rcases A8 hb with ⟨j,u,rfl,e⟩ | ⟨y,u,rfl,e⟩
   ·injection e with e1 _; rw [e1]
   ·exact nomatch e
  ·rcases A8 hb with ⟨j,u,rfl,e⟩ | ⟨y,u,rfl,e⟩
   ·exact nomatch e
   ·injection e with e1 _; rw [e1]
 byValue:=λ k v h=>by
  rcases A8 h with ⟨i,t,rfl,rfl⟩ | ⟨x,t,rfl,rfl⟩ <;> rfl
 pyHash:=λ hv h=>by
  rcases A8 hv with ⟨i,t,rfl,rfl⟩ | ⟨x,t,rfl,rfl⟩
  ·exact wpAny_pyHash_int h
  ·exact wpAny_pyHash_str h
 eqBool:=λ hu hv h=>by
  rcases A8 hu with ⟨i,t,rfl,rfl⟩ | ⟨x,t,rfl,rfl⟩
  ·rcases A8 hv with ⟨j,u,rfl,rfl⟩ | ⟨y,u,rfl,rfl⟩
   ·rw [b2s] at h; exact wpAny_eqBool_int h
   ·rw [b3e] at h; exact SeqAt.EqAt.int_str i t y u _ _ _ _ h
  ·rcases A8 hv with ⟨j,u,rfl,rfl⟩ | ⟨y,u,rfl,rfl⟩
   ·rw [b2j] at h; exact SeqAt.EqAt.str_int x t j u _ _ _ _ h
   ·rw [b2E] at h; exact wpAny_eqBool_str h
 «strs»:=λ k x t v h=>by
  rcases A8 h with ⟨i,u,rfl,e⟩ | ⟨y,u,rfl,e⟩
  ·exact nomatch e
  ·injection e with e1 _
   subst e1
   cases v <;> rfl
inductive V where
 | non | bl (b:Bool) | int (i:Int) | str (x:Str) | byt (b:Array UInt8) | flt (b:UInt64) | ref (a:Addr) | ty (n:String)
 deriving DecidableEq
def RelV:V->Value->Prop
 | .non,u=>u=Value.none
 | .bl b,u=>u=Value.bool b
 | .int i,u=>∃ t,u=Value.int i t
 | .str x,u=>∃ t,u=Value.str x t
 | .byt b,u=>∃ t,u=Value.bytes b t
 | .flt b,u=>∃ t,u=Value.float b t
 | .ref a,u=>u=Value.ref a
 | .ty n,u=>u=Value.type n
abbrev Vals:List V->List Value->Prop:=Paired RelV
theorem Vals.length {xs:List V} {us:List Value} (r:Vals xs us):xs.length=us.length:=Paired.length r
theorem Vals.get:∀ {xs:List V} {us:List Value} {i:Nat} {x:V},Vals xs us->xs[i]?=some x->∃ u,us[i]?=some u/\RelV x u
 | _,_,_,_,.nil,e=>by simp at e
 | _,_,0,_,.cons r _,e=>by simp at e; subst e; exact ⟨_,rfl,r⟩
 | _,_,i+1,x,.cons _ t,e=>by
  obtain ⟨u,h1,h2⟩:=Vals.get (i:=i) (x:=x) t (by simpa using e);exact ⟨u,by simpa using h1,h2⟩
theorem Vals.set {x:V} {u:Value} (r:RelV x u):∀ {xs:List V} {us:List Value} (i:Nat),Vals xs us->Vals (xs.set i x) (us.set i u)
 | _,_,_,.nil=>.nil
 | _,_,0,.cons _ t=>.cons r t
 | _,_,i+1,.cons q t=>.cons q (Vals.set r i t)
theorem Vals.append:∀ {xs ys:List V} {us ws:List Value},Vals xs us->Vals ys ws->Vals (xs++ys) (us++ws)
 | _,_,_,_,.nil,s=>s
 | _,_,_,_,.cons r t,s=>.cons r (Vals.append t s)
theorem Vals.take:∀ {xs:List V} {us:List Value} (n:Nat),Vals xs us->Vals (xs.take n) (us.take n)
 | _,_,0,_=>.nil
 | _,_,_+1,.nil=>.nil
 | _,_,n+1,.cons r t=>.cons r (Vals.take n t)
theorem Vals.drop:∀ {xs:List V} {us:List Value} (n:Nat),Vals xs us->Vals (xs.drop n) (us.drop n)
 | _,_,0,r=>r
 | _,_,_+1,.nil=>.nil
 | _,_,n+1,.cons _ t=>Vals.drop n t
theorem Vals.none_of:∀ {xs:List V} {us:List Value} {i:Nat},Vals xs us->xs[i]?=none->us[i]?=none:=λ {xs us i} r e=>by
 have h1:=r.length;have h2:xs.length<=i:=iQ.mp e;exact iQ.mpr (by omega)
def RelO:Option V->Option Value->Prop
 | some v,some u=>RelV v u
 | none,none=>True
 | _,_=>False
def KV {κ:Type}:List (κ×V)->List (κ×Value)->Prop:=Paired λ (p:κ×V) (q:κ×Value)=>p.1=q.1/\RelV p.2 q.2
def kV:Key->V
 | .inl i=>.int i
 | .inr x=>.str x
inductive HO where
  | lst (xs:List V)
  | tup (xs:List V)
  | dK (kvs:List (Key×V)) | dT (kvs:List (List Key×V))
  | set (S:Int->Bool) (n:Nat)
  | ins (C dx:Addr) (fs:List (Str×V))
  | own (x:Addr)
  | xd (fs:List (Str×V))
  | met (f x:Addr)
  | rng (lo hi:Int)
  | frz (o:Obj) (u:HO)
  | tbl (ps:Array Value)
  | ext (φ:Heap->Prop)
abbrev Hp:=Addr->Option HO
def upd (H:Hp) (a:Addr) (o:HO):Hp:=λ b=>if b=a then some o else H b
theorem upd_same {H:Hp} {a:Addr} {o:HO}:upd H a o a=some o:=by unfold upd; rw [if_pos rfl]
theorem c9 {H:Hp} {a b:Addr} {o:HO} (h:b≠a):upd H a o b=H b:=by unfold upd; rw [if_neg h]
theorem R0 {H:Hp} {a:Addr} {o u:HO}:upd (upd H a o) a u=upd H a u:=by
 funext b; unfold upd; split <;> rfl
theorem x6 {H:Hp} {a b:Addr} {o u:HO} (h:H a=some o) (h':H b=some u) (d:o≠u):a≠b:=by
 intro e; subst e; rw [h] at h'; exact d (aN h')
theorem d9 {H:Hp} {a b:Addr} {o:HO} (h:H a=some o) (h':H b=none):a≠b:=by
 intro e; subst e; rw [h] at h'; cases h'
section
variable (P:Program) (w:World)
def ObjOk (H:Hp) (h:Heap) (a:Addr):HO->Prop
 | .lst xs=>xs.length<=sizeLine/\∃ (its:List Value) (n:Nat),Vals xs its/\h.get? a=some { cls:=.type "list",data:=.seq its.toArray n }
 | .tup xs=>xs.length<=sizeLine/\∃ its:List Value,Vals xs its/\IsTup h a its.toArray
 | .dK kvs=>kvs.length<=sizeLine/\(a==sysModules)=false/\∃ vs,KV kvs vs/\h.DictOf (a3t P w) a vs
 | .dT kvs=>kvs.length<=sizeLine/\(a==sysModules)=false/\∃ xs:List (List Key×Addr×Value),
   Paired (λ (p:List Key×V) (q:List Key×Addr×Value)=>p.1=q.1/\H q.2.1=some (.tup (p.1.map kV))/\RelV p.2 q.2.2) kvs xs ∧
   ∃ o es ep,h.get? a=some o/\o.ExactDict/\o.data=.dict es ep/\es.toList=xs.map (entryOfKey (tupleKind (a3t P w)))/\(xs.map (·.1)).Nodup
 | .set S n=>h.SetOf (intKind P w) a S n
 | .ins C dx fs=>H dx=some (.own a)/\fs.length<=1000/\dx≠a/\h.get? a=some (W.instObj C dx) ∧
   ∃ mA,h.Ns1 dx mA/\(∀ f,RelO (fs.lookup f) (mA f))/\gT mA (fs.map (·.1))
 | .own _=>∃ o,h.get? a=some o
 | .xd fs=>∃ mA,h.Ns1 a mA/\∀ f,RelO (fs.lookup f) (mA f)
 | .rng lo hi=>∃ t u v,h.get? a=some { cls:=.type "range",data:=.fields #[.int lo t,.int hi u,.int 1 v] }
 | .frz o u=>h.get? a=some o/\ObjOk H h a u
 | .tbl ps=>h.get? a=some { cls:=.none,data:=.fields ps }
 | .met f x=>h.get? a=some (W.methodObj (.ref f) (.ref x))
 | .ext φ=>φ h/\(∃ o,h.get? a=some o)/\∀ h1 h2:Heap,φ h1->(∀ o,h1.get? a=some o->h2.get? a=some o)->φ h2
def HOk (H:Hp) (h:Heap):Prop:=∀ a o,H a=some o->ObjOk P w H h a o
end
section
variable {P:Program} {w:World} {H H':Hp} {h h':Heap} {a:Addr} {o:HO}
theorem ObjOk.lt (x:ObjOk P w H h a o):a<h.objs.size:=by
 cases o with
 | lst xs=>obtain ⟨_,_,_,_,e⟩:=x; exact Heap.lt_size e
 | tup xs=>obtain ⟨_,_,_,p⟩:=x; exact p.lt
 | dK kvs=>obtain ⟨_,_,_,_,o,_,_,e,_⟩:=x; exact Heap.lt_size e
 | dT kvs=>obtain ⟨_,_,_,_,o,_,_,e,_⟩:=x; exact Heap.lt_size e
 | set S n=>obtain ⟨o,_,_,_,e,_⟩:=x; exact Heap.lt_size e
 | ins C dx fs=>obtain ⟨_,_,_,e,_⟩:=x; exact Heap.lt_size e
 | own y=>obtain ⟨_,e⟩:=x; exact Heap.lt_size e
 | xd fs=>obtain ⟨_,⟨_,_,_,e,_⟩,_⟩:=x; exact Heap.lt_size e
 | rng lo hi=>obtain ⟨_,_,_,e⟩:=x; exact Heap.lt_size e
 | frz ob u=>obtain ⟨e,_⟩:=x; exact Heap.lt_size e
 | tbl ps=>exact Heap.lt_size (show h.get? a=some _ from x)
 | met f y=>exact Heap.lt_size (show h.get? a=some _ from x)
 | ext φ=>obtain ⟨_,⟨_,e⟩,_⟩:=x; exact Heap.lt_size e
theorem Paired.mapP {α β:Type} {F G:α->β->Prop}:∀ {l₁:List α} {l₂:List β},Paired F l₁ l₂->(∀ a b,F a b->G a b)->Paired G l₁ l₂
 | _,_,.nil,_=>.nil
 | _,_,.cons r t,f=>.cons (f _ _ r) (Paired.mapP t f)
theorem Paired.imp' {α β:Type} {F G:α->β->Prop} (f:∀ a b,F a b->G a b) {l₁:List α} {l₂:List β} (r:Paired F l₁ l₂):Paired G l₁ l₂:=Paired.mapP r f
theorem ObjOk.stay (x:ObjOk P w H h a o) (k:∀ b u,(b=a\/H b=some (.own a))->h.get? b=some u->h'.get? b=some u)
  (ho:∀ b,H b=some (.own a)->H' b=some (.own a)) (ht:∀ b xs,H b=some (.tup xs)->H' b=some (.tup xs)):ObjOk P w H' h' a o:=by
 induction o with
 | lst xs=>obtain ⟨z,its,n,r,e⟩:=x; exact ⟨z,its,n,r,k _ _ (.inl rfl) e⟩
 | tup xs=>obtain ⟨z,its,r,ob,e,c⟩:=x; exact ⟨z,its,r,ob,k _ _ (.inl rfl) e,c⟩
 | dK kvs=>obtain ⟨z,y,vs,r,ob,es,ep,e,c⟩:=x; exact ⟨z,y,vs,r,ob,es,ep,k _ _ (.inl rfl) e,c⟩
 | dT kvs =>
  obtain ⟨z,y,xs,r,ob,es,ep,e,c⟩:=x;exact ⟨z,y,xs,Paired.mapP r λ p q z=>⟨z.1,ht _ _ z.2.1,z.2.2⟩,ob,es,ep,k _ _ (.inl rfl) e,c⟩
 | set S n=>obtain ⟨ob,es,ep,t,e,c⟩:=x; exact ⟨ob,es,ep,t,k _ _ (.inl rfl) e,c⟩
 | ins C dx fs =>
  obtain ⟨d,z,ne,e,mA,⟨od,es,ep,e2,c⟩,r⟩:=x;exact ⟨ho _ d,z,ne,k _ _ (.inl rfl) e,mA,⟨od,es,ep,k _ _ (.inr d) e2,c⟩,r⟩
 | own y=>obtain ⟨ob,e⟩:=x; exact ⟨ob,k _ _ (.inl rfl) e⟩
 | xd fs=>obtain ⟨mA,⟨od,es,ep,e,c⟩,r⟩:=x; exact ⟨mA,⟨od,es,ep,k _ _ (.inl rfl) e,c⟩,r⟩
 | rng lo hi=>obtain ⟨t,u,v,e⟩:=x; exact ⟨t,u,v,k _ _ (.inl rfl) e⟩
 | frz ob u ih=>obtain ⟨e,q⟩:=x; exact ⟨k _ _ (.inl rfl) e,ih q⟩
 | tbl ps =>
  have e:h.get? a=some { cls:=.none,data:=.fields ps }:=x
  show h'.get? a=some { cls:=.none,data:=.fields ps }
  exact k a _ (.inl rfl) e
 | met f y =>
  have e:h.get? a=some (W.methodObj (.ref f) (.ref y)):=x
  show h'.get? a=some (W.methodObj (.ref f) (.ref y))
  exact k a _ (.inl rfl) e
 | ext φ=>obtain ⟨p,⟨o,e⟩,st⟩:=x; exact ⟨st _ _ p λ o q=>k _ _ (.inl rfl) q,⟨o,k _ _ (.inl rfl) e⟩,st⟩
theorem HOk.lt (x:HOk P w H h) (e:H a=some o):a<h.objs.size:=(x a o e).lt
theorem HOk.fresh (x:HOk P w H h) (e:h.objs.size<=a):H a=none:=by
 cases q:H a with
 | none=>rfl
 | some u=>exact absurd (aO (x.lt q) e) (bJ _)
theorem HOk.kept (x:HOk P w H h) (k:∀ b u,h.get? b=some u->h'.get? b=some u):HOk P w H h':=λ a o e =>
 (x a o e).stay (λ b u _ q=>k b u q) (λ _ q=>q) λ _ _ q=>q
theorem HOk.laid (x:HOk P w H h) (k:∀ b u,h.get? b=some u->h'.get? b=some u) (hp:h.objs.size<=a) (new:ObjOk P w (upd H a o) h' a o):HOk P w (upd H a o) h':=λ b u e=>by
 have hn:=x.fresh hp
 by_cases hb:b=a
 ·subst hb; rw [upd_same] at e; cases e; exact new
 ·rw [c9 hb] at e
  exact (x b u e).stay (λ c v _ q=>k c v q) (λ c q=>by rw [c9 (d9 q hn)]; exact q) λ c xs q=>by rw [c9 (d9 q hn)]; exact q
end
def Rd (H:Hp) (a:Addr) (u:HO):Prop:=H a=some u\/∃ o,H a=some (.frz o u)
theorem Rd.ok {P:Program} {w:World} {H:Hp} {h:Heap} {a:Addr} {u:HO} (r:Rd H a u) (x:HOk P w H h):ObjOk P w H h a u:=by
 rcases r with r | ⟨o,r⟩
 ·exact x a u r
 ·obtain ⟨_,q⟩:=x a _ r
  exact q
def Mut:Option HO->Prop
 | some (.lst _)=>True
 | some (.dK _)=>True
 | some (.dT _)=>True
 | some (.set _ _)=>True
 | some (.ins _ _ _)=>True
 | some (.ext _)=>True
 | _=>False
section
variable {P:Program} {w:World} {H:Hp} {h h':Heap} {x e:Addr} {o':HO}
theorem HOk.write (ok:HOk P w H h) (mu:Mut (H x)) (he:e=x\/H e=some (.own x)) (k:∀ b u,b≠e->h.get? b=some u->h'.get? b=some u) (heo:∃ u,h'.get? e=some u)
  (new:ObjOk P w (upd H x o') h' x o'):HOk P w (upd H x o') h':=λ b u q=>by
 have nown:∀ c y,H c=some (.own y)->c≠x:=λ c y r z=>by subst z; rw [r] at mu; exact mu
 have ntup:∀ c xs,H c=some (.tup xs)->c≠x:=λ c xs r z=>by subst z; rw [r] at mu; exact mu
 by_cases hb:b=x
 ·subst hb; rw [upd_same] at q; cases q; exact new
 ·rw [c9 hb] at q
  by_cases hbe:b=e
  ·have q':H b=some (.own x):=by
    rcases he with z | z
    ·exact absurd (hbe.trans z) hb
    ·rw [hbe]; exact z
   rw [q] at q'; cases q';obtain ⟨v,hv⟩:=heo;exact ⟨v,by rw [hbe]; exact hv⟩
  ·refine (ok b u q).stay (λ c v hc r=>k c v ?_ r) (λ c r=>by rw [c9 (nown c b r)]; exact r) λ c xs r=>by rw [c9 (ntup c xs r)]; exact r
   rcases hc with rfl | hc
   ·exact hbe
   ·rintro rfl
    rcases he with z | z
    ·exact nown c b hc z
    ·rw [hc] at z; cases z; exact hb rfl
end
structure Un (fs ex:List Addr) (H H':Hp) (h h':Heap):Prop where
 keep:∀ b o,h.get? b=some o->H b=none->b ∉ fs->b ∉ ex->h'.get? b=some o
 slot:∀ b o,h.get? b=some o->H b=none->b∈fs->b ∉ ex->∃ sl,h'.get? b=some { o with slots:=sl }
 free:∀ b o,h.get? b=some o->H b=none->b ∉ ex->H' b=none
 there:∀ b o,h.get? b=some o->b ∉ ex->∃ o',h'.get? b=some o'
 tups:∀ b xs,H b=some (.tup xs)->H' b=some (.tup xs)
 frzs:∀ b o u,H b=some (.frz o u)->H' b=some (.frz o u)
 tbls:∀ b ps,H b=some (.tbl ps)->∃ more,H' b=some (.tbl (ps++more))
section
variable {fs fs' ex ex':List Addr} {H H1 H2:Hp} {h h1 h2 h':Heap} {a x e:Addr} {o:HO}
theorem Un.any (u:Un fs ex H H1 h h1) {b:Addr} {ob:Obj} (q:h.get? b=some ob) (n:H b=none) (hx:b ∉ ex):∃ sl,h1.get? b=some { ob with slots:=sl }:=by
 by_cases hb:b∈fs
 ·exact u.slot b ob q n hb hx
 ·exact ⟨ob.slots,u.keep b ob q n hb hx⟩
theorem Un.kept (k:∀ b u,h.get? b=some u->h'.get? b=some u):Un fs ex H H h h' :=
 ⟨λ b ob q _ _ _=>k b ob q,λ b ob q _ _ _=>⟨ob.slots,k b ob q⟩,λ _ _ _ n _=>n,λ b ob q _=>⟨ob,k b ob q⟩,λ _ _ q=>q,λ _ _ _ q=>q,λ _ ps q=>⟨#[],by rw [q]; simp⟩⟩
theorem Un.refl:Un fs ex H H h h:=Un.kept λ _ _ q=>q
theorem Un.laid (k:∀ b u,h.get? b=some u->h'.get? b=some u) (hp:h.objs.size<=a) (hn:H a=none):Un fs ex H (upd H a o) h h' where
 keep:=λ b u q _ _ _=>k b u q
 slot:=λ b u q _ _ _=>⟨u.slots,k b u q⟩
 free:=λ b u q n _=>by rw [c9 (bI (aO (Heap.lt_size q) hp))]; exact n
 there:=λ b u q _=>⟨u,k b u q⟩
 tups:=λ b xs q=>by rw [c9 (d9 q hn)]; exact q
 frzs:=λ b u xs q=>by rw [c9 (d9 q hn)]; exact q
 tbls:=λ b ps q=>⟨#[],by rw [c9 (d9 q hn),q]; simp⟩
theorem Un.write (mu:Mut (H x)) (he:e=x\/H e=some (.own x)) (k:∀ b u,b≠e->h.get? b=some u->h'.get? b=some u) (heo:∃ u,h'.get? e=some u):Un fs ex H (upd H x o) h h':=by
 have hx:∀ b,H b=none->b≠x:=λ b n z=>by subst z; rw [n] at mu; exact mu
 have hb:∀ b,H b=none->b≠e:=λ b n z=>by
  subst z;rcases he with r | r
  ·exact hx b n r
  ·rw [n] at r; cases r
 have hm:∀ b u,H b=some u->¬ Mut (some u)->b≠x:=λ b u q nm z=>by subst z; rw [q] at mu; exact nm mu
 refine ⟨λ b u q n _ _=>k b u (hb b n) q,λ b u q n _ _=>⟨u.slots,k b u (hb b n) q⟩,λ b u q n _=>by rw [c9 (hx b n)]; exact n,λ b u q _=>?_,
  λ b xs q=>by rw [c9 (hm b _ q λ z=>z)]; exact q,λ b u xs q=>by rw [c9 (hm b _ q λ z=>z)]; exact q,λ b ps q=>⟨#[],by rw [c9 (hm b _ q λ z=>z),q]; simp⟩⟩
 by_cases hbe:b=e
 ·subst hbe; exact heo
 ·exact ⟨u,k b u hbe q⟩
end
def trk (h:Heap) (H:Hp):List Addr:=(aF h.objs.size).filter λ a=>(H a).isSome
def a2G (h:Heap) (H:Hp):Heap:=W.hideAll h (trk h H)
theorem a7Z (h:Heap) (H:Hp):(a2G h H).objs.size=h.objs.size:=W.hideAll_size _ _
theorem a9C {h:Heap} {H:Hp} {b:Addr} {o:Obj} (e:h.get? b=some o) (n:H b=none):(a2G h H).get? b=some o :=
 W.hideAll_get _ e λ hm=>by
  have q:(H b).isSome=true:=(fQ.mp hm).2;rw [n] at q; simp at q
theorem b1g {h:Heap} {H:Hp} {b:Addr} {o:Obj} (e:(a2G h H).get? b=some o):h.get? b=some o/\H b=none:=by
 have e':h.get? b=some o:=W.of_hideAll (trk h H) e;refine ⟨e',?_⟩
 cases q:H b with
 | none=>rfl
 | some x =>
  have hm:b∈trk h H:=fQ.mpr ⟨List.mem_range.mpr (Heap.lt_size e'),by simp [q]⟩;have z:(a2G h H).get? b=none:=W.hideAll_none (trk h H) hm;rw [z] at e; cases e
def b1x (g h:Heap) (L:Addr):List (Addr×Obj):=(aF h.objs.size).filterMap λ a=>if a=L\/(g.get? a).isSome=true then none else (h.get? a).map λ o=>(a,o)
def rest (g h:Heap) (L d:Addr):List (Addr×Obj):=(b1x g h L).filter λ p=>decide (p.1≠d)
structure Mod (K:W.Frag) (mg:Str->Option Value) (base:Heap):Prop where
 kin:K.In base
 glob:base.Ns mainGlobals mg
 blt:∃ mb,base.Ns builtinsNs mb/\∀ x:Str,x≠"__name__"->mb x=bootBuiltins x
 nolimit:base.NoLimit
structure Cx where
 prog:Program
 w:World
 K:W.Frag
 mg:Str->Option Value
 base:Heap
 A:Around
 N:List Str
 s₀:Shared
 H₀:Hp
 env:Env
 outer:List Env
 stack:List Env
 ex:List Addr
 fn:Str->Bool
 calm:Bool
 pn:List (Addr×Obj)
 xe:Value->Shared->Prop
def frs (l:List Env):List Addr:=l.filterMap (·.frame)
abbrev Cx.fs (X:Cx):List Addr:=frs X.outer
def Vis (sc:Scope) (x:Str):Prop:=sc.names.lookup x=some .local\/sc.names.lookup x=some .cell\/sc.names.lookup x=some .free
def Loc (sc:Scope) (x:Str):Prop:=sc.names.lookup x=some .local\/sc.names.lookup x=some .cell
def b5k (env:Env) (h:Heap) (m:Str->Option Value) (x:Str) (u:Value):Prop :=
 (env.kindOf x=some .local/\m x=some u)\/((env.kindOf x=some .cell\/env.kindOf x=some .free)/\∃ c,env.cells.lookup x=some c/\h.IsCell c (some u))
structure Cx.Ok (X:Cx):Prop where
 mod:Mod X.K X.mg X.base
 kind:X.env.scope.kind=.function
 glob:X.env.globals=mainGlobals
 blt:X.env.builtins=builtinsNs
 above:X.s₀.heap.objs.size<=X.env.locals
 inj:∀ x y c,X.env.cells.lookup x=some c->X.env.cells.lookup y=some c->x=y
 has:∀ x,(X.env.kindOf x=some .cell\/X.env.kindOf x=some .free)->∃ c,X.env.cells.lookup x=some c
 cab:∀ x c,X.fn x=true->X.env.cells.lookup x=some c->X.s₀.heap.objs.size<=c
 hd:X.calm=true->X.A.handled=none
 frames:X.A.frames=some X.stack
 stk:X.stack=X.outer\/(X.stack=X.env::X.outer/\X.env.frame=some X.env.locals)
 exf:∀ b∈X.ex,b≠X.env.locals/\∀ x c,X.env.cells.lookup x=some c->c≠b
 bs:∀ b o,X.base.get? b=some o->X.s₀.heap.get? b=some o/\X.H₀ b=none
 bsz:X.base.objs.size<=X.s₀.heap.objs.size
 noex:∀ b o,X.base.get? b=some o->b ∉ X.ex
 exfs:∀ b∈X.ex,b ∉ X.fs
 funs:X.s₀.heap.FunFrames X.base X.outer
 frf:∀ b∈X.fs,X.H₀ b=none
structure Inv (X:Cx) (pins:List (Addr×Obj)) (σ:List (Option V)) (H:Hp) (s:Shared):Prop where
 ok:X.Ok
 os:s.os=X.s₀.os
 bare:AllBare s.gens
 base:Un X.fs X.ex X.H₀ H X.s₀.heap s.heap
 loc:∃ m,s.heap.Ns X.env.locals m/\∀ (i:Nat) (x:Str) (v:V),X.N[i]?=some x->σ[i]?=some (some v)->Vis X.env.scope x->∃ u,RelV v u/\b5k X.env s.heap m x u
 cell:∀ x c,X.env.cells.lookup x=some c->∃ v,s.heap.IsCell c v
 free:H X.env.locals=none
 freeC:∀ x c,X.env.cells.lookup x=some c->H c=none
 pin:∀ p∈X.pn++pins,s.heap.get? p.1=some p.2/\H p.1=none/\p.1≠X.env.locals/\p.1 ∉ X.fs/\∀ v,p.2.data≠.cell v
 hok:HOk X.prog X.w H s.heap
 len:σ.length=X.N.length
section
variable {X:Cx} {pins:List (Addr×Obj)} {σ:List (Option V)} {H H':Hp} {s:Shared} {h':Heap}
theorem Cx.Ok.nofr (ok:X.Ok) {b:Addr} {o:Obj} (e:X.base.get? b=some o):b ∉ X.fs:=λ hb=>by
 have:=(ok.funs.mem hb).1;rw [e] at this; cases this
theorem Inv.bs (I:Inv X pins σ H s):∀ b o,X.base.get? b=some o->s.heap.get? b=some o/\H b=none:=λ b o e =>
 ⟨I.base.keep b o (I.ok.bs b o e).1 (I.ok.bs b o e).2 (I.ok.nofr e) (I.ok.noex b o e),I.base.free b o (I.ok.bs b o e).1 (I.ok.bs b o e).2 (I.ok.noex b o e)⟩
theorem Inv.bk (I:Inv X pins σ H s):∀ b o,X.base.get? b=some o->s.heap.get? b=some o:=λ b o e=>(I.bs b o e).1
theorem Inv.mod (I:Inv X pins σ H s):Mod X.K X.mg X.base:=I.ok.mod
theorem Inv.kIn (I:Inv X pins σ H s):X.K.In s.heap:=I.ok.mod.kin.keeps I.bk
theorem Inv.nolimit (I:Inv X pins σ H s):s.heap.NoLimit:=I.ok.mod.nolimit.keeps I.bk
theorem Inv.fr (I:Inv X pins σ H s):∃ m,Fr X.base X.env.locals s.heap m :=
 let ⟨m,hn,_⟩:=I.loc
 ⟨m,hn,I.bk,aZ I.ok.bsz I.ok.above⟩
theorem Inv.lt (I:Inv X pins σ H s):X.env.locals<s.heap.objs.size:=let ⟨_,hn,_⟩:=I.loc; hn.lt
theorem Inv.sz (I:Inv X pins σ H s):X.s₀.heap.objs.size<=s.heap.objs.size:=aZ I.ok.above (dA I.lt)
theorem Inv.nofs (I:Inv X pins σ H s) {a:Addr} (h:s.heap.objs.size<=a):a ∉ X.fs:=λ hb=>by
 obtain ⟨_,o,ho,_⟩:=I.ok.funs.mem hb;exact absurd (aO (Heap.lt_size ho) (aZ I.sz h)) (bJ _)
theorem Inv.cne (I:Inv X pins σ H s):∀ x c,X.env.cells.lookup x=some c->c≠X.env.locals:=λ x c e z=>by
 obtain ⟨v,o,ho,hd⟩:=I.cell x c e;obtain ⟨m,⟨o',es,ep,ho',hd',_⟩,_⟩:=I.loc;rw [z,ho'] at ho; cases ho; rw [hd'] at hd; cases hd
theorem Inv.funs (I:Inv X pins σ H s):s.heap.FunFrames X.base X.outer:=by
 have all:∀ (l:List Env),(∀ b∈frs l,b∈X.fs)->X.s₀.heap.FunFrames X.base l->s.heap.FunFrames X.base l:=by
  intro l
  induction l with
  | nil=>intro _ _; trivial
  | cons env r ih =>
   intro hs hl;obtain ⟨hk,⟨L,o,hf,hn,ho,hd⟩,hr⟩:=hl;have hL:L∈X.fs:=hs L (by unfold frs; rw [gU,hf]; exact cF);obtain ⟨sl,e⟩:=I.base.slot L o ho (I.ok.frf L hL) hL λ z=>I.ok.exfs L z hL;exact ⟨hk,⟨L,_,hf,hn,e,hd⟩,ih (λ b hb=>hs b (by unfold frs; rw [gU,hf]; exact bM _ hb)) hr⟩
 exact all X.outer (λ _ hb=>hb) I.ok.funs
theorem Inv.stack (I:Inv X pins σ H s):s.heap.FunFrames X.base X.stack:=by
 rcases I.ok.stk with e | ⟨e,hf⟩
 ·rw [e]; exact I.funs
 ·rw [e]
  obtain ⟨m,hn,_⟩:=I.loc;refine .cons (by rw [I.ok.kind]; decide) hf hn ?_ I.funs;exact Heap.get?_none_of_le (aZ I.ok.bsz I.ok.above)
theorem Inv.stkSub (I:Inv X pins σ H s):∀ b∈frs X.stack,b∈X.env.locals::X.fs:=λ b hb=>by
 rcases I.ok.stk with e | ⟨e,hf⟩
 ·rw [e] at hb; exact bM _ hb
 ·rw [e] at hb
  unfold frs at hb;rw [gU,hf] at hb;exact hb
theorem Inv.stkFree (I:Inv X pins σ H s):∀ b∈frs X.stack,H b=none:=λ b hb=>by
 rcases aH.mp (I.stkSub b hb) with e | hb
 ·rw [e]; exact I.free
 ·obtain ⟨_,o,ho,_⟩:=I.ok.funs.mem hb
  exact I.base.free b o ho (I.ok.frf b hb) λ z=>I.ok.exfs b z hb
theorem Inv.step {g':Array GenState} {t':Nat} {d':Drawn} {ch:List Addr} (I:Inv X pins σ H s)
  (hch:∀ b∈ch,(b∈X.ex\/X.s₀.heap.objs.size<=b)/\b≠X.env.locals/\(∀ x c,X.env.cells.lookup x=some c->c≠b)/\∀ p∈X.pn++pins,p.1≠b)
  (keep:∀ b o,b≠X.env.locals->b ∉ X.fs->b ∉ ch->s.heap.get? b=some o->H b=none->h'.get? b=some o)
  (slot:∀ b o,b≠X.env.locals->b∈X.fs->b ∉ ch->s.heap.get? b=some o->H b=none->∃ sl,h'.get? b=some { o with slots:=sl }) (free:∀ b o,b ∉ ch->s.heap.get? b=some o->H b=none->H' b=none)
  (there:∀ b o,b ∉ ch->s.heap.get? b=some o->∃ o',h'.get? b=some o')
  (tups:∀ b xs,H b=some (.tup xs)->H' b=some (.tup xs)) (frzs:∀ b o u,H b=some (.frz o u)->H' b=some (.frz o u)) (tbls:∀ b ps,H b=some (.tbl ps)->∃ more,H' b=some (.tbl (ps++more)))
  (ns:∀ m,s.heap.Ns X.env.locals m->h'.Ns X.env.locals m) (hok:HOk X.prog X.w H' h') (hg:AllBare g') :
  Inv X pins σ H' { s with heap:=h',gens:=g',drawn:=d',toks:=t' }:=by
 have neL:∀ b o,X.s₀.heap.get? b=some o->b≠X.env.locals:=λ b o e=>bI (aO (Heap.lt_size e) I.ok.above);have neC:∀ b o,X.s₀.heap.get? b=some o->b ∉ X.ex->b ∉ ch:=λ b o e hx hb=>by
  rcases (hch b hb).1 with z | z
  ·exact hx z
  ·exact absurd (aO (Heap.lt_size e) z) (bJ _)
 have cellK:∀ x c,X.env.cells.lookup x=some c->∀ v,s.heap.IsCell c v->h'.IsCell c v:=λ x c e v ⟨o,ho,hd⟩=>by
  have nch:c ∉ ch:=λ z=>(hch c z).2.2.1 x c e rfl
  by_cases hc:c∈X.fs
  ·obtain ⟨sl,q⟩:=slot c o (I.cne x c e) hc nch ho (I.freeC x c e)
   exact ⟨_,q,hd⟩
  ·exact ⟨o,keep c o (I.cne x c e) hc nch ho (I.freeC x c e),hd⟩
 refine ⟨I.ok,I.os,hg,⟨λ b o e n hb hx=>?_,λ b o e n hb hx=>?_,λ b o e n hx=>?_,λ b o e hx=>?_,λ b xs e=>tups b xs (I.base.tups b xs e),λ b o xs e=>frzs b o xs (I.base.frzs b o xs e),λ b ps e=>?_⟩,?_,λ x c e=>?_,?_,λ x c e=>?_,λ p hp=>?_,hok,I.len⟩
 ·exact keep b o (neL b o e) hb (neC b o e hx) (I.base.keep b o e n hb hx) (I.base.free b o e n hx)
 ·obtain ⟨sl,e1⟩:=I.base.slot b o e n hb hx
  obtain ⟨sl',e2⟩:=slot b _ (neL b o e) hb (neC b o e hx) e1 (I.base.free b o e n hx);exact ⟨sl',e2⟩
 ·obtain ⟨o',e1⟩:=I.base.there b o e hx
  exact free b o' (neC b o e hx) e1 (I.base.free b o e n hx)
 ·obtain ⟨o',e1⟩:=I.base.there b o e hx
  exact there b o' (neC b o e hx) e1
 ·obtain ⟨m1,e1⟩:=I.base.tbls b ps e
  obtain ⟨m2,e2⟩:=tbls b _ e1;exact ⟨m1++m2,by rw [e2,Array.append_assoc]⟩
 ·obtain ⟨m,hn,hl⟩:=I.loc
  refine ⟨m,ns m hn,λ i x v e1 e2 e3=>?_⟩;obtain ⟨u,r,l⟩:=hl i x v e1 e2 e3;refine ⟨u,r,?_⟩;rcases l with l | ⟨k,c,e,z⟩
  ·exact .inl l
  ·exact .inr ⟨k,c,e,cellK x c e _ z⟩
 ·obtain ⟨v,z⟩:=I.cell x c e
  exact ⟨v,cellK x c e v z⟩
 ·obtain ⟨m,⟨o,_,_,ho,_⟩,_⟩:=I.loc
  exact free _ o (λ z=>(hch _ z).2.1 rfl) ho I.free
 ·obtain ⟨v,o,ho,hd⟩:=I.cell x c e
  exact free c o (λ z=>(hch c z).2.2.1 x c e rfl) ho (I.freeC x c e)
 ·obtain ⟨e,n,ne,nf,d⟩:=I.pin p hp
  have nch:p.1 ∉ ch:=λ z=>(hch p.1 z).2.2.2 p hp rfl;exact ⟨keep p.1 p.2 ne nf nch e n,free p.1 p.2 nch e n,ne,nf,d⟩
theorem Inv.un {t':Nat} (I:Inv X pins σ H s) (u:Un X.fs [] H H' s.heap h') (hok:HOk X.prog X.w H' h'):Inv X pins σ H' { s with heap:=h',toks:=t' }:=by
 obtain ⟨m,⟨o,es,ep,ho,r⟩,_⟩:=id I.loc;obtain ⟨sl,hL⟩:=u.any ho I.free (by simp);exact I.step (g':=s.gens) (d':=s.drawn) (ch:=[]) (λ _ z=>nomatch z) (λ b o _ hb _ e n=>u.keep b o e n hb (by simp)) (λ b o _ hb _ e n=>u.slot b o e n hb (by simp)) (λ b o _ e n=>u.free b o e n (by simp)) (λ b o _ e=>u.there b o e (by simp)) u.tups u.frzs u.tbls (λ m' hm=>by
  obtain ⟨o',es',ep',ho',r'⟩:=hm;rw [ho] at ho'; cases ho';exact ⟨_,es',ep',hL,r'⟩) hok I.bare
theorem Inv.call {g':Array GenState} {t':Nat} {d':Drawn} {ch:List Addr} (I:Inv X pins σ H s) (u:Un (frs X.stack) ch H H' s.heap h') (hok:HOk X.prog X.w H' h') (hg:AllBare g')
  (hch:∀ b∈ch,(b∈X.ex\/X.s₀.heap.objs.size<=b)/\b≠X.env.locals/\(∀ x c,X.env.cells.lookup x=some c->c≠b)/\∀ p∈X.pn++pins,p.1≠b) :
  Inv X pins σ H' { s with heap:=h',gens:=g',drawn:=d',toks:=t' }:=by
 obtain ⟨m,⟨o,es,ep,ho,r⟩,_⟩:=id I.loc;obtain ⟨sl,hL⟩:=u.any ho I.free λ z=>(hch _ z).2.1 rfl;exact I.step (ch:=ch) hch (λ b o hL hb hc e n=>u.keep b o e n (λ z=>(aH.mp (I.stkSub b z)).elim hL hb) hc) (λ b o _ _ hc e n=>u.any e n hc) (λ b o hc e n=>u.free b o e n hc) (λ b o hc e=>u.there b o e hc) u.tups u.frzs u.tbls (λ m' hm=>by
  obtain ⟨o',es',ep',ho',r'⟩:=hm;rw [ho] at ho'; cases ho';exact ⟨_,es',ep',hL,r'⟩) hok hg
theorem Inv.turned {t':Nat} {it:Addr} (I:Inv X pins σ H s) (k:∀ b o,b≠it->s.heap.get? b=some o->h'.get? b=some o) (hn:H it=none) (hL:it≠X.env.locals)
  (h1:it∈X.ex\/X.s₀.heap.objs.size<=it) (h2:∀ x c,X.env.cells.lookup x=some c->c≠it) (h3:∀ p∈X.pn++pins,p.1≠it):Inv X pins σ H { s with heap:=h',toks:=t' }:=by
 have nit:∀ b u,H b=some u->b≠it:=λ b u e z=>by rw [z,hn] at e; cases e
 refine I.step (g':=s.gens) (d':=s.drawn) (ch:=[it]) (λ b hb=>?_) (λ b o _ _ hc e _=>k b o (λ z=>hc (by simp [z])) e) (λ b o _ _ hc e _=>⟨o.slots,k b o (λ z=>hc (by simp [z])) e⟩) (λ _ _ _ _ n=>n)
  (λ b o hc e=>⟨o,k b o (λ z=>hc (by simp [z])) e⟩) (λ _ _ e=>e) (λ _ _ _ e=>e) (λ b ps e=>⟨#[],by rw [e]; simp⟩) (λ m hm=>?_) (λ b u e=>?_) I.bare
 ·have e:b=it:=by simpa using hb
  subst e;exact ⟨h1,hL,h2,h3⟩
 ·obtain ⟨o,es,ep,ho,r⟩:=hm
  exact ⟨o,es,ep,k _ o (aQ hL) ho,r⟩
 ·refine (I.hok b u e).stay (λ c v hc q=>k c v ?_ q) (λ _ q=>q) λ _ _ q=>q
  rcases hc with z | z
  ·rw [z]; exact nit b u e
  ·exact nit c _ z
theorem Inv.tok (I:Inv X pins σ H s) (t:Nat):Inv X pins σ H { s with toks:=t }:=I.un (h':=s.heap) (t':=t) Un.refl I.hok
theorem Inv.kept {t':Nat} (I:Inv X pins σ H s) (k:∀ b u,s.heap.get? b=some u->h'.get? b=some u):Inv X pins σ H { s with heap:=h',toks:=t' }:=I.un (Un.kept k) (I.hok.kept k)
theorem Inv.laid {a:Addr} {o:HO} {t':Nat} (I:Inv X pins σ H s) (k:∀ b u,s.heap.get? b=some u->h'.get? b=some u) (hp:s.heap.objs.size<=a) (new:ObjOk X.prog X.w (upd H a o) h' a o) :
  Inv X pins σ (upd H a o) { s with heap:=h',toks:=t' }:=I.un (Un.laid k hp (I.hok.fresh hp)) (I.hok.laid k hp new)
theorem Inv.write {x e:Addr} {o:HO} {t':Nat} (I:Inv X pins σ H s) (mu:Mut (H x)) (he:e=x\/H e=some (.own x)) (k:∀ b u,b≠e->s.heap.get? b=some u->h'.get? b=some u) (heo:∃ u,h'.get? e=some u)
  (new:ObjOk X.prog X.w (upd H x o) h' x o):Inv X pins σ (upd H x o) { s with heap:=h',toks:=t' }:=I.un (Un.write mu he k heo) (I.hok.write mu he k heo new)
theorem Inv.weak {σ':List (Option V)} (I:Inv X pins σ H s) (hl:σ'.length=σ.length) (w:∀ (i:Nat) v,σ'[i]?=some (some v)->σ[i]?=some (some v)):Inv X pins σ' H s :=
 ⟨I.ok,I.os,I.bare,I.base,let ⟨m,hn,hl'⟩:=I.loc; ⟨m,hn,λ i x v e1 e2 e3=>hl' i x v e1 (w i v e2) e3⟩,I.cell,I.free,I.freeC,I.pin,I.hok,hl.trans I.len⟩
theorem Inv.pins_of {pins':List (Addr×Obj)} (I:Inv X pins σ H s) (h:∀ p∈pins',s.heap.get? p.1=some p.2/\H p.1=none/\p.1≠X.env.locals/\p.1 ∉ X.fs/\∀ v,p.2.data≠.cell v):Inv X pins' σ H s :=
 ⟨I.ok,I.os,I.bare,I.base,I.loc,I.cell,I.free,I.freeC,λ p hp=>(aS.mp hp).elim (λ z=>I.pin p (dJ _ z)) (h p),I.hok,I.len⟩
theorem a2c {N:List Str} (hN:N.Nodup) {i j:Nat} {x:Str} (a:N[i]?=some x) (b:N[j]?=some x):i=j:=by
 obtain ⟨h1,e1⟩:=bN.mp a;obtain ⟨h2,e2⟩:=bN.mp b;exact (List.getElem_inj hN).mp (e1.trans e2.symm)
theorem a1k {M:Model} {A:Around} {E:Value->Shared->Prop} {i:Nat} {x:Str} {v:V} {u:Value} {Q:Unit->Shared->Prop} (I:Inv X pins σ H s) (hN:X.N.Nodup) (hi:X.N[i]?=some x) (hx:Loc X.env.scope x) (r:RelV v u)
  (h:∀ s',Inv X pins (σ.set i (some v)) H s'->(∃ a,Heap.SameBut a s.heap s'.heap/\(a=X.env.locals\/X.env.cells.lookup x=some a))->Q () s') (hf:X.fn x=true\/X.env.scope.names.lookup x=some .local:=by first | exact .inl rfl | exact .inr rfl | assumption):wpAny M A (storeName X.env x u) Q E s:=by
 obtain ⟨m,hn,hl⟩:=id I.loc;have hcls:(X.env.scope.kind==.class || (X.env.scope.kind==.module&&X.env.locals != X.env.globals))=false:=by rw [I.ok.kind]; rfl
 have hiσ:i<σ.length:=by rw [I.len]; exact (bN.mp hi).1
 have cne:=I.cne;have tracked:∀ {a:Addr} {h':Heap},(∃ o,s.heap.get? a=some o/\H a=none)->Heap.SameBut a s.heap h'->HOk X.prog X.w H h':=λ {a h'} ha hs b ob e=>by
  obtain ⟨_,_,hfree⟩:=ha;refine (I.hok b ob e).stay (λ c w' hc q=>(hs.2 c ?_).trans q) (λ _ q=>q) λ _ _ q=>q;rintro rfl;rcases hc with rfl | hc
  ·rw [hfree] at e; cases e
  ·rw [hfree] at hc; cases hc
 rcases hx with hk | hk
 ·refine wpAny_storeName_local hk hn (λ h' hn' hs=>?_) hcls
  obtain ⟨oL,_,_,hoL,_⟩:=id hn;refine h _ ⟨I.ok,I.os,I.bare,⟨λ b o e n hb hx=>?_,λ b o e n hb hx=>?_,I.base.free,λ b o e hx=>?_,I.base.tups,I.base.frzs,I.base.tbls⟩,⟨_,hn',λ j y v' e1 e2 e3=>?_⟩,λ y c e=>?_,I.free,I.freeC,λ p hp=>?_,tracked ⟨oL,hoL,I.free⟩ hs,by simpa using I.len⟩ ⟨_,hs,.inl rfl⟩
  ·exact (hs.2 b (bI (aO (Heap.lt_size e) I.ok.above))).trans (I.base.keep b o e n hb hx)
  ·obtain ⟨sl,e1⟩:=I.base.slot b o e n hb hx
   exact ⟨sl,(hs.2 b (bI (aO (Heap.lt_size e) I.ok.above))).trans e1⟩
  ·obtain ⟨o',e1⟩:=I.base.there b o e hx
   exact ⟨o',(hs.2 b (bI (aO (Heap.lt_size e) I.ok.above))).trans e1⟩
  ·by_cases hj:j=i
   ·subst hj
    rw [hi] at e1; cases e1;rw [bR hiσ] at e2
    cases e2;exact ⟨u,r,.inl ⟨hk,by simp⟩⟩
   ·rw [bC (aQ hj)] at e2
    obtain ⟨u',r',q⟩:=hl j y v' e1 e2 e3;refine ⟨u',r',?_⟩;rcases q with ⟨k,e⟩ | ⟨k,c,e,z⟩
    ·refine .inl ⟨k,?_⟩
     have:y≠x:=λ e=>hj (a2c hN e1 (e ▸ hi));simp [this,e]
    ·exact .inr ⟨k,c,e,z.sameBut hs (cne y c e)⟩
  ·obtain ⟨w',z⟩:=I.cell y c e
   exact ⟨w',z.sameBut hs (cne y c e)⟩
  ·obtain ⟨e,n,ne,nf,d⟩:=I.pin p hp
   exact ⟨(hs.2 p.1 ne).trans e,n,ne,nf,d⟩
 ·have hfn:X.fn x=true:=by
   rcases hf with z | z
   ·exact z
   ·rw [z] at hk; cases hk
  obtain ⟨c,hc⟩:=I.ok.has x (.inl hk);obtain ⟨w',z⟩:=I.cell x c hc;refine wpAny_storeName_cell I.ok.kind hk hc z (λ h' hc' hs=>?_);obtain ⟨oc,hoc,hocd⟩:=id z;refine h { s with heap:=h' } ⟨I.ok,I.os,I.bare,⟨λ b o e n hb hx=>?_,λ b o e n hb hx=>?_,I.base.free,λ b o e hx=>?_,I.base.tups,I.base.frzs,I.base.tbls⟩,⟨m,hn.sameBut hs (aQ (cne x c hc)),λ j y v' e1 e2 e3=>?_⟩,λ y c' e=>?_,I.free,I.freeC,λ p hp=>?_,tracked ⟨oc,hoc,I.freeC x c hc⟩ hs,by simpa using I.len⟩ ⟨c,hs,.inr hc⟩
  ·exact (hs.2 b (bI (aO (Heap.lt_size e) (I.ok.cab x c hfn hc)))).trans (I.base.keep b o e n hb hx)
  ·obtain ⟨sl,e1⟩:=I.base.slot b o e n hb hx
   exact ⟨sl,(hs.2 b (bI (aO (Heap.lt_size e) (I.ok.cab x c hfn hc)))).trans e1⟩
  ·obtain ⟨o',e1⟩:=I.base.there b o e hx
   exact ⟨o',(hs.2 b (bI (aO (Heap.lt_size e) (I.ok.cab x c hfn hc)))).trans e1⟩
  ·by_cases hj:j=i
   ·subst hj
    rw [hi] at e1; cases e1;rw [bR hiσ] at e2
    cases e2;exact ⟨u,r,.inr ⟨.inl hk,c,hc,hc'⟩⟩
   ·rw [bC (aQ hj)] at e2
    obtain ⟨u',r',q⟩:=hl j y v' e1 e2 e3;refine ⟨u',r',?_⟩;rcases q with q | ⟨k,c',e,z'⟩
    ·exact .inl q
    ·refine .inr ⟨k,c',e,z'.sameBut hs ?_⟩
     rintro rfl;exact hj (a2c hN e1 (I.ok.inj _ _ _ e hc ▸ hi))
  ·by_cases hcc:c'=c
   ·subst hcc; exact ⟨_,hc'⟩
   ·obtain ⟨w2,z2⟩:=I.cell y c' e
    exact ⟨w2,z2.sameBut hs hcc⟩
  ·obtain ⟨e,n,ne,nf,d⟩:=I.pin p hp
   refine ⟨(hs.2 p.1 ?_).trans e,n,ne,nf,d⟩;intro q;rw [q,hoc] at e;have q':oc=p.2:=aN e;exact d w' (by rw [<- q']; exact hocd)
theorem X0 {M:Model} {A:Around} {E:Value->Shared->Prop} {i:Nat} {x:Str} {v:V} {u:Value} {Q:Unit->Shared->Prop} (I:Inv X pins σ H s) (hN:X.N.Nodup) (hi:X.N[i]?=some x) (hx:Loc X.env.scope x) (r:RelV v u)
  (h:∀ s',Inv X pins (σ.set i (some v)) H s'->Q () s') (hf:X.fn x=true\/X.env.scope.names.lookup x=some .local:=by first | exact .inl rfl | exact .inr rfl | assumption):wpAny M A (storeName X.env x u) Q E s :=
 a1k I hN hi hx r (λ s' I' _=>h s' I') hf
theorem Inv.call' {s':Shared} {ch:List Addr} (I:Inv X pins σ H s) (ho:s'.os=s.os) (u:Un (frs X.stack) ch H H' s.heap s'.heap) (hok:HOk X.prog X.w H' s'.heap) (hg:AllBare s'.gens)
  (hch:∀ b∈ch,(b∈X.ex\/X.s₀.heap.objs.size<=b)/\b≠X.env.locals/\(∀ x c,X.env.cells.lookup x=some c->c≠b)/\∀ p∈X.pn++pins,p.1≠b):Inv X pins σ H' s':=by
 obtain ⟨h',g',d',t',o'⟩:=s';have e:o'=s.os:=ho;subst e;exact I.call (g':=g') (t':=t') (d':=d') u hok hg hch
end
abbrev XK:=Value->Option Addr->Hp->Prop
abbrev St:=List (Option V)
abbrev VK:=V->Hp->Prop
abbrev TE:=St->Hp->VK->Prop
abbrev TT:=St->Hp->(Bool->Hp->Prop)->Prop
abbrev TA:=St->Hp->(List V->Hp->Prop)->Prop
structure Ends where
 nx:St->Hp->Prop
 rt:VK
 bk:St->Hp->Prop:=λ _ _=>False
 ct:St->Hp->Prop:=λ _ _=>False
abbrev TS:=Ends->St->Hp->Prop
def EP (X:Cx) (pins:List (Addr×Obj)) (σ:St) (Q:VK) (u:Value) (s':Shared):Prop:=∃ v H',Inv X pins σ H' s'/\RelV v u/\Q v H'
def TP (X:Cx) (pins:List (Addr×Obj)) (σ:St) (Q:Bool->Hp->Prop) (b:Bool) (s':Shared):Prop:=∃ H',Inv X pins σ H' s'/\Q b H'
def AP (X:Cx) (pins:List (Addr×Obj)) (σ:St) (Q:List V->Hp->Prop) (us:List Value) (s':Shared):Prop:=∃ vs H',Inv X pins σ H' s'/\Vals vs us/\Q vs H'
def SP (X:Cx) (pins:List (Addr×Obj)) (D:Ends) (f:Flow) (s':Shared):Prop :=
 match f with
 | .next=>∃ σ' H',Inv X pins σ' H' s'/\D.nx σ' H'
 | .brk=>∃ σ' H',Inv X pins σ' H' s'/\D.bk σ' H'
 | .cont=>∃ σ' H',Inv X pins σ' H' s'/\D.ct σ' H'
 | .ret u=>∃ v σ' H',Inv X pins σ' H' s'/\RelV v u/\D.rt v H'
def PE (X:Cx) (e:Expr) (t:TE):Prop :=
 ∀ (pins:List (Addr×Obj)) (s:Shared) (σ:St) (H:Hp) (Q:VK),Inv X pins σ H s->t σ H Q->wpAny (model X.prog X.w) X.A (eval e X.env) (EP X pins σ Q) X.xe s
def PT (X:Cx) (e:Expr) (t:TT):Prop :=
 ∀ (pins:List (Addr×Obj)) (s:Shared) (σ:St) (H:Hp) (Q:Bool->Hp->Prop),Inv X pins σ H s->t σ H Q->wpAny (model X.prog X.w) X.A (isTrue e X.env (eval e X.env)) (TP X pins σ Q) X.xe s
def PW (X:Cx) (e:Expr) (t:TT):Prop :=
 ∀ (whole:Sem Value) (pins:List (Addr×Obj)) (s:Shared) (σ:St) (H:Hp) (Q:Bool->Hp->Prop),Inv X pins σ H s->t σ H Q->wpAny (model X.prog X.w) X.A (isTrue e X.env whole) (TP X pins σ Q) X.xe s
theorem PW.pt {X:Cx} {e:Expr} {t:TT} (h:PW X e t):PT X e t:=h _
def PA (X:Cx) (es:List Expr) (t:TA):Prop :=
 ∀ (pos:Pos) (pins:List (Addr×Obj)) (s:Shared) (σ:St) (H:Hp) (Q:List V->Hp->Prop),Inv X pins σ H s->t σ H Q->wpAny (model X.prog X.w) X.A (spliced (backTo pos (starEach es X.env))) (AP X pins σ Q) X.xe s
def PS (X:Cx) (st:Stmt) (t:TS):Prop :=
 ∀ (pins:List (Addr×Obj)) (s:Shared) (σ:St) (H:Hp) (D:Ends),Inv X pins σ H s->t D σ H->wpAny (model X.prog X.w) X.A (exec st X.env) (SP X pins D) X.xe s
def PSs (X:Cx) (st:List Stmt) (t:TS):Prop :=
 ∀ (pins:List (Addr×Obj)) (s:Shared) (σ:St) (H:Hp) (D:Ends),Inv X pins σ H s->t D σ H->wpAny (model X.prog X.w) X.A (execs st X.env) (SP X pins D) X.xe s
theorem y9 {α:Type} {t:Sem α} {Q Q':α->Shared->Prop} {M:Model} {A:Around} {E:Value->Shared->Prop} {s:Shared} (h:wpAny M A t Q E s) (hQ:∀ a s,Q a s->Q' a s):wpAny M A t Q' E s:=wpAny_mono h hQ λ _ _ x=>x
section
variable {X:Cx}
theorem bin {a b:Expr} {ta tb:TE} (ha:PE X a ta) (hb:PE X b tb) {pins:List (Addr×Obj)} {s:Shared} {σ:St} {H:Hp} {R:V->V->Hp->Prop} (I:Inv X pins σ H s) (h:ta σ H λ x H1=>tb σ H1 λ y H2=>R x y H2)
  {α:Type} {Q:α->Shared->Prop} {f:Value->Value->Sem α}
  (hf:∀ v u s2 x y H2,Inv X pins σ H2 s2->RelV x v->RelV y u->R x y H2->wpAny (model X.prog X.w) X.A (f v u) Q X.xe s2) :
  wpAny (model X.prog X.w) X.A (eval a X.env) (λ v s₁=>wpAny (model X.prog X.w) X.A (eval b X.env) (λ u s₂=>wpAny (model X.prog X.w) X.A (f v u) Q X.xe s₂) X.xe s₁) X.xe s:=by
 refine y9 (ha pins s σ H _ I h) λ v s1 ⟨x,H1,I1,r1,q1⟩=>?_;refine y9 (hb pins s1 σ H1 _ I1 q1) λ u s2 ⟨y,H2,I2,r2,q2⟩=>?_;exact hf v u s2 x y H2 I2 r1 r2 q2
def a4G (i:Nat):TE:=λ σ H Q=>∃ v,σ[i]?=some (some v)/\Q v H
def tC (v:V):TE:=λ _ H Q=>Q v H
theorem b2i {i:Nat} {x:Str} {pos:Pos} (hN:X.N[i]?=some x) (hv:Vis X.env.scope x) (hd:(x==("__debug__":Str))=false:=by decide) (hcd:(x==("__classdict__":Str))=false:=by decide):PE X (.Name x pos) (a4G i):=by
 intro pins s σ H Q I h;obtain ⟨v,e,h⟩:=h;obtain ⟨m,hn,hl⟩:=I.loc;obtain ⟨u,r,l⟩:=hl i x v hN e hv;have fin:EP X pins σ Q u s:=⟨v,H,I,r,h⟩;rcases l with ⟨hk,hm⟩ | ⟨hk,c,hc,hcell⟩
 ·exact wpAny_Name (wpAny_loadName_local I.ok.kind hk hn hm fin) hd
 ·rcases hk with hk | hk
  ·exact wpAny_Name (wpAny_loadName_cell I.ok.kind hk hc hcell fin) hd
  ·exact wpAny_Name (wpAny_loadName_free I.ok.kind hk hc hcell fin hcd) hd
theorem g0 {i j pos}:PE X (.Constant (.int i) j pos) (tC (.int i)):=λ _ _ _ H _ I h=>wpAny_Constant_int ⟨.int i,H,I.tok _,⟨_,rfl⟩,h⟩
theorem a2X {b j pos}:PE X (.Constant (.bool b) j pos) (tC (.bl b)):=λ _ _ _ H _ I h=>Constant_bool ⟨.bl b,H,I,rfl,h⟩
theorem T8 {j pos}:PE X (.Constant .none j pos) (tC .non):=λ _ _ _ H _ I h=>Constant_none ⟨.non,H,I,rfl,h⟩
theorem u9 {x j pos}:PE X (.Constant (.str x) j pos) (tC (.str x)):=λ _ _ _ H _ I h=>Calls.Constant_str ⟨.str x,H,I.tok _,⟨_,rfl⟩,h⟩
def Gl (X:Cx) (x:Str):Prop:=X.env.kindOf x=some .globalImplicit
theorem Z6 {E:Value->Shared->Prop} {pins:List (Addr×Obj)} {s:Shared} {σ:St} {H:Hp} {x:Str} {u:Value} {pos:Pos} {Q:Value->Shared->Prop} (I:Inv X pins σ H s) (hg:Gl X x) (hm:X.mg x=some u) (h:Q u s)
  (hd:(x==("__debug__":Str))=false:=by decide):wpAny (model X.prog X.w) X.A (eval (.Name x pos) X.env) Q E s :=
 Calls.Name_function_global I.ok.kind hg (Calls.loadGlobal_global (by rw [I.ok.glob]; exact I.mod.glob.keeps I.bk) hm h) hd
theorem U0 {E:Value->Shared->Prop} {pins:List (Addr×Obj)} {s:Shared} {σ:St} {H:Hp} {x:Str} {u:Value} {pos:Pos} {Q:Value->Shared->Prop} (I:Inv X pins σ H s) (hg:Gl X x) (hm:X.mg x=none) (hv:bootBuiltins x=some u) (h:Q u s)
  (hn:x≠"__name__":=by decide) (hd:(x==("__debug__":Str))=false:=by decide):wpAny (model X.prog X.w) X.A (eval (.Name x pos) X.env) Q E s:=by
 obtain ⟨mb,h1,h2⟩:=I.mod.blt;exact Calls.Name_function_global I.ok.kind hg (Calls.loadGlobal_builtin (by rw [I.ok.glob]; exact I.mod.glob.keeps I.bk) hm (by rw [I.ok.blt]; exact h1.keeps I.bk) ((h2 x hn).trans hv) h) hd
theorem K3 {x:Str} {v:V} {u:Value} {pos:Pos} (hg:Gl X x) (hm:X.mg x=some u) (r:RelV v u) (hd:(x==("__debug__":Str))=false:=by decide):PE X (.Name x pos) (tC v) :=
 λ _ _ _ H _ I h=>Z6 I hg hm ⟨v,H,I,r,h⟩ hd
theorem Y5 {x:Str} {v:V} {u:Value} {pos:Pos} (hg:Gl X x) (hm:X.mg x=none) (hv:bootBuiltins x=some u) (r:RelV v u) (hn:x≠"__name__":=by decide) (hd:(x==("__debug__":Str))=false:=by decide):PE X (.Name x pos) (tC v) :=
 λ _ _ _ H _ I h=>U0 I hg hm hv ⟨v,H,I,r,h⟩ hn hd
variable {a b:Expr} {ta tb:TE} {pos:Pos}
def tB (t:TE):TT:=λ σ H Q=>t σ H λ x H1=>∃ c,x=.bl c/\Q c H1
theorem T9 {e:Expr} {t:TE} (h:PE X e t) (he:∀ whole,isTrue e X.env whole=(do let v <- whole; standAt e.pos; holding [v] (truthy v)):=by intro _; rfl):PT X e (tB t):=by
 intro pins s σ H Q I hw;refine isTrue_plain (y9 (h pins s σ H _ I hw) λ v s1 ⟨x,H1,I1,r1,q1⟩=>?_) (he _);obtain ⟨d,rfl,q⟩:=q1
 cases r1;exact wpAny_truthy_bool ⟨H1,I1,q⟩
variable {tA tB':TT} {rest:List Expr}
def b5C (t u:TT):TT:=λ σ H Q=>t σ H λ c H1=>if c=true then u σ H1 Q else Q false H1
def tOr (t u:TT):TT:=λ σ H Q=>t σ H λ c H1=>if c=true then Q true H1 else u σ H1 Q
def b5H (t:TT):TT:=λ σ H Q=>t σ H λ c H1=>Q (!c) H1
theorem a1K (ha:PT X a tA):PW X (.BoolOp .And [a] pos) tA:=by
 intro wh pins s σ H Q I h;refine isTrue_and (y9 (ha pins s σ H Q I h) λ c s1 e=>?_)
 cases c with
 | true=>exact isTrue_and_nil e
 | false=>exact e
theorem a1P (ha:PT X a tA):PW X (.BoolOp .Or [a] pos) tA:=by
 intro wh pins s σ H Q I h;refine isTrue_or (y9 (ha pins s σ H Q I h) λ c s1 e=>?_)
 cases c with
 | false=>exact isTrue_or_nil e
 | true=>exact e
theorem a3R (ha:PT X a tA) (hb:PW X (.BoolOp .And (b::rest) pos) tB'):PW X (.BoolOp .And (a::b::rest) pos) (b5C tA tB'):=by
 intro wh pins s σ H Q I h;refine isTrue_and (y9 (ha pins s σ H _ I h) λ c s1 ⟨H1,I1,q1⟩=>?_)
 cases c with
 | true=>exact hb wh pins s1 σ H1 Q I1 q1
 | false=>exact ⟨H1,I1,q1⟩
theorem a4A (ha:PT X a tA) (hb:PW X (.BoolOp .Or (b::rest) pos) tB'):PW X (.BoolOp .Or (a::b::rest) pos) (tOr tA tB'):=by
 intro wh pins s σ H Q I h;refine isTrue_or (y9 (ha pins s σ H _ I h) λ c s1 ⟨H1,I1,q1⟩=>?_)
 cases c with
 | true=>exact ⟨H1,I1,q1⟩
 | false=>exact hb wh pins s1 σ H1 Q I1 q1
theorem V4 (ha:PT X a tA):PT X (.UnaryOp .Not a pos) (b5H tA):=by
 intro pins s σ H Q I h;exact isTrue_not (ha pins s σ H (λ c H1=>Q (!c) H1) I h)
def b3M (ta tb:TE):TE:=λ σ H Q=>ta σ H λ x H1=>∃ c,x=.bl c/\if c=true then tb σ H1 Q else Q (.bl false) H1
def b3J (ta:TE):TE:=λ σ H Q=>ta σ H λ x H1=>∃ c,x=.bl c/\Q (.bl (!c)) H1
theorem a5P {op} {t:TE} (h:PE X a t):PE X (.BoolOp op [a] pos) t:=λ pins s σ H Q I hw=>BoolOp_one (h pins s σ H Q I hw)
theorem a3Q (ha:PE X a ta) (hb:PE X (.BoolOp .And (b::rest) pos) tb):PE X (.BoolOp .And (a::b::rest) pos) (b3M ta tb):=by
 intro pins s σ H Q I h;refine BoolOp_and (y9 (ha pins s σ H _ I h) λ v s1 ⟨x,H1,I1,r1,q1⟩=>?_);obtain ⟨c,rfl,q1⟩:=q1
 cases r1;refine wpAny_truthy_bool ?_
 cases c with
 | true=>exact hb pins s1 σ H1 Q I1 q1
 | false=>exact ⟨.bl false,H1,I1,rfl,q1⟩
theorem b2p (ha:PE X a ta):PE X (.UnaryOp .Not a pos) (b3J ta):=by
 intro pins s σ H Q I h;refine UnaryOp_ (y9 (ha pins s σ H _ I h) λ v s1 ⟨x,H1,I1,r1,q1⟩=>?_);obtain ⟨c,rfl,q1⟩:=q1
 cases r1;exact not_of (wpAny_truthy_bool ⟨.bl (!c),H1,I1,rfl,q1⟩)
def tIf (t:TT) (ta tb:TE):TE:=λ σ H Q=>t σ H λ c H1=>if c=true then ta σ H1 Q else tb σ H1 Q
theorem a1U {c:Expr} (hc:PT X c tA) (ha:PE X a ta) (hb:PE X b tb):PE X (.IfExp c a b pos) (tIf tA ta tb):=by
 intro pins s σ H Q I h;refine wpAny_IfExp (y9 (hc pins s σ H _ I h) λ d s1 ⟨H1,I1,q1⟩=>?_)
 cases d with
 | true=>exact ha pins s1 σ H1 Q I1 q1
 | false=>exact hb pins s1 σ H1 Q I1 q1
end
def SqL (K:W.Frag) (H:Hp) (a:Addr) (xs:List V):Prop :=
 Rd H a (.lst xs) ∨
  ∃ (o:Obj) (its:Array Value) (n:Nat),K.lookup a=some o/\o.cls=.type "list"/\o.dict=none/\o.data=.seq its n/\its.size<=sizeLine/\Vals xs its.toList
def SqT (K:W.Frag) (H:Hp) (a:Addr) (xs:List V):Prop :=
 Rd H a (.tup xs) ∨
  ∃ (o:Obj) (its:Array Value) (n:Nat),K.lookup a=some o/\o.cls=.type "tuple"/\o.data=.seq its n/\its.size<=sizeLine/\Vals xs its.toList
def b5K:Value->Option V
 | .none=>some .non
 | .bool b=>some (.bl b)
 | .int i _=>some (.int i)
 | .str x _=>some (.str x)
 | .bytes b _=>some (.byt b)
 | .float b _=>some (.flt b)
 | .ref a=>some (.ref a)
 | .type n=>some (.ty n)
 | _=>none
theorem RelV.abs {x:V} {u:Value} (r:RelV x u):b5K u=some x:=by
 cases x with
 | non=>cases r; rfl
 | bl _=>cases r; rfl
 | int _=>obtain ⟨t,rfl⟩:=r; rfl
 | str _=>obtain ⟨t,rfl⟩:=r; rfl
 | byt _=>obtain ⟨t,rfl⟩:=r; rfl
 | flt _=>obtain ⟨t,rfl⟩:=r; rfl
 | ref _=>cases r; rfl
 | ty _=>cases r; rfl
theorem RelV.inj {x y:V} {u:Value} (r:RelV x u) (q:RelV y u):x=y:=aN (r.abs.symm.trans q.abs)
theorem Vals.inj:∀ {xs ys:List V} {us:List Value},Vals xs us->Vals ys us->xs=ys
 | _,_,_,.nil,.nil=>rfl
 | _,_,_,.cons r t,.cons r' t'=>by rw [r.inj r',Vals.inj t t']
section
variable {X:Cx} {pins:List (Addr×Obj)} {σ:St} {H:Hp} {s:Shared} {a:Addr} {xs ys:List V}
theorem SqL.of {K:W.Frag} (h:H a=some (.lst xs)):SqL K H a xs:=.inl (.inl h)
theorem SqT.of {K:W.Frag} (h:H a=some (.tup xs)):SqT K H a xs:=.inl (.inl h)
theorem Inv.list (I:Inv X pins σ H s) (h:SqL X.K H a xs):∃ its:List Value,Vals xs its/\PlainL s.heap a its.toArray/\xs.length<=sizeLine:=by
 rcases h with h | ⟨o,its,n,hk,hc,hd,hs,hz,r⟩
 ·obtain ⟨z,its,n,r,e⟩:=h.ok I.hok
  exact ⟨its,r,⟨_,n,e,rfl,rfl,rfl⟩,z⟩
 ·refine ⟨its.toList,r,⟨o,n,I.kIn a o hk,hc,hd,by simpa using hs⟩,?_⟩
  have e:=r.length;simp only [iR] at e;omega
theorem Inv.tuple (I:Inv X pins σ H s) (h:SqT X.K H a xs):∃ its:List Value,Vals xs its/\IsTup s.heap a its.toArray/\xs.length<=sizeLine:=by
 rcases h with h | ⟨o,its,n,hk,hc,hs,hz,r⟩
 ·obtain ⟨z,its,r,p⟩:=h.ok I.hok
  exact ⟨its,r,p,z⟩
 ·refine ⟨its.toList,r,⟨o,I.kIn a o hk,hc,n,by simpa using hs⟩,?_⟩
  have e:=r.length;simp only [iR] at e;omega
theorem Inv.list_inj (I:Inv X pins σ H s) (h:SqL X.K H a xs) (h':SqL X.K H a ys):xs=ys:=by
 obtain ⟨its,r,⟨o,n,e,_,_,d⟩,_⟩:=I.list h;obtain ⟨its',r',⟨o',n',e',_,_,d'⟩,_⟩:=I.list h';rw [e] at e'; cases e';rw [d] at d';injection d' with d1 _
 have:its=its':=by simpa using congrArg iS d1
 subst this;exact r.inj r'
theorem Inv.tuple_inj (I:Inv X pins σ H s) (h:SqT X.K H a xs) (h':SqT X.K H a ys):xs=ys:=by
 obtain ⟨its,r,⟨o,e,_,n,d⟩,_⟩:=I.tuple h;obtain ⟨its',r',⟨o',e',_,n',d'⟩,_⟩:=I.tuple h';rw [e] at e'; cases e';rw [d] at d';injection d' with d1 _
 have:its=its':=by simpa using congrArg iS d1
 subst this;exact r.inj r'
end
abbrev Cx.wish (X:Cx) (E:Value->Shared->Prop):Cx:={ X with xe:=E }
abbrev Cx.nox (X:Cx):Cx:=X.wish λ _ _=>False
theorem Cx.Ok.wish {X:Cx} (ok:X.Ok) (E:Value->Shared->Prop):(X.wish E).Ok :=
 ⟨ok.mod,ok.kind,ok.glob,ok.blt,ok.above,ok.inj,ok.has,ok.cab,ok.hd,ok.frames,ok.stk,ok.exf,ok.bs,ok.bsz,ok.noex,ok.exfs,ok.funs,ok.frf⟩
theorem Cx.Ok.unwish {X:Cx} {E:Value->Shared->Prop} (ok:(X.wish E).Ok):X.Ok :=
 ⟨ok.mod,ok.kind,ok.glob,ok.blt,ok.above,ok.inj,ok.has,ok.cab,ok.hd,ok.frames,ok.stk,ok.exf,ok.bs,ok.bsz,ok.noex,ok.exfs,ok.funs,ok.frf⟩
section
variable {X:Cx} {pins:List (Addr×Obj)} {σ:St} {H:Hp} {s:Shared} {E:Value->Shared->Prop}
theorem Inv.wish (I:Inv X pins σ H s) (E:Value->Shared->Prop):Inv (X.wish E) pins σ H s:=⟨I.ok.wish E,I.os,I.bare,I.base,I.loc,I.cell,I.free,I.freeC,I.pin,I.hok,I.len⟩
theorem Inv.unwish (I:Inv (X.wish E) pins σ H s):Inv X pins σ H s:=⟨I.ok.unwish,I.os,I.bare,I.base,I.loc,I.cell,I.free,I.freeC,I.pin,I.hok,I.len⟩
theorem SP.unwish {D:Ends} {f:Flow} {s':Shared} (h:SP (X.wish E) pins D f s'):SP X pins D f s':=by
 cases f with
 | next=>obtain ⟨σ',H',I,q⟩:=h; exact ⟨σ',H',I.unwish,q⟩
 | brk=>obtain ⟨σ',H',I,q⟩:=h; exact ⟨σ',H',I.unwish,q⟩
 | cont=>obtain ⟨σ',H',I,q⟩:=h; exact ⟨σ',H',I.unwish,q⟩
 | ret u=>obtain ⟨v,σ',H',I,r,q⟩:=h; exact ⟨v,σ',H',I.unwish,r,q⟩
theorem PSs.nox {st:List Stmt} {t:TS} (h:PSs X.nox st t):PSs X st t:=λ pins s σ H D I hw =>
 wpAny_mono (h pins s σ H D (I.wish _) hw) (λ _ _ q=>q.unwish) λ _ _ z=>bO z
end
section
variable {X:Cx} {st:Stmt} {rest:List Stmt} {t u:TS} {e:Expr} {te:TE} {pos:Pos}
def b4e:TS:=λ D σ H=>D.nx σ H
def b5G (t u:TS):TS:=λ D σ H=>t { D with nx:=u D } σ H
theorem r9:PSs X [] b4e:=λ _ _ σ H _ I h=>wpAny_execs_nil ⟨σ,H,I,h⟩
theorem i7 (h1:PS X st t) (h2:PSs X rest u):PSs X (st::rest) (b5G t u):=by
 intro pins s σ H D I h;refine wpAny_execs_cons (y9 (h1 pins s σ H { D with nx:=u D } I h) λ f s1 q=>?_)
 cases f with
 | next =>
  obtain ⟨σ',H',I',q⟩:=q;exact h2 pins s1 σ' H' D I' q
 | ret v=>exact q
 | brk=>exact q
 | cont=>exact q
theorem j0 (h1:PS X st t):PSs X [st] t:=by
 intro pins s σ H D I h;refine wpAny_execs_cons (y9 (h1 pins s σ H D I h) λ f s1 q=>?_)
 cases f with
 | next=>exact wpAny_execs_nil q
 | ret v=>exact q
 | brk=>exact q
 | cont=>exact q
theorem Inv.quiet {pins:List (Addr×Obj)} {σ:St} {H:Hp} {s:Shared} (I:Inv X pins σ H s):interactive X.env=false:=by simp [interactive,I.ok.kind]
def b4n (te:TE):TS:=λ D σ H=>te σ H λ _ H1=>D.nx σ H1
theorem B8 (he:PE X e te) (hs:swapsWith e none pos.line X.env=pure false:=by rfl):PS X (.Expr e pos) (b4n te):=by
 intro pins s σ H D I h;exact wpAny_Expr_any (y9 (he pins s σ H _ I h) λ v s1 ⟨x,H1,I1,r1,q1⟩=>⟨σ,H1,I1,q1⟩) I.quiet hs
def b5e (te:TE):TS:=λ D σ H=>te σ H D.rt
theorem o4 (he:PE X e te):PS X (.Return (some e) pos) (b5e te):=by
 intro pins s σ H D I h;exact wpAny_Return_some (y9 (he pins s σ H _ I h) λ v s1 ⟨x,H1,I1,r1,q1⟩=>⟨x,σ,H1,I1,r1,q1⟩)
def b5B (c:TT) (t u:TS):TS:=λ D σ H=>c σ H λ b H1=>if b=true then t D σ H1 else u D σ H1
theorem w6 {c:Expr} {a b:List Stmt} {tc:TT} (hc:PT X c tc) (ha:PSs X a t) (hb:PSs X b u):PS X (.If c a b pos) (b5B tc t u):=by
 intro pins s σ H D I h;refine wpAny_If (y9 (hc pins s σ H _ I h) λ d s1 ⟨H1,I1,q1⟩=>?_)
 cases d with
 | true=>exact ha pins s1 σ H1 D I1 q1
 | false=>exact hb pins s1 σ H1 D I1 q1
def b3i:TS:=λ _ _ _=>False
theorem a2L {sts:List Stmt}:PSs X sts b3i:=λ _ _ _ _ _ _ h=>h.elim
end
abbrev TG:=V->St->Hp->(St->Hp->Prop)->Prop
abbrev TGs:=List V->St->Hp->(St->Hp->Prop)->Prop
def PG (X:Cx) (target:Expr) (t:TG):Prop :=
 ∀ (pins:List (Addr×Obj)) (s:Shared) (σ:St) (H:Hp) (v:V) (u:Value) (Q:St->Hp->Prop),Inv X pins σ H s->RelV v u->t v σ H Q →
  wpAny (model X.prog X.w) X.A (assign target X.env u) (λ _ s'=>∃ σ' H',Inv X pins σ' H' s'/\Q σ' H') X.xe s
def PGs (X:Cx) (ts:List Expr) (t:TGs):Prop :=
 ∀ (pins:List (Addr×Obj)) (s:Shared) (σ:St) (H:Hp) (vs:List V) (us:List Value) (Q:St->Hp->Prop),Inv X pins σ H s->Vals vs us->t vs σ H Q →
  wpAny (model X.prog X.w) X.A (assignInOrder ((assignEach ts X.env).map (·.2)) us) (λ _ s'=>∃ σ' H',Inv X pins σ' H' s'/\Q σ' H') X.xe s
abbrev b2v:=V->V->V->Hp->(Hp->Prop)->Prop
def b3N (X:Cx) (t:b2v):Prop :=
 ∀ (pins:List (Addr×Obj)) (s:Shared) (σ:St) (H:Hp) (o i v:V) (ov iv u:Value) (Q:Hp->Prop),Inv X pins σ H s->RelV o ov->RelV i iv->RelV v u->t o i v H Q →
  wpAny (model X.prog X.w) X.A (setItem ov iv u) (λ _ s'=>∃ H',Inv X pins σ H' s'/\Q H') X.xe s
section
variable {X:Cx} {pos:Pos}
def M7 (i:Nat):TG:=λ v σ H Q=>Q (σ.set i (some v)) H
theorem m5 {i:Nat} {x:Str} (hN:X.N.Nodup) (hi:X.N[i]?=some x) (hx:Loc X.env.scope x) (hf:X.fn x=true\/X.env.scope.names.lookup x=some .local:=by first | exact .inl rfl | exact .inr rfl | assumption):PG X (.Name x pos) (M7 i):=by
 intro pins s σ H v u Q I r h;exact wpAny_assign_Name (X0 I hN hi hx r (λ s' I'=>⟨_,H,I',h⟩) hf)
def a8a:TGs:=λ vs σ H Q=>vs=[]/\Q σ H
def Y2 (t:TG) (u:TGs):TGs:=λ vs σ H Q=>∃ v r,vs=v::r/\t v σ H λ σ' H'=>u r σ' H' Q
theorem D3:PGs X [] a8a:=by
 intro pins s σ H vs us Q I r h;obtain ⟨e,h⟩:=h;subst e
 cases r;exact assignInOrder_nil ⟨σ,H,I,h⟩
theorem p8 {e:Expr} {es:List Expr} {t:TG} {u:TGs} (h1:PG X e t) (h2:PGs X es u)
  (hs:(assignEach (e::es) X.env).map (·.2)=assign e X.env::(assignEach es X.env).map (·.2):=by rfl):PGs X (e::es) (Y2 t u):=by
 intro pins s σ H vs us Q I r h;obtain ⟨v,vr,e1,h⟩:=h;subst e1
 cases r with
 | cons r rr =>
  rw [hs];refine assignInOrder_cons (y9 (h1 pins s σ H _ _ _ I r h) λ _ s1 ⟨σ1,H1,I1,q1⟩=>?_);exact h2 pins s1 σ1 H1 _ _ Q I1 rr q1
def a5k (K:W.Frag) (n:Nat) (t:TGs):TG:=λ v σ H Q=>∃ a xs,v=.ref a/\SqT K H a xs/\xs.length=n/\t xs σ H Q
theorem a0r {es:List Expr} {k:Nat} {t:TGs} {n:Nat} (hc:X.calm=true) (h:PGs X es t)
  (hn:(assignEach es X.env).length=n:=by rfl) (hst:(assignEach es X.env).findIdx? (·.1)=none:=by rfl):PG X (.Tuple es k pos) (a5k X.K n t):=by
 intro pins s σ H v u Q I r hw;obtain ⟨a,xs,e1,hq,hl,hw⟩:=hw;subst e1
 cases r;obtain ⟨its,rv,ht,hz⟩:=I.tuple hq;refine assign_Tuple_tuple (I.ok.hd hc) ht (by simp [hn,<- hl,rv.length]) hst λ h' hx=>?_;have I1:Inv X pins σ H { s with heap:=h' }:=I.kept (t':=s.toks) λ b o e=>hx b o (bI (Heap.lt_size e)) e;exact h pins _ σ H xs _ Q I1 (by simpa using rv) hw
def b5r (to ti:TE) (t:b2v):TG:=λ v σ H Q=>to σ H λ o H1=>ti σ H1 λ i H2=>t o i v H2 λ H3=>Q σ H3
theorem R7 {o i:Expr} {to ti:TE} {t:b2v} (ho:PE X o to) (hi:PE X i ti) (hs:b3N X t)
  (ha:∀ v,assign (.Subscript o i pos) X.env v=(do
   let ov <- holding [v] (eval o X.env)
   let iv <- holding [v,ov] (eval i X.env)
   standAt pos
   holding [v,ov,iv] (setItem ov iv v)
   release [v,ov,iv] []):=by intro _; rfl):PG X (.Subscript o i pos) (b5r to ti t):=by
 intro pins s σ H v u Q I r h;rw [ha];refine wpAny_bind (wpAny_holding (y9 (ho pins s σ H _ I h) λ ov s1 ⟨x,H1,I1,r1,q1⟩=>?_));refine wpAny_bind (wpAny_holding (y9 (hi pins s1 σ H1 _ I1 q1) λ iv s2 ⟨y,H2,I2,r2,q2⟩=>?_));refine wpAny_bind (wpAny_standAt (wpAny_bind (wpAny_holding (y9 (hs pins s2 σ H2 x y v ov iv u _ I2 r1 r2 r q2) λ _ s3 ⟨H3,I3,q3⟩=>?_))));exact wpAny_release ⟨σ,H3,I3,q3⟩
def a7i (te:TE) (g:TG):TS:=λ D σ H=>te σ H λ x H1=>g x σ H1 D.nx
theorem K7 {tg e:Expr} {te:TE} {g:TG} (he:PE X e te) (hg:PG X tg g) (hs:swapsWithSole [tg] e pos.line X.env=pure false:=by rfl) (hw:swappedStores [tg] e X.env=pure none:=by rfl)
  (h1:(assignEach [tg] X.env).map (·.2)=[assign tg X.env]:=by rfl):PS X (.Assign [tg] e pos) (a7i te g):=by
 intro pins s σ H D I h;refine wpAny_Assign_stores (y9 (he pins s σ H _ I h) λ v s1 ⟨x,H1,I1,r1,q1⟩=>?_) hs hw;rw [h1];exact y9 (hg pins s1 σ H1 x v _ I1 r1 q1) λ _ s2 q=>q
theorem m4 {i:Nat} {x:Str} {e:Expr} {te:TE} {pos':Pos} (hN:X.N.Nodup) (hi:X.N[i]?=some x) (hx:Loc X.env.scope x) (he:PE X e te) (hs:swapsWith e (some (.Name x pos')) pos.line X.env=pure false:=by rfl) (hf:X.fn x=true\/X.env.scope.names.lookup x=some .local:=by first | exact .inl rfl | exact .inr rfl | assumption) :
  PS X (.Assign [.Name x pos'] e pos) (a7i te (M7 i)):=by
 intro pins s σ H D I h;refine wpAny_Assign_Name (y9 (he pins s σ H _ I h) λ v s1 ⟨y,H1,I1,r1,q1⟩=>?_) hs;exact X0 I1 hN hi hx r1 (λ s2 I2=>⟨_,H1,I2,q1⟩) hf
def b5m (i j:Nat) (ta:TA):TS:=λ D σ H=>ta σ H λ vs H1=>∃ v w,vs=[v,w]/\D.nx ((σ.set i (some v)).set j (some w)) H1
theorem b2U {i j:Nat} {x y:Str} {a b:Expr} {ta:TA} {px py pt:Pos} {kt k2 pt2} (hc:X.calm=true) (hN:X.N.Nodup) (hi:X.N[i]?=some x) (hj:X.N[j]?=some y) (hij:i≠j)
  (hx:X.env.scope.names.lookup x=some .local) (hy:X.env.scope.names.lookup y=some .local) (ha:PA X [a,b] ta)
  (hw:swappedStores [.Tuple [.Name x px,.Name y py] kt pt] (.Tuple [a,b] k2 pt2) X.env=pure (some [x,y]))
  (hs:swapsWithSole [.Tuple [.Name x px,.Name y py] kt pt] (.Tuple [a,b] k2 pt2) pos.line X.env=pure false:=by rfl) :
  PS X (.Assign [.Tuple [.Name x px,.Name y py] kt pt] (.Tuple [a,b] k2 pt2) pos) (b5m i j ta):=by
 intro pins s σ H D I h;rw [exec_Assign_arm];refine wpAny_bind (wpAny_standAt ?_);rw [hs];refine wpAny_bind (wpAny_pure ?_);rw [if_neg (by decide)];refine wpAny_bind (Tuple_ (y9 (ha _ pins s σ H _ I h) λ us s1 ⟨vs,H1,I1,r1,q1⟩=>?_));obtain ⟨v,w,e1,q1⟩:=q1;subst e1;obtain ⟨u1,u2,rfl,rv,rw'⟩:∃ u1 u2,us=[u1,u2]/\RelV v u1/\RelV w u2:=by
  cases r1 with
  | cons p q =>
   cases q with
   | cons p' q' =>
    cases q';exact ⟨_,_,rfl,p,p'⟩
 refine wpAny_newObj_type ?_ (by show 2<=sizeLine; decide);have I2:Inv X pins σ H1 { s1 with heap:=s1.heap.push { cls:=.type "tuple",data:=.seq [u1,u2].toArray } }:=I1.kept (t':=s1.toks) λ b o e=>Heap.get?_push_of_some _ e;rw [hw];refine wpAny_bind (wpAny_pure ?_)
 show wpAny (model X.prog X.w) X.A (do rule "assign.swapped-stores"; let items <- unpackItems (.ref s1.heap.objs.size) 2 none; assignInOrder [λ v=>bindName X.env y v,λ v=>bindName X.env x v] items.reverse; pure Flow.next) _ _ _
 refine wpAny_bind (wpAny_rule (wpAny_bind (unpackItems_tuple (items:=#[u1,u2]) (I.ok.hd hc) (IsTup.new s1.heap _) λ h' hx'=>?_)));have I3:=I2.kept (h':=h') (t':=s1.toks) λ b o e=>hx' b o (bI (Heap.lt_size e)) e
 show wpAny _ _ (assignInOrder [λ v=>bindName X.env y v,λ v=>bindName X.env x v] [u2,u1] >>= λ _=>pure Flow.next) _ _ _
 refine wpAny_bind (assignInOrder_cons (wpAny_bindName (X0 I3 hN hj (.inl hy) rw' (λ s2 I4=>?_) (.inr hy))));refine assignInOrder_cons (wpAny_bindName (X0 I4 hN hi (.inl hx) rv (λ s3 I5=>assignInOrder_nil (wpAny_pure ?_)) (.inr hx)));rw [fB _ _ (aQ hij)] at I5;exact ⟨_,H1,I5,q1⟩
end
section
variable {X:Cx} {pos:Pos}
def a8S (c:TT) (tb:TS):TS:=λ D σ H=>∃ W:Nat->St->Hp->Prop,(∃ m,W m σ H)/\∀ m σ H,W m σ H →
 c σ H λ b H1=>if b=true then ∃ N:St->Hp->Prop,(∀ σ' H',N σ' H'->∃ m',m'<m/\W m' σ' H')/\tb { D with nx:=N,ct:=N,bk:=D.nx } σ H1 else D.nx σ H1
theorem a4X {c:Expr} {body:List Stmt} {tc:TT} {tb:TS} (hp:PassesOwn (model X.prog X.w) X.A X.env X.xe) (hc:PT X c tc) (hb:PSs X body tb):PS X (.While c body [] pos) (a8S tc tb):=by
 intro pins s σ H D I h;obtain ⟨W,⟨m0,w0⟩,turn⟩:=h;refine wpAny_While (codeAny_whileLoop (λ n s'=>∃ σ' H',Inv X pins σ' H' s'/\W n σ' H') ?_ m0 ⟨σ,H,I,w0⟩);rintro n s1 ⟨σ1,H1,I1,w1⟩;refine wpAny_passesOwn hp (y9 (hc pins s1 σ1 H1 _ I1 (turn n σ1 H1 w1)) λ b s2 ⟨H2,I2,q2⟩=>?_)
 cases b with
 | true =>
  obtain ⟨N,hN,q2⟩:=q2;rw [if_pos rfl];refine wpAny_passesOwn hp (y9 (hb pins s2 σ1 H2 _ I2 q2) λ f s3 q3=>?_)
  cases f with
  | next =>
   obtain ⟨σ3,H3,I3,n3⟩:=q3;obtain ⟨m',hm,w3⟩:=hN σ3 H3 n3;exact ⟨m',hm,σ3,H3,I3,w3⟩
  | cont =>
   obtain ⟨σ3,H3,I3,n3⟩:=q3;obtain ⟨m',hm,w3⟩:=hN σ3 H3 n3;exact ⟨m',hm,σ3,H3,I3,w3⟩
  | brk=>exact q3
  | ret v=>exact q3
 | false =>
  rw [if_neg bY];exact wpAny_execs_nil ⟨σ1,H2,I2,q2⟩
end
structure It where
 go:Nat->Hp->Prop
 yld:Nat->Hp->V->Hp->Prop
 stop:Nat->Hp->Prop
def U1 (X:Cx) (pins:List (Addr×Obj)) (H:Hp) (b:Addr):Prop :=
 H b=none/\b≠X.env.locals/\b ∉ X.fs/\(b∈X.ex\/X.s₀.heap.objs.size<=b)/\(∀ x c,X.env.cells.lookup x=some c->c≠b)/\∀ p∈X.pn++pins,p.1≠b
theorem Inv.fpOk {X:Cx} {pins:List (Addr×Obj)} {σ:St} {H H':Hp} {s:Shared} {b:Addr} (I:Inv X pins σ H s) (hb:s.heap.objs.size<=b) (hn:H' b=none):U1 X pins H' b:=by
 refine ⟨hn,cN (aO I.lt hb),I.nofs hb,.inr (aZ I.sz hb),λ x c e z=>?_,λ p hp z=>?_⟩
 ·obtain ⟨v,q⟩:=I.cell x c e
  exact absurd (aO q.lt (by rw [z]; exact hb)) (bJ _)
 ·exact absurd (aO (Heap.lt_size (I.pin p hp).1) (by rw [z]; exact hb)) (bJ _)
structure a5r (P:Program) (w:World) (K:W.Frag) (tg:Expr) (J:It) (fp:List Addr) (it:Addr) (tn:Nat->Heap->Prop):Prop where
 mem:it∈fp
 obj:∀ i h,tn i h->∀ b∈fp,∃ o,h.get? b=some o/\∀ v,o.data≠.cell v
 keep:∀ i h h',tn i h->(∀ b∈fp,∀ o,h.get? b=some o->h'.get? b=some o)->tn i h'
 item:∀ (X:Cx),X.prog=P->X.w=w->X.K=K->X.calm=true->∀ (i:Nat) (pins:List (Addr×Obj)) (s:Shared) (σ:St) (H:Hp) (E:Value->Shared->Prop),Inv X pins σ H s->(∀ b∈fp,U1 X pins H b)->tn i s.heap->J.go i H →
  wpAny (model P w) X.A (pyNext (.ref it)) (λ r s1=>∃ u,r=some u ∧
   wpAny (model P w) X.A (letOwnedTupleGo tg (.ref it) u) (λ _ s2=>∃ x H',Inv X pins σ H' s2/\RelV x u/\J.yld i H x H'/\tn (i+1) s2.heap/\∀ b∈fp,H' b=none) E s1) E s
 done:∀ (X:Cx),X.prog=P->X.w=w->X.K=K->X.calm=true->∀ (i:Nat) (pins:List (Addr×Obj)) (s:Shared) (σ:St) (H:Hp) (E:Value->Shared->Prop),Inv X pins σ H s->(∀ b∈fp,U1 X pins H b)->tn i s.heap->J.stop i H →
  wpAny (model P w) X.A (pyNext (.ref it)) (λ r s1=>r=none/\Inv X pins σ H s1) E s
 self:∀ (A:Around) (i:Nat) (s:Shared) (Q:Value->Shared->Prop) (E:Value->Shared->Prop),tn i s.heap->Q (.ref it) s->wpAny (model P w) A (pyIter (.ref it)) Q E s
abbrev TI:=St->Hp->(It->Hp->Prop)->Prop
def PIE (X:Cx) (pins:List (Addr×Obj)) (σ:St) (tg:Expr) (R:It->Hp->Prop) (itv:Value) (s2:Shared):Prop :=
 ∃ (it:Addr) (fp:List Addr) (tn:Nat->Heap->Prop) (J:It) (H':Hp),itv=.ref it/\Inv X pins σ H' s2/\a5r X.prog X.w X.K tg J fp it tn/\tn 0 s2.heap/\(∀ b∈fp,U1 X pins H' b)/\R J H'
def PI (X:Cx) (tg iter:Expr) (wi:TI):Prop :=
 ∀ (pins:List (Addr×Obj)) (s:Shared) (σ:St) (H:Hp) (R:It->Hp->Prop),Inv X pins σ H s->wi σ H R →
  wpAny (model X.prog X.w) X.A (eval iter X.env) (λ v s1=>wpAny (model X.prog X.w) X.A (pyIter v) (PIE X pins σ tg R) X.xe s1) X.xe s
theorem a9H {M:Model} {A:Around} {E:Value->Shared->Prop} {s:Shared} {tg:Expr} {it:Addr} {u:Value} {o:Obj} {n:String} {vs:Array Value} {Q:Unit->Shared->Prop} (ho:s.heap.get? it=some o) (hc:o.cls=.type n) (hd:o.data=.fields vs)
    (hn:["enumerate","zip","dict_itemiterator","dict_reverseitemiterator","odict_iterator","itertools.zip_longest","itertools.pairwise"].contains n=false) (hQ:Q () s):wpAny M A (letOwnedTupleGo tg (.ref it) u) Q E s:=by
  unfold letOwnedTupleGo
  cases tg <;> first
    | exact wpAny_pure hQ
    | (cases u <;> first
        | exact wpAny_pure hQ
        | (refine wpAny_bind (wpAny_load ho ?_)
           rw [hc,hd]
           show wpAny M A (if (["enumerate","zip","dict_itemiterator","dict_reverseitemiterator","odict_iterator","itertools.zip_longest","itertools.pairwise"].contains n&&vs[0]?==some (rawInt _))=true then _ else _) Q E s
           rw [if_neg (by intro h; rw [hn,Bool.false_and] at h; cases h)];exact wpAny_pure hQ))
def Itl (K:W.Frag) (a:Addr):It :=
 ⟨λ i H=>∃ xs x,SqL K H a xs/\xs[i]?=some x,λ i H x H'=>H'=H/\∀ xs,SqL K H a xs->xs[i]?=some x,λ i H=>∃ xs,SqL K H a xs/\xs.length<=i⟩
def Itt (K:W.Frag) (a:Addr):It :=
 ⟨λ i H=>∃ xs x,SqT K H a xs/\xs[i]?=some x,λ i H x H'=>H'=H/\∀ xs,SqT K H a xs->xs[i]?=some x,λ i H=>∃ xs,SqT K H a xs/\xs.length<=i⟩
def Itr (lo:Int) (n:Nat):It:=⟨λ i _=>i<n,λ i H x H'=>H'=H/\x=.int (lo+i),λ i _=>n<=i⟩
theorem a7P {P:Program} {w:World} {K:W.Frag} {tg:Expr} (a it:Addr):a5r P w K tg (Itl K a) [it] it (λ i h=>h.IsListIter it a i) where
 mem:=by simp
 obj:=λ i h st b hb=>by
  have e:b=it:=by simpa using hb
  subst e;obtain ⟨o,e,c,d⟩:=st;exact ⟨o,e,λ v z=>by rw [d] at z; cases z⟩
 keep:=λ i h h' st k=>st.at λ o e=>k it (by simp) o e
 item:=by
  intro X hP hw hK hc i pins s σ H E I hf st hg;subst hP hw hK;obtain ⟨xs,x,hq,hx⟩:=hg;obtain ⟨its,rv,p,hz⟩:=I.list hq;obtain ⟨u,hu,ru⟩:=rv.get hx;obtain ⟨f0,f1,f2,f3,f4,f5⟩:=hf it (by simp);refine wpAny_pyNext_list_item st p.isList (x:=u) (by simpa using hu) λ h' st' sb=>?_;have I1:Inv X pins σ H { s with heap:=h' }:=I.turned (t':=s.toks) (λ b o hb e=>(sb.2 b hb).trans e) f0 f1 f3 f4 f5;obtain ⟨o,e,c,d⟩:=id st';exact ⟨u,rfl,a9H (s:={ s with heap:=h' }) e c d (by decide) ⟨x,H,I1,ru,⟨rfl,λ ys hy=>by rw [I.list_inj hy hq]; exact hx⟩,st',λ b hb=>(hf b hb).1⟩⟩
 done:=by
  intro X hP hw hK hc i pins s σ H E I hf st hg;subst hP hw hK;obtain ⟨xs,hq,hx⟩:=hg;obtain ⟨its,rv,p,hz⟩:=I.list hq;obtain ⟨f0,f1,f2,f3,f4,f5⟩:=hf it (by simp);have hl:=rv.length;exact wpAny_pyNext_list_end (I.ok.hd hc) st p.isList (by simp; omega) λ h' eb=>⟨rfl,I.turned (t':=s.toks) (λ b o hb e=>eb b o hb e) f0 f1 f3 f4 f5⟩
 self:=λ _ _ _ _ _ st h=>wpAny_pyIter_listiter st h
theorem a5Q {P:Program} {w:World} {K:W.Frag} {tg:Expr} (a it:Addr):a5r P w K tg (Itt K a) [it] it (λ i h=>h.IsTupleIter it a i) where
 mem:=by simp
 obj:=λ i h st b hb=>by
  have e:b=it:=by simpa using hb
  subst e;obtain ⟨o,e,c,d⟩:=st;exact ⟨o,e,λ v z=>by rw [d] at z; cases z⟩
 keep:=λ i h h' st k=>st.at λ o e=>k it (by simp) o e
 item:=by
  intro X hP hw hK hc i pins s σ H E I hf st hg;subst hP hw hK;obtain ⟨xs,x,hq,hx⟩:=hg;obtain ⟨its,rv,p,hz⟩:=I.tuple hq;obtain ⟨u,hu,ru⟩:=rv.get hx;obtain ⟨f0,f1,f2,f3,f4,f5⟩:=hf it (by simp);refine wpAny_pyNext_tuple_item st (show s.heap.IsTuple a its.toArray from p) (x:=u) (by simpa using hu) λ h' st' sb=>?_;have I1:Inv X pins σ H { s with heap:=h' }:=I.turned (t':=s.toks) (λ b o hb e=>(sb.2 b hb).trans e) f0 f1 f3 f4 f5;obtain ⟨o,e,c,d⟩:=id st';exact ⟨u,rfl,a9H (s:={ s with heap:=h' }) e c d (by decide) ⟨x,H,I1,ru,⟨rfl,λ ys hy=>by rw [I.tuple_inj hy hq]; exact hx⟩,st',λ b hb=>(hf b hb).1⟩⟩
 done:=by
  intro X hP hw hK hc i pins s σ H E I hf st hg;subst hP hw hK;obtain ⟨xs,hq,hx⟩:=hg;obtain ⟨its,rv,p,hz⟩:=I.tuple hq;obtain ⟨f0,f1,f2,f3,f4,f5⟩:=hf it (by simp);have hl:=rv.length;exact wpAny_pyNext_tuple_end (I.ok.hd hc) st (show s.heap.IsTuple a its.toArray from p) (by simp; omega) λ h' eb=>⟨rfl,I.turned (t':=s.toks) (λ b o hb e=>eb b o hb e) f0 f1 f3 f4 f5⟩
 self:=λ _ _ _ _ _ st h=>wpAny_pyIter_tupleiter st h
theorem a5U {P:Program} {w:World} {K:W.Frag} {tg:Expr} (it:Addr) (lo:Int) (n:Nat):a5r P w K tg (Itr lo n) [it] it (λ i h=>IsRangeIter h it (lo+(i:Nat)*1) ((n:Int) - (i:Nat)) 1) where
 mem:=by simp
 obj:=λ i h st b hb=>by
  have e:b=it:=by simpa using hb
  subst e;exact ⟨_,st,λ v z=>by
   have z':Data.fields _=Data.cell v:=z
   cases z'⟩
 keep:=λ i h h' st k=>k it (by simp) _ st
 item:=by
  intro X hP hw hK hc i pins s σ H E I hf st hg;subst hP hw hK;obtain ⟨f0,f1,f2,f3,f4,f5⟩:=hf it (by simp);have W:=Walks.range (prog:=X.prog) (w:=X.w) (I.ok.hd hc) it lo 1 n;refine W.item i s _ _ hg st λ v h' tk hv st' kk=>?_;obtain ⟨t,rfl⟩:=hv;have I1:Inv X pins σ H { s with heap:=h',toks:=tk }:=I.turned (λ b o hb e=>kk b o (by simpa using hb) e) f0 f1 f3 f4 f5;refine ⟨_,rfl,a9H (s:={ s with heap:=h',toks:=tk }) (n:="range_iterator") st' rfl rfl (by decide) ⟨.int (lo+i),H,I1,⟨t,?_⟩,⟨rfl,rfl⟩,st',λ b hb=>(hf b hb).1⟩⟩;rw [eP]
 done:=by
  intro X hP hw hK hc i pins s σ H E I hf st hg;subst hP hw hK;obtain ⟨f0,f1,f2,f3,f4,f5⟩:=hf it (by simp);exact wpAny_pyNext_range_end (I.ok.hd hc) st (by have:n<=i:=hg; omega) λ h' eb=>⟨rfl,I.turned (t':=s.toks) (λ b o hb e=>eb b o hb e) f0 f1 f3 f4 f5⟩
 self:=λ _ _ _ _ _ st h=>wpAny_pyIter_rangeiter st h
section
variable {X:Cx} {tg:Expr}
def b4j (K:W.Frag) (tl:TE):TI:=λ σ H R=>tl σ H λ x H1=>∃ a,x=.ref a/\(∃ xs,SqL K H1 a xs)/\R (Itl K a) H1
def b4a (K:W.Frag) (tl:TE):TI:=λ σ H R=>tl σ H λ x H1=>∃ a,x=.ref a/\(∃ xs,SqT K H1 a xs)/\R (Itt K a) H1
theorem M6 {l:Expr} {tl:TE} (hl:PE X l tl):PI X tg l (b4j X.K tl):=by
 intro pins s σ H R I h;refine y9 (hl pins s σ H _ I h) λ v s1 ⟨x,H1,I1,r1,q1⟩=>?_;obtain ⟨a,e,⟨xs,hq⟩,q⟩:=q1;subst e
 cases r1;obtain ⟨its,rv,p,hz⟩:=I1.list hq;refine wpAny_pyIter_list p.isList ?_;refine ⟨s1.heap.objs.size,[s1.heap.objs.size],_,_,H1,rfl,I1.kept (t':=s1.toks) λ b o e=>Heap.get?_push_of_some _ e,a7P a _,⟨_,Heap.get?_push_size _ rfl,rfl,rfl⟩,λ b hb=>?_,q⟩;have e:b=s1.heap.objs.size:=by simpa using hb
 subst e;exact I1.fpOk (aE _) (I1.hok.fresh (aE _))
theorem a5z {l:Expr} {tl:TE} (hl:PE X l tl):PI X tg l (b4a X.K tl):=by
 intro pins s σ H R I h;refine y9 (hl pins s σ H _ I h) λ v s1 ⟨x,H1,I1,r1,q1⟩=>?_;obtain ⟨a,e,⟨xs,hq⟩,q⟩:=q1;subst e
 cases r1;obtain ⟨its,rv,p,hz⟩:=I1.tuple hq;refine wpAny_pyIter_tuple (show s1.heap.IsTuple a its.toArray from p) ?_;refine ⟨s1.heap.objs.size,[s1.heap.objs.size],_,_,H1,rfl,I1.kept (t':=s1.toks) λ b o e=>Heap.get?_push_of_some _ e,a5Q a _,⟨_,Heap.get?_push_size _ rfl,rfl,rfl⟩,λ b hb=>?_,q⟩;have e:b=s1.heap.objs.size:=by simpa using hb
 subst e;exact I1.fpOk (aE _) (I1.hok.fresh (aE _))
theorem a8B {pins:List (Addr×Obj)} {σ:St} {H:Hp} {s:Shared} {R:It->Hp->Prop} {E:Value->Shared->Prop} {lo hi:Int} {t u v:Tok} {tk:Nat} (I:Inv X pins σ H s) (h1:-(2 ^ 62)<=lo) (h2:lo<2 ^ 62) (h3:-(2 ^ 62)<=hi) (h4:hi<2 ^ 62)
  (q:R (Itr lo (hi - lo).toNat) H):wpAny (model X.prog X.w) X.A (pyIter (.ref s.heap.objs.size)) (PIE X pins σ tg R) E { s with heap:=s.heap.push { cls:=.type "range",data:=.fields #[.int lo t,.int hi u,.int 1 v] },toks:=tk }:=by
 refine wpAny_pyIter_range (IsRange.new ..) (small_one h1 h2 h3 h4) ?_;have I1:Inv X pins σ H { s with heap:=s.heap.push { cls:=.type "range",data:=.fields #[.int lo t,.int hi u,.int 1 v] },toks:=tk }:=I.kept λ b o e=>Heap.get?_push_of_some _ e;refine ⟨(s.heap.push { cls:=.type "range",data:=.fields #[.int lo t,.int hi u,.int 1 v] }).objs.size,[(s.heap.push { cls:=.type "range",data:=.fields #[.int lo t,.int hi u,.int 1 v] }).objs.size],_,_,H,rfl,
  I1.kept (t':=tk) λ b o e=>Heap.get?_push_of_some _ e,a5U _ lo (hi - lo).toNat,?_,λ b hb=>?_,q⟩
 ·have e1:lo+((0:Nat):Int)*1=lo:=by simp
  have e2:(((hi - lo).toNat:Nat):Int) - ((0:Nat):Int)=Builtin.Range.rangeSize lo hi 1:=by rw [rangeSize_one]; split <;> omega
  show IsRangeIter _ _ (lo+((0:Nat):Int)*1) ((((hi - lo).toNat:Nat):Int) - ((0:Nat):Int)) 1
  rw [e1,e2];exact Heap.get?_push_size _ rfl
 ·have e:b=(s.heap.push { cls:=.type "range",data:=.fields #[.int lo t,.int hi u,.int 1 v] }).objs.size:=by simpa using hb
  subst e;exact I1.fpOk (aE _) (I1.hok.fresh (aE _))
def b3L (ta:TA):TI:=λ σ H R=>ta σ H λ vs H1=>∃ j:Int,vs=[.int j]/\-(2 ^ 62)<=j/\j<2 ^ 62/\R (Itr 0 j.toNat) H1
theorem E7 {a:Expr} {ta:TA} {p pos:Pos} (hg:Gl X "range") (hm:X.mg "range"=none) (ha:PA X [a] ta) (hs:starEach [a] X.env=[(false,eval a X.env)]:=by rfl):PI X tg (.Call (.Name "range" p) [a] [] pos) (b3L ta):=by
 intro pins s σ H R I h;refine Call_ (U0 I hg hm boot_range (fC (y9 (ha pos pins s σ H _ I h) λ us s1 ⟨vs,H1,I1,r1,q1⟩=>?_) hs rfl));obtain ⟨j,e,q1,q2,q⟩:=q1;subst e
 cases r1 with
 | cons r rr =>
  cases rr;obtain ⟨t,rfl⟩:=r;exact call_range_1 (a8B I1 (by omega) (by omega) q1 q2 (by simpa using q))
def b2r (wi:TI) (g:TG) (tb:TS):TS:=λ D σ H=>wi σ H λ J H1=>∃ W:Nat->Nat->St->Hp->Prop,(∃ m,W 0 m σ H1)/\∀ i m σ H,W i m σ H →
 (J.stop i H/\D.nx σ H)\/(J.go i H/\∃ N:St->Hp->Prop,(∀ σ' H',N σ' H'->∃ m',m'<m/\W (i+1) m' σ' H')/\∀ x H',J.yld i H x H'->g x σ H' λ σ2 H2=>tb { D with nx:=N,ct:=N,bk:=D.nx } σ2 H2)
def a2m (fp:List Addr) (h:Heap):List (Addr×Obj):=fp.filterMap λ b=>(h.get? b).map λ o=>(b,o)
theorem V0 {fp:List Addr} {h:Heap} {b:Addr} {o:Obj} (hb:b∈fp) (e:h.get? b=some o):(b,o)∈a2m fp h:=gW.mpr ⟨b,hb,by rw [e]; rfl⟩
theorem a7F {fp:List Addr} {h:Heap} {p:Addr×Obj} (hp:p∈a2m fp h):p.1∈fp/\h.get? p.1=some p.2:=by
 obtain ⟨b,hb,e⟩:=gW.mp hp
 cases q:h.get? b with
 | none=>rw [q] at e; cases e
 | some o =>
  rw [q] at e;have e':(b,o)=p:=aN e;subst e';exact ⟨hb,q⟩
theorem Inv.pinned {pins:List (Addr×Obj)} {σ:St} {H:Hp} {s:Shared} {fp:List Addr} (I:Inv X pins σ H s) (hf:∀ b∈fp,U1 X pins H b) (ho:∀ b∈fp,∃ o,s.heap.get? b=some o/\∀ v,o.data≠.cell v):Inv X (pins++a2m fp s.heap) σ H s :=
 I.pins_of λ p hp=>(aS.mp hp).elim (λ z=>I.pin p (bS _ z)) λ z=>by
  obtain ⟨hb,e⟩:=a7F z;obtain ⟨f0,f1,f2,_⟩:=hf p.1 hb;obtain ⟨o,e',d⟩:=ho p.1 hb;rw [e] at e'; cases e';exact ⟨e,f0,f1,f2,d⟩
theorem Inv.unpinned {pins pl:List (Addr×Obj)} {σ:St} {H:Hp} {s:Shared} (I:Inv X (pins++pl) σ H s):Inv X pins σ H s:=I.pins_of λ p hp=>I.pin p (bS _ (dJ _ hp))
theorem a0l {iter:Expr} {body:List Stmt} {wi:TI} {g:TG} {tb:TS} {pos:Pos} (hp:PassesOwn (model X.prog X.w) X.A X.env X.xe) (hc:X.calm=true) (hi:PI X tg iter wi) (hg:PG X tg g) (hb:PSs X body tb)
  (hs:∀ x,foldedSetIterable iter X.env x=pure x:=by intro _; rfl):PS X (.For tg iter body [] pos) (b2r wi g tb):=by
 intro pins s σ H D I h;refine wpAny_For (y9 (hi pins s σ H _ I h) λ v s1 h1=>y9 h1 λ itv s2 h2=>?_) hs;obtain ⟨it,fp,tn,J,H2,e,I2,T,st2,f2,W,⟨m0,w0⟩,turn⟩:=h2;subst e;have stat:∀ {H':Hp},(∀ b∈fp,H' b=none)->∀ b∈fp,U1 X pins H' b:=λ hn b hb=>⟨hn b hb,(f2 b hb).2⟩;refine codeAny_forLoop_any (λ n s'=>∃ i σ' H',Inv X pins σ' H' s'/\tn i s'.heap/\(∀ b∈fp,H' b=none)/\W i n σ' H') ?_ m0 ⟨0,σ,H2,I2,st2,λ b hb=>(f2 b hb).1,w0⟩;rintro n s3 ⟨i,σ3,H3,I3,st3,fr3,w3⟩;rcases turn i n σ3 H3 w3 with ⟨stop,qn⟩ | ⟨go,N,hN,step⟩
 ·refine wpAny_passesOwn hp (y9 (T.done X rfl rfl rfl hc i pins s3 σ3 H3 X.xe I3 (stat fr3) st3 stop) λ r s4 ⟨hr,I4⟩=>?_)
  subst hr;exact wpAny_execs_nil ⟨σ3,H3,I4,qn⟩
 ·refine wpAny_passesOwn hp (y9 (T.item X rfl rfl rfl hc i pins s3 σ3 H3 X.xe I3 (stat fr3) st3 go) λ r s4 ⟨u,hr,h4⟩=>?_)
  subst hr;refine wpAny_passesOwn hp (y9 h4 λ _ s5 ⟨x,H5,I5,r5,y5,st5,fr5⟩=>?_);have I5':=I5.pinned (stat fr5) (T.obj _ _ st5);refine wpAny_passesOwn hp (y9 (hg _ s5 σ3 H5 x u _ I5' r5 (step x H5 y5)) λ _ s6 ⟨σ6,H6,I6,q6⟩=>?_);refine wpAny_passesOwn hp (y9 (hb _ s6 σ6 H6 _ I6 q6) λ f s7 q7=>?_);have again:∀ {σ7:St} {H7:Hp},Inv X (pins++a2m fp s5.heap) σ7 H7 s7->N σ7 H7->∃ m,m<n/\∃ i σ' H',Inv X pins σ' H' s7/\tn i s7.heap/\(∀ b∈fp,H' b=none)/\W i m σ' H':=λ {σ7 H7} I7 n7=>by
   obtain ⟨m',hm,w7⟩:=hN σ7 H7 n7;refine ⟨m',hm,i+1,σ7,H7,I7.unpinned,T.keep _ _ _ st5 λ b hb o e=>(I7.pin (b,o) (bS _ (bS _ (V0 hb e)))).1,λ b hb=>?_,w7⟩;obtain ⟨o,e,d⟩:=T.obj _ _ st5 b hb;exact (I7.pin (b,o) (bS _ (bS _ (V0 hb e)))).2.1
  cases f with
  | next=>obtain ⟨σ7,H7,I7,n7⟩:=q7; exact again I7 n7
  | cont=>obtain ⟨σ7,H7,I7,n7⟩:=q7; exact again I7 n7
  | brk=>obtain ⟨σ7,H7,I7,q7⟩:=q7; exact ⟨σ7,H7,I7.unpinned,q7⟩
  | ret v=>obtain ⟨x7,σ7,H7,I7,r7,q7⟩:=q7; exact ⟨x7,σ7,H7,I7.unpinned,r7,q7⟩
end
theorem a4B {K:W.Frag} {a:Addr} {xs:List V} {g:TG} {tb:TS} {D:Ends} {σ:St} {H:Hp} (Pv:Nat->St->Hp->Prop) (h0:Pv 0 σ H) (hl:∀ i σ H,i<=xs.length->Pv i σ H->SqL K H a xs)
  (hs:∀ i x σ H,xs[i]?=some x->Pv i σ H->g x σ H λ σ2 H2=>tb { D with nx:=Pv (i+1),ct:=Pv (i+1),bk:=D.nx } σ2 H2) (hd:∀ σ H,Pv xs.length σ H->D.nx σ H) :
  ∃ W:Nat->Nat->St->Hp->Prop,(∃ m,W 0 m σ H)/\∀ i m σ H,W i m σ H →
   ((Itl K a).stop i H/\D.nx σ H)\/((Itl K a).go i H/\∃ N:St->Hp->Prop,(∀ σ' H',N σ' H'->∃ m',m'<m/\W (i+1) m' σ' H')/\∀ x H',(Itl K a).yld i H x H'->g x σ H' λ σ2 H2=>tb { D with nx:=N,ct:=N,bk:=D.nx } σ2 H2):=by
 refine ⟨λ i m σ H=>m=xs.length - i/\i<=xs.length/\Pv i σ H,⟨xs.length,by simp,bU _,h0⟩,?_⟩;rintro i m σ H ⟨rfl,hi,p⟩;have q:=hl i σ H hi p
 by_cases hlt:i<xs.length
 ·refine .inr ⟨⟨xs,xs[i],q,by simp [hlt]⟩,Pv (i+1),λ σ' H' p'=>⟨xs.length - (i+1),by omega,rfl,hlt,p'⟩,λ x H' y=>?_⟩
  obtain ⟨e,y⟩:=y;subst e;exact hs i x σ _ (y xs q) p
 ·have e:i=xs.length:=by omega
  subst e;exact .inl ⟨⟨xs,q,aE _⟩,hd σ H p⟩
theorem a1o {lo:Int} {n:Nat} {g:TG} {tb:TS} {D:Ends} {σ:St} {H:Hp} (Pv:Nat->St->Hp->Prop) (h0:Pv 0 σ H)
  (hs:∀ i σ H,i<n->Pv i σ H->g (.int (lo+i)) σ H λ σ2 H2=>tb { D with nx:=Pv (i+1),ct:=Pv (i+1),bk:=D.nx } σ2 H2) (hd:∀ σ H,Pv n σ H->D.nx σ H) :
  ∃ W:Nat->Nat->St->Hp->Prop,(∃ m,W 0 m σ H)/\∀ i m σ H,W i m σ H →
   ((Itr lo n).stop i H/\D.nx σ H)\/((Itr lo n).go i H/\∃ N:St->Hp->Prop,(∀ σ' H',N σ' H'->∃ m',m'<m/\W (i+1) m' σ' H')/\∀ x H',(Itr lo n).yld i H x H'->g x σ H' λ σ2 H2=>tb { D with nx:=N,ct:=N,bk:=D.nx } σ2 H2):=by
 refine ⟨λ i m σ H=>m=n - i/\i<=n/\Pv i σ H,⟨n,by simp,bU _,h0⟩,?_⟩;rintro i m σ H ⟨rfl,hi,p⟩
 by_cases hlt:i<n
 ·refine .inr ⟨hlt,Pv (i+1),λ σ' H' p'=>⟨n - (i+1),by omega,rfl,hlt,p'⟩,λ x H' y=>?_⟩
  obtain ⟨e,y⟩:=y;subst e y;exact hs i σ _ hlt p
 ·have e:i=n:=by omega
  subst e;exact .inl ⟨Nat.le_refl _,hd σ H p⟩
theorem a8Y {c:TT} {tb:TS} {D:Ends} {σ:St} {H:Hp} (Pv:St->Hp->Prop) (μ:St->Hp->Nat) (h0:Pv σ H)
  (hs:∀ σ H,Pv σ H->c σ H λ b H1=>if b=true then tb { D with nx:=λ σ' H'=>Pv σ' H'/\μ σ' H'<μ σ H,ct:=λ σ' H'=>Pv σ' H'/\μ σ' H'<μ σ H,bk:=D.nx } σ H1 else D.nx σ H1)
  (mono:∀ σ H Q Q',(∀ b H1,Q b H1->Q' b H1)->c σ H Q->c σ H Q'):a8S c tb D σ H:=by
 refine ⟨λ m σ H=>m=μ σ H/\Pv σ H,⟨_,rfl,h0⟩,?_⟩;rintro m σ H ⟨rfl,p⟩;refine mono σ H _ _ (λ b H1 q=>?_) (hs σ H p)
 cases b with
 | true=>exact ⟨_,λ σ' H' ⟨p',l⟩=>⟨_,l,rfl,p'⟩,q⟩
 | false=>exact q
abbrev R2:=V->V->Hp->VK->Prop
def OpR (X:Cx) (f:Value->Value->Sem Value) (r:R2):Prop :=
 ∀ (pins:List (Addr×Obj)) (s:Shared) (σ:St) (H:Hp) (x y:V) (v u:Value) (Q:VK),Inv X pins σ H s->RelV x v->RelV y u->r x y H Q →
  wpAny (model X.prog X.w) X.A (f v u) (EP X pins σ Q) X.xe s
def UnR (X:Cx) (f:Value->Sem Value) (r:V->Hp->VK->Prop):Prop :=
 ∀ (pins:List (Addr×Obj)) (s:Shared) (σ:St) (H:Hp) (x:V) (v:Value) (Q:VK),Inv X pins σ H s->RelV x v->r x H Q →
  wpAny (model X.prog X.w) X.A (f v) (EP X pins σ Q) X.xe s
def G4 (X:Cx) (f:Value) (r:List V->Hp->VK->Prop):Prop :=
 ∀ (pins:List (Addr×Obj)) (s:Shared) (σ:St) (H:Hp) (xs:List V) (us:List Value) (Q:VK),Inv X pins σ H s->Vals xs us->r xs H Q →
  wpAny (model X.prog X.w) X.A (call f us) (EP X pins σ Q) X.xe s
def b5w (X:Cx) (r:V->Hp->(Bool->Hp->Prop)->Prop):Prop :=
 ∀ (pins:List (Addr×Obj)) (s:Shared) (σ:St) (H:Hp) (x:V) (v:Value) (Q:Bool->Hp->Prop),Inv X pins σ H s->RelV x v->r x H Q →
  wpAny (model X.prog X.w) X.A (truthy v) (TP X pins σ Q) X.xe s
def tOp (r:R2) (ta tb:TE):TE:=λ σ H Q=>ta σ H λ x H1=>tb σ H1 λ y H2=>r x y H2 Q
def tUn (r:V->Hp->VK->Prop) (ta:TE):TE:=λ σ H Q=>ta σ H λ x H1=>r x H1 Q
def rI (C:Int->Int->Prop) (g:Int->Int->V):R2:=λ x y H Q=>∃ i j,x=.int i/\y=.int j/\C i j/\Q (g i j) H
def rI0 (g:Int->Int->V):R2:=λ x y H Q=>∃ i j,x=.int i/\y=.int j/\Q (g i j) H
def rU (g:Int->V):V->Hp->VK->Prop:=λ x H Q=>∃ i,x=.int i/\Q (g i) H
section
variable {X:Cx} {a b c:Expr} {ta tb tc:TE} {pos:Pos}
theorem b3a (ha:PE X a ta) (hb:PE X b tb) {pins:List (Addr×Obj)} {s:Shared} {σ:St} {H:Hp} {R:V->V->Hp->Prop} (I:Inv X pins σ H s)
  (h:ta σ H λ x H1=>tb σ H1 λ y H2=>R x y H2) {Q:Value->Shared->Prop} {f:Value->Value->Sem Value}
  (hf:∀ v u s2 x y H2,Inv X pins σ H2 s2->RelV x v->RelV y u->R x y H2->wpAny (model X.prog X.w) X.A (f v u) Q X.xe s2) :
  wpAny (model X.prog X.w) X.A (eval a X.env) (λ v s₁=>wpAny (model X.prog X.w) X.A (eval b X.env) (λ u s₂=>wpAny (model X.prog X.w) X.A (f v u) Q X.xe s₂) X.xe s₁) X.xe s:=by
 refine y9 (ha pins s σ H _ I h) λ v s1 ⟨x,H1,I1,r1,q1⟩=>?_;refine y9 (hb pins s1 σ H1 _ I1 q1) λ u s2 ⟨y,H2,I2,r2,q2⟩=>?_;exact hf v u s2 x y H2 I2 r1 r2 q2
theorem j6 {op:Operator} {r:R2} (ho:OpR X (binaryOp op) r) (ha:PE X a ta) (hb:PE X b tb):PE X (.BinOp a op b pos) (tOp r ta tb):=by
 intro pins s σ H Q I h;exact wpAny_BinOp (b3a ha hb I h λ v u s2 x y H2 I2 rx ry q=>ho pins s2 σ H2 x y v u Q I2 rx ry q)
theorem C8 {op:UnaryOp} {r:V->Hp->VK->Prop} (ho:UnR X (unaryOp op) r) (ha:PE X a ta):PE X (.UnaryOp op a pos) (tUn r ta):=by
 intro pins s σ H Q I h;exact UnaryOp_ (y9 (ha pins s σ H _ I h) λ v s1 ⟨x,H1,I1,r1,q1⟩=>ho pins s1 σ H1 x v Q I1 r1 q1)
theorem opI {f:Value->Value->Sem Value} {C:Int->Int->Prop} {g:Int->Int->Int}
  (rule:∀ (i j:Int) (t u:Tok) (s:Shared) (Q:Value->Shared->Prop) (E:Value->Shared->Prop),C i j->Q (.int (g i j) s.toks) { s with toks:=s.toks+1 }->wpAny (model X.prog X.w) X.A (f (.int i t) (.int j u)) Q E s) :
  OpR X f (rI C λ i j=>.int (g i j)):=by
 intro pins s σ H x y v u Q I rx ry h;obtain ⟨i,j,rfl,rfl,hc,q⟩:=h;obtain ⟨t,rfl⟩:=rx;obtain ⟨t',rfl⟩:=ry;exact rule i j t t' s _ _ hc ⟨.int (g i j),H,I.tok _,⟨_,rfl⟩,q⟩
theorem b4m {f:Value->Value->Sem Value} {g:Int->Int->Int}
  (rule:∀ (i j:Int) (t u:Tok) (s:Shared) (Q:Value->Shared->Prop) (E:Value->Shared->Prop),Q (.int (g i j) s.toks) { s with toks:=s.toks+1 }->wpAny (model X.prog X.w) X.A (f (.int i t) (.int j u)) Q E s) :
  OpR X f (rI0 λ i j=>.int (g i j)):=by
 intro pins s σ H x y v u Q I rx ry h;obtain ⟨i,j,rfl,rfl,q⟩:=h;obtain ⟨t,rfl⟩:=rx;obtain ⟨t',rfl⟩:=ry;exact rule i j t t' s _ _ ⟨.int (g i j),H,I.tok _,⟨_,rfl⟩,q⟩
theorem b0K {f:Value->Value->Sem Value} {g:Int->Int->Bool}
  (rule:∀ (i j:Int) (t u:Tok) (s:Shared) (Q:Value->Shared->Prop) (E:Value->Shared->Prop),Q (.bool (g i j)) s->wpAny (model X.prog X.w) X.A (f (.int i t) (.int j u)) Q E s) :
  OpR X f (rI0 λ i j=>.bl (g i j)):=by
 intro pins s σ H x y v u Q I rx ry h;obtain ⟨i,j,rfl,rfl,q⟩:=h;obtain ⟨t,rfl⟩:=rx;obtain ⟨t',rfl⟩:=ry;exact rule i j t t' s _ _ ⟨.bl (g i j),H,I,rfl,q⟩
def b5q (i j:Int):Prop:=0<j/\j<1073741824
def b5O (i j:Int):Prop:=0<=j/\j<=1000000/\i.natAbs<2 ^ 64
def CMul (i j:Int):Prop:=(-(2 ^ 64)<i/\i<2 ^ 64)\/(-(2 ^ 64)<j/\j<2 ^ 64)
theorem CMul.ok {i j:Int} (h:CMul i j):IntMulOk i j:=by
 rcases h with ⟨h1,h2⟩ | ⟨h1,h2⟩
 ·exact .of_left (intBits_le_64 h1 h2)
 ·exact .of_right (intBits_le_64 h1 h2)
theorem D0:OpR X (binaryOp .Add) (rI0 λ i j=>.int (i+j)):=b4m λ _ _ _ _ _ _ _ q=>add_int q
theorem a2v:OpR X (binaryOp .Sub) (rI0 λ i j=>.int (i - j)):=b4m λ _ _ _ _ _ _ _ q=>sub_int q
theorem a5F:OpR X (binaryOp .Mult) (rI CMul λ i j=>.int (i*j)):=opI λ _ _ _ _ _ _ _ hc q=>mul_int q hc.ok
theorem a4g:OpR X (binaryOp .FloorDiv) (rI b5q λ i j=>.int (i / j)):=opI λ i j _ _ _ _ _ hc q=>by
 have h1:(0:Int)<j:=hc.1;have h2:j<1073741824:=hc.2;exact floordiv_int (by omega) (by rw [iT i (by omega)]; exact q) (.inl (PyProof.noPylong_small (by omega)))
theorem C5:OpR X (binaryOp .Mod) (rI (λ _ j=>0<j) λ i j=>.int (i % j)):=opI λ i j _ _ _ _ _ hc q=>by
 have h1:(0:Int)<j:=hc;exact mod_int' (by omega) (by rw [Int.fmod_eq_emod_of_nonneg i (by omega)]; exact q)
theorem a5d:OpR X (binaryOp .Pow) (rI b5O λ i j=>.int (i ^ j.toNat)):=opI λ _ _ _ _ _ _ _ hc q=>pow_int_small hc.1 hc.2.1 hc.2.2 q
theorem unI {f:Value->Sem Value} {g:Int->Int}
  (rule:∀ (i:Int) (t:Tok) (s:Shared) (Q:Value->Shared->Prop) (E:Value->Shared->Prop),Q (.int (g i) s.toks) { s with toks:=s.toks+1 }->wpAny (model X.prog X.w) X.A (f (.int i t)) Q E s) :
  UnR X f (rU λ i=>.int (g i)):=by
 intro pins s σ H x v Q I rx h;obtain ⟨i,rfl,q⟩:=h;obtain ⟨t,rfl⟩:=rx;exact rule i t s _ _ ⟨.int (g i),H,I.tok _,⟨_,rfl⟩,q⟩
theorem x9:UnR X (unaryOp .USub) (rU λ i=>.int (-i)):=unI λ _ _ _ _ _ q=>neg_int q
end
def b4d:V->V->Bool
 | .non,.non=>true | .non,.int _=>true | .int _,.non=>true | .non,.bl _=>true | .bl _,.non=>true | .non,.str _=>true | .str _,.non=>true
 | .int _,.int _=>true | .bl _,.bl _=>true | .str _,.str _=>true | .byt _,.byt _=>true
 | .int _,.str _=>true | .str _,.int _=>true | .bl _,.str _=>true | .str _,.bl _=>true
 | _,_=>false
def rEq:R2:=λ x y H Q=>b4d x y=true/\Q (.bl (decide (x=y))) H
def rNe:R2:=λ x y H Q=>b4d x y=true/\Q (.bl (!decide (x=y))) H
theorem a6i {i j:Int}:decide (V.int i=V.int j)=(i==j):=by
 rw [fD];simp
theorem a9m {i j:Bool}:decide (V.bl i=V.bl j)=(i==j):=by
 rw [fD];simp
theorem a6J {i j:Str}:decide (V.str i=V.str j)=(i==j):=by
 rw [fD];simp
theorem a7f {i j:Array UInt8}:decide (V.byt i=V.byt j)=(i.toList==j.toList):=by
 rw [fD]
 cases i
 cases j;simp
section
variable {X:Cx} {a b c:Expr} {ta tb tc:TE} {pos:Pos}
theorem v5 {pins:List (Addr×Obj)} {σ:St} {H:Hp} {s:Shared} {Q:VK} {k k':Bool} (I:Inv X pins σ H s) (q:Q (.bl k) H) (e:k=k'):EP X pins σ Q (.bool k') s:=by
 subst e;exact ⟨.bl k,H,I,rfl,q⟩
theorem M4:OpR X (compareOp .Eq) rEq:=by
 intro pins s σ H x y v u Q I rx ry h;obtain ⟨hs,q⟩:=h
 cases x with
 | non =>
  cases rx
  cases y with
  | non=>cases ry; exact kX (v5 I q (by simp))
  | bl j=>cases ry; exact kY (v5 I q (by simp))
  | int j=>obtain ⟨t',rfl⟩:=ry; exact kZ (v5 I q (by simp))
  | str j=>obtain ⟨t',rfl⟩:=ry; exact lA (v5 I q (by simp))
  | _=>exact absurd (show false=true from hs) bY
 | bl i =>
  cases rx
  cases y with
  | non=>cases ry; exact lB (v5 I q (by simp))
  | bl j=>cases ry; exact eq_bool (v5 I q a9m)
  | str j=>obtain ⟨t',rfl⟩:=ry; exact lC (v5 I q (by simp))
  | _=>exact absurd (show false=true from hs) bY
 | int i =>
  obtain ⟨t,rfl⟩:=rx
  cases y with
  | non=>cases ry; exact lD (v5 I q (by simp))
  | int j=>obtain ⟨t',rfl⟩:=ry; exact eq_int (v5 I q a6i)
  | str j=>obtain ⟨t',rfl⟩:=ry; exact lE (v5 I q (by simp))
  | _=>exact absurd (show false=true from hs) bY
 | str i =>
  obtain ⟨t,rfl⟩:=rx
  cases y with
  | non=>cases ry; exact lF (v5 I q (by simp))
  | bl j=>cases ry; exact lG (v5 I q (by simp))
  | int j=>obtain ⟨t',rfl⟩:=ry; exact lH (v5 I q (by simp))
  | str j=>obtain ⟨t',rfl⟩:=ry; exact eq_str (v5 I q a6J)
  | _=>exact absurd (show false=true from hs) bY
 | byt i =>
  obtain ⟨t,rfl⟩:=rx
  cases y with
  | byt j=>obtain ⟨t',rfl⟩:=ry; exact W.eq_bytes (v5 I q a7f)
  | _=>exact absurd (show false=true from hs) bY
 | _=>cases y <;> exact absurd (show false=true from hs) bY
theorem a6b:OpR X (compareOp .NotEq) rNe:=by
 intro pins s σ H x y v u Q I rx ry h;obtain ⟨hs,q⟩:=h
 cases x with
 | non =>
  cases rx
  cases y with
  | non=>cases ry; exact lI (v5 I q (by simp))
  | bl j=>cases ry; exact lJ (v5 I q (by simp))
  | int j=>obtain ⟨t',rfl⟩:=ry; exact lK (v5 I q (by simp))
  | str j=>obtain ⟨t',rfl⟩:=ry; exact lL (v5 I q (by simp))
  | _=>exact absurd (show false=true from hs) bY
 | bl i =>
  cases rx
  cases y with
  | non=>cases ry; exact lM (v5 I q (by simp))
  | bl j=>cases ry; exact ne_bool (v5 I q (congrArg not a9m))
  | str j=>obtain ⟨t',rfl⟩:=ry; exact lN (v5 I q (by simp))
  | _=>exact absurd (show false=true from hs) bY
 | int i =>
  obtain ⟨t,rfl⟩:=rx
  cases y with
  | non=>cases ry; exact lO (v5 I q (by simp))
  | int j=>obtain ⟨t',rfl⟩:=ry; exact ne_int (v5 I q (congrArg not a6i))
  | str j=>obtain ⟨t',rfl⟩:=ry; exact lP (v5 I q (by simp))
  | _=>exact absurd (show false=true from hs) bY
 | str i =>
  obtain ⟨t,rfl⟩:=rx
  cases y with
  | non=>cases ry; exact lQ (v5 I q (by simp))
  | bl j=>cases ry; exact lR (v5 I q (by simp))
  | int j=>obtain ⟨t',rfl⟩:=ry; exact lT (v5 I q (by simp))
  | str j=>obtain ⟨t',rfl⟩:=ry; exact ne_str (v5 I q (congrArg not a6J))
  | _=>exact absurd (show false=true from hs) bY
 | byt i =>
  obtain ⟨t,rfl⟩:=rx
  cases y with
  | byt j=>obtain ⟨t',rfl⟩:=ry; exact W.ne_bytes (v5 I q (congrArg not a7f))
  | _=>exact absurd (show false=true from hs) bY
 | _=>cases y <;> exact absurd (show false=true from hs) bY
theorem a0v:OpR X (compareOp .Lt) (rI0 λ i j=>.bl (decide (i<j))):=b0K λ _ _ _ _ _ _ _ q=>lt_int q
theorem a4H:OpR X (compareOp .LtE) (rI0 λ i j=>.bl (decide (i<=j))):=b0K λ _ _ _ _ _ _ _ q=>le_int q
theorem a1S:OpR X (compareOp .Gt) (rI0 λ i j=>.bl (decide (j<i))):=b0K λ _ _ _ _ _ _ _ q=>gt_int q
theorem a7b:OpR X (compareOp .GtE) (rI0 λ i j=>.bl (decide (j<=i))):=b0K λ _ _ _ _ _ _ _ q=>ge_int q
theorem a5L:OpR X (compareOp .Is) (λ x y H Q=>y=.non/\Q (.bl (decide (x=.non))) H):=by
 intro pins s σ H x y v u Q I rx ry h;obtain ⟨rfl,q⟩:=h
 cases ry;refine is_none_gen (v5 I q ?_)
 cases x <;> first
  | (cases rx; rfl)
  | (obtain ⟨t,rfl⟩:=rx; rfl)
theorem b1y:OpR X (compareOp .IsNot) (λ x y H Q=>y=.non/\Q (.bl (!decide (x=.non))) H):=by
 intro pins s σ H x y v u Q I rx ry h;obtain ⟨rfl,q⟩:=h
 cases ry;refine isnot_none_gen (v5 I q ?_)
 cases x <;> first
  | (cases rx; rfl)
  | (obtain ⟨t,rfl⟩:=rx; rfl)
theorem p6 (b:Expr) {op:CmpOp} (h:op≠.In:=by decide) (h2:op≠.NotIn:=by decide):behindInMarks op b=false:=by
 have e1:(op==CmpOp.In)=false:=by cases op <;> first | rfl | exact absurd rfl h
 have e2:(op==CmpOp.NotIn)=false:=by cases op <;> first | rfl | exact absurd rfl h2
 cases b <;> simp [behindInMarks,e1,e2]
theorem O8 {op:CmpOp} {r:R2} (ho:OpR X (compareOp op) r) (ha:PE X a ta) (hb:PE X b tb) (hm:behindInMarks op b=false):PE X (.Compare a [op] [b] pos) (tOp r ta tb):=by
 intro pins s σ H Q I h;exact wpAny_Compare1 (b3a ha hb I h λ v u s2 x y H2 I2 rx ry q=>ho pins s2 σ H2 x y v u Q I2 rx ry q) hm
def b1K (t:TE):TT:=λ σ H Q=>t σ H λ x H'=>∃ k,x=.bl k/\Q k H'
theorem m6 {op:CmpOp} {r:R2} (ho:OpR X (compareOp op) r) (ha:PE X a ta) (hb:PE X b tb) (hm:behindInMarks op b=false):PT X (.Compare a [op] [b] pos) (b1K (tOp r ta tb)):=by
 intro pins s σ H Q I h;refine wpAny_isTrue_Compare1 (y9 (ha pins s σ H _ I h) λ v s1 ⟨x,H1,I1,r1,q1⟩=>y9 (hb pins s1 σ H1 _ I1 q1) λ u s2 ⟨y,H2,I2,r2,q2⟩ =>
  y9 (ho pins s2 σ H2 x y v u _ I2 r1 r2 q2) λ c s3 ⟨z,H3,I3,r3,k,e,q3⟩=>?_) hm
 subst e
 cases r3;exact wpAny_truthy_bool ⟨H3,I3,q3⟩
def a8k (r r':R2) (ta tb tc:TE):TE:=λ σ H Q=>ta σ H λ x H1=>tb σ H1 λ y H2=>r x y H2 λ z H3=>∃ k,z=.bl k ∧
 (if k=true then tc σ H3 λ w' H4=>r' y w' H4 Q else Q (.bl false) H3)
theorem a9X {op op':CmpOp} {r r':R2} (ho:OpR X (compareOp op) r) (ho':OpR X (compareOp op') r') (ha:PE X a ta) (hb:PE X b tb) (hc:PE X c tc)
  (hm:lastMarks [op,op'] [b,c]=false:=by with_unfolding_all rfl):PE X (.Compare a [op,op'] [b,c] pos) (a8k r r' ta tb tc):=by
 intro pins s σ H Q I h;refine Compare_chain (y9 (ha pins s σ H _ I h) λ v s1 ⟨x,H1,I1,r1,q1⟩=>chain_link (y9 (hb pins s1 σ H1 _ I1 q1) λ u s2 ⟨y,H2,I2,r2,q2⟩ =>
  y9 (ho pins s2 σ H2 x y v u _ I2 r1 r2 q2) λ d s3 ⟨z,H3,I3,r3,k,e,q3⟩=>?_)) hm
 subst e
 cases r3;refine wpAny_truthy_bool ?_
 cases k with
 | false=>exact ite_ff ⟨.bl false,H3,I3,rfl,q3⟩
 | true=>exact ite_tt (chain_last (y9 (hc pins s3 σ H3 _ I3 q3) λ w' s4 ⟨z',H4,I4,r4,q4⟩=>ho' pins s4 σ H4 y z' u w' Q I4 r2 r4 q4))
theorem a4q {op op':CmpOp} {r r':R2} (ho:OpR X (compareOp op) r) (ho':OpR X (compareOp op') r') (ha:PE X a ta) (hb:PE X b tb) (hc:PE X c tc)
  (hm:lastMarks [op,op'] [b,c]=false:=by with_unfolding_all rfl):PT X (.Compare a [op,op'] [b,c] pos) (b1K (a8k r r' ta tb tc)):=by
 intro pins s σ H Q I h;refine isTrue_chain (y9 (ha pins s σ H _ I h) λ v s1 ⟨x,H1,I1,r1,q1⟩=>test_link (y9 (hb pins s1 σ H1 _ I1 q1) λ u s2 ⟨y,H2,I2,r2,q2⟩ =>
  y9 (ho pins s2 σ H2 x y v u _ I2 r1 r2 q2) λ d s3 ⟨z,H3,I3,r3,k,e,q3⟩=>?_)) hm
 subst e
 cases r3;refine wpAny_truthy_bool ?_
 cases k with
 | false =>
  obtain ⟨k',e',q'⟩:=q3
  cases e';exact ite_ff ⟨H3,I3,q'⟩
 | true =>
  refine ite_tt (test_last (y9 (hc pins s3 σ H3 _ I3 q3) λ w' s4 ⟨z',H4,I4,r4,q4⟩=>y9 (ho' pins s4 σ H4 y z' u w' _ I4 r2 r4 q4) λ d' s5 ⟨z2,H5,I5,r5,k2,e2,q5⟩=>?_));subst e2
  cases r5;exact wpAny_truthy_bool ⟨H5,I5,q5⟩
def b4h (K:W.Frag) (x:V) (H:Hp) (k:Bool):Prop :=
 match x with
 | .non=>k=false
 | .bl b=>k=b
 | .int i=>k=(i != 0)
 | .str y=>y.length<=sizeLine/\k=((y.length:Int) != 0)
 | .byt y=>y.size<=sizeLine/\k=((y.size:Int) != 0)
 | .ref p=>(∃ xs,SqL K H p xs/\k=!xs.isEmpty)\/(∃ xs,SqT K H p xs/\k=!xs.isEmpty)\/∃ kvs,H p=some (.dK kvs)/\k=!kvs.isEmpty
 | _=>False
theorem a5t {κ:Type} {kvs:List (κ×V)} {vs:List (κ×Value)} (r:KV kvs vs):(!vs.isEmpty)=!kvs.isEmpty:=by
 cases r <;> rfl
theorem a2d {xs:List V} {its:List Value} (r:Vals xs its):(!its.toArray.isEmpty)=!xs.isEmpty:=by
 cases r <;> simp
theorem a2F:(sizeLine:Nat)<2 ^ 63:=by rw [sizeLine_eq]; decide
theorem b2X:b5w X (λ x H Q=>∃ k,b4h X.K x H k/\Q k H):=by
 intro pins s σ H x v Q I rx h;obtain ⟨k,e,q⟩:=h;have hl:=a2F;have hs:sizeLine=16777216:=sizeLine_eq
 cases x with
 | non =>
  cases rx;have e':k=false:=e;subst e';exact truthy_none ⟨H,I,q⟩
 | bl b =>
  cases rx;have e':k=b:=e;subst e';exact wpAny_truthy_bool ⟨H,I,q⟩
 | int i =>
  obtain ⟨t,rfl⟩:=rx;have e':k=(i != 0):=e;subst e';exact PySem.P.truthy_int ⟨H,I,q⟩
 | str y =>
  obtain ⟨t,rfl⟩:=rx;obtain ⟨hy,e'⟩:y.length<=sizeLine/\k=((y.length:Int) != 0):=e;subst e';exact PySem.P.truthy_str (by omega) ⟨H,I.tok _,q⟩
 | byt y =>
  obtain ⟨t,rfl⟩:=rx;obtain ⟨hy,e'⟩:y.size<=sizeLine/\k=((y.size:Int) != 0):=e;subst e';exact W.truthy_bytes (by omega) ⟨H,I.tok _,q⟩
 | ref p =>
  cases rx;have e':(∃ xs,SqL X.K H p xs/\k=!xs.isEmpty)\/(∃ xs,SqT X.K H p xs/\k=!xs.isEmpty)\/∃ kvs,H p=some (.dK kvs)/\k=!kvs.isEmpty:=e;rcases e' with ⟨xs,hx,e'⟩ | ⟨xs,hx,e'⟩ | ⟨kvs,hx,e'⟩
  ·subst e'
   obtain ⟨its,r,pl,hz⟩:=I.list hx;have hlen:=r.length;exact wpAny_truthy_list pl.isList (by simp only [aU]; omega) ⟨H,I.tok _,by rw [a2d r]; exact q⟩
  ·subst e'
   obtain ⟨its,r,pl,hz⟩:=I.tuple hx;have hlen:=r.length;exact truthy_tuple pl (by simp only [aU]; omega) ⟨H,I.tok _,by rw [a2d r]; exact q⟩
  ·subst e'
   obtain ⟨hz,hS,vs,r,m⟩:kvs.length<=sizeLine/\(p==sysModules)=false/\∃ vs,KV kvs vs/\s.heap.DictOf (a3t X.prog X.w) p vs:=I.hok p _ hx;have hlen:kvs.length=vs.length:=Paired.length r;exact wpAny_truthy_dict hS m (by omega) ⟨H,I.tok _,by rw [a5t r]; exact q⟩
 | _=>exact (show False from e).elim
theorem a9S (ha:PE X a ta) (he:∀ whole,isTrue a X.env whole=(do let v <- whole; standAt a.pos; holding [v] (truthy v))) :
  PT X a (λ σ H Q=>ta σ H λ x H'=>∃ k,b4h X.K x H' k/\Q k H'):=by
 intro pins s σ H Q I h;exact isTrue_plain (y9 (ha pins s σ H _ I h) λ v s1 ⟨x,H1,I1,r1,q1⟩=>b2X pins s1 σ H1 x v Q I1 r1 q1) (he _)
theorem P6 {x:V} {us:List Value} (r:Vals [x] us):∃ u,us=[u]/\RelV x u:=by
 cases r with
 | cons r1 r2=>cases r2; exact ⟨_,rfl,r1⟩
theorem a1x {x y:V} {us:List Value} (r:Vals [x,y] us):∃ u w',us=[u,w']/\RelV x u/\RelV y w':=by
 cases r with
 | cons r1 r2 =>
  cases r2 with
  | cons r3 r4=>cases r4; exact ⟨_,_,rfl,r1,r3⟩
theorem a8f:G4 X (.builtin "abs") (λ xs H Q=>∃ i,xs=[.int i]/\Q (.int (if i<0 then -i else i)) H):=by
 intro pins s σ H xs us Q I r h;obtain ⟨i,rfl,q⟩:=h;obtain ⟨u,rfl,t,rfl⟩:=P6 r;exact call_abs_int λ u tk=>⟨.int (if i<0 then -i else i),H,I.tok _,⟨_,rfl⟩,q⟩
theorem a2V (hc:X.calm=true):G4 X (.builtin "max") (λ xs H Q=>∃ i j,xs=[.int i,.int j]/\Q (.int (if j>i then j else i)) H):=by
 intro pins s σ H xs us Q I r h;obtain ⟨i,j,rfl,q⟩:=h;obtain ⟨u,w',rfl,⟨t,rfl⟩,⟨t',rfl⟩⟩:=a1x r;refine max_two_ints (I.ok.hd hc) λ h' tk k=>⟨_,H,I.kept k,?_,q⟩
 by_cases hj:j>i
 ·rw [if_pos hj,if_pos hj]; exact ⟨_,rfl⟩
 ·rw [if_neg hj,if_neg hj]; exact ⟨_,rfl⟩
theorem a7z (hc:X.calm=true):G4 X (.builtin "min") (λ xs H Q=>∃ i j,xs=[.int i,.int j]/\Q (.int (if j<i then j else i)) H):=by
 intro pins s σ H xs us Q I r h;obtain ⟨i,j,rfl,q⟩:=h;obtain ⟨u,w',rfl,⟨t,rfl⟩,⟨t',rfl⟩⟩:=a1x r;refine min_two_ints (I.ok.hd hc) λ h' tk k=>⟨_,H,I.kept k,?_,q⟩
 by_cases hj:j<i
 ·rw [if_pos hj,if_pos hj]; exact ⟨_,rfl⟩
 ·rw [if_neg hj,if_neg hj]; exact ⟨_,rfl⟩
theorem a7k:G4 X (.type "int") (λ xs H Q=>(∃ i,xs=[.int i]/\Q (.int i) H)\/∃ k,xs=[.bl k]/\Q (.int (if k then 1 else 0)) H):=by
 intro pins s σ H xs us Q I r h;rcases h with ⟨i,rfl,q⟩ | ⟨k,rfl,q⟩
 ·obtain ⟨u,rfl,t,rfl⟩:=P6 r
  exact call_int_int ⟨.int i,H,I,⟨_,rfl⟩,q⟩
 ·obtain ⟨u,rfl,r1⟩:=P6 r
  cases r1;exact call_int_bool ⟨.int (if k then 1 else 0),H,I.tok _,⟨_,rfl⟩,q⟩
end
structure ObjM (h:Heap) (x dx C:Addr) (mA:Str->Option Value):Prop where
 obj:h.get? x=some (W.instObj C dx)
 ns:h.Ns1 dx mA
 ne:dx≠x
theorem a7C {h:Heap} {dx:Addr} {mA:Str->Option Value} (n:h.Ns1 dx mA):∃ od,h.get? dx=some od/\∀ name,W.lookIn name od=some (mA name):=by
 obtain ⟨o,es,ep,ho,hd,hk,_,hm⟩:=n;refine ⟨o,ho,λ name=>?_⟩;have e:=hm name;unfold nsFind findBy at e;rw [<- Array.find?_toList] at e;unfold W.lookIn;rw [hd];dsimp only
 split
 ·rename_i y q
  rw [q] at e;exact congrArg some e
 ·rename_i q
  rw [q] at e;have a:es.toList.any (·.refKey)=false:=by
   rw [List.any_eq_false];intro y hy;obtain ⟨z,t,hkey⟩:=hk y (Array.mem_toList_iff.mp hy);simp [DictEntry.refKey,hkey]
  have a':¬ es.toList.any (·.refKey)=true:=by rw [a]; exact bY
  rw [if_neg a'];exact congrArg some e
theorem ObjM.look {h:Heap} {x dx C:Addr} {mA:Str->Option Value} (I:ObjM h x dx C mA):∃ od,W.InstAt h x (W.instObj C dx) C (some od)/\∀ name,W.lookIn name od=some (mA name) :=
 let ⟨od,ho,hl⟩:=a7C I.ns
 ⟨od,⟨I.obj,rfl,rfl,ho⟩,hl⟩
section
variable {prog:Program} {w:World} {A:Around} {E:Value->Shared->Prop} {s:Shared} {K:W.Frag} {x dx C f:Addr} {mA:Str->Option Value} {name:Str} {v:Value}
theorem b1m {expr:Bool} {Q:Value->Shared->Prop} (X:K.In s.heap) (I:ObjM s.heap x dx C mA) (hg:W.plainGet K C name=true) (hh:W.hasDictIn K C=true)
  (ha:W.findIn K (.ref C) name=some none) (hv:mA name=some v) (hv':W.handedIn v=true) (h:Q v { s with toks:=s.toks+1 }) :
  wpAny (model prog w) A (getAttr (.ref x) name expr) Q E s:=by
 obtain ⟨od,J,hl⟩:=I.look;exact W.get_value X J (W.plainGet_of hg).1 (W.findObj_own hh ha rfl (by rw [hl,hv])) hv' h
theorem b0f {pl:Sem Bool} {Q:Value×List Value->Shared->Prop} (X:K.In s.heap) (I:ObjM s.heap x dx C mA) (hg:W.plainGet K C name=true)
  (hf:W.findIn K (.ref C) name=some (some (.ref f))) (ht:W.isFn K (.ref f)=true) (hv:mA name=none) (h:Q (.ref f,[.ref x]) s) :
  wpAny (model prog w) A (getMethod (.ref x) name pl) Q E s:=by
 obtain ⟨od,J,hl⟩:=I.look;exact W.method_fn X J (W.plainGet_of hg).1 (W.plainGet_of hg).2 hf (beq_iff_eq.mp ht) (by show (W.lookIn name od).map (·.isSome)=some false; rw [hl,hv]; rfl) h
theorem b0C {ns:List Str} {Q:Unit->Shared->Prop} (X:K.In s.heap) (I:ObjM s.heap x dx C mA)
  (hs:W.findIn K (.ref C) "__setattr__"=some (some (.builtin "object.__setattr__"))) (hp:W.plainOver K C=true) (ht:W.takerIn K C name=some none) (hh:W.hasDictIn K C=true)
  (hw:gT mA ns) (hsz:ns.length<=sizeLine)
  (h:∀ h',ObjM h' x dx C (λ y=>if y=name then some v else mA y)->Heap.SameBut dx s.heap h'->Q () { s with heap:=h',toks:=s.toks+2 }) :
  wpAny (model prog w) A (setAttr (.ref x) name v) Q E s:=by
 obtain ⟨od,J,hl⟩:=I.look;refine W.set_plain X J hs (W.osa_open (s:={ s with toks:=s.toks+1 }) (r:=none) X J hp ht λ b=>?_);obtain ⟨cd,hc,hd'⟩:=W.any_some hh;have hx:s.heap.get? x=some ⟨.ref C,some dx,.plain,#[]⟩:=I.obj;refine wpAny_bind (wpAny_pure (wpAny_bind (wpAny_bind (wpAny_loadPart hx (wpAny_bind (W.Looks.here (s:={ s with toks:=s.toks+1 }) (W.looks_clsIn X hc) ?_))))));rw [hd'];refine wpAny_pure (a:=some dx) (wpAny_bind (wpAny_pure (wpAny_bind ?_)));refine wpAny_nsSet1 (s:={ s with toks:=s.toks+1 }) I.ns λ h' hn2 hs2=>?_;obtain ⟨oD,esD,epD,hoD,hdD,hcD⟩:=hn2.count (lU name v hw);refine wpAny_bind (wpAny_lookBehind hoD (by rw [hdD]; exact pastItsLine_dict (aZ hcD (by rw [cV]; omega))) ?_);exact wpAny_pure (h _ ⟨(hs2.2 _ (aQ I.ne)).trans I.obj,hn2,I.ne⟩ hs2)
theorem a8n {R:Result->Shared->Prop} {vs:List Value} {kw:List (Str×Value)} (X:K.In s.heap) (hm:W.makesIn K C=true)
  (hi:W.findIn K (.ref C) "__init__"=some (some (.ref f))) (hf:W.typeIn K (.ref f)=some (.type "function"))
  (h:codeAny (model prog w) (A.under (.builtin "type.__call__" ⟨.ref C::vs,kw⟩)) (.call (.ref f) ⟨.ref (s.heap.objs.size+1)::vs,kw⟩) (W.InitBack (s.heap.objs.size+1) R)
   { s with heap:=(s.heap.push W.emptyDict).push (W.instObj C s.heap.objs.size) }) :
  codeAny (model prog w) A (.call (.ref C) ⟨vs,kw⟩) R s:=by
 obtain ⟨hh,g,d,t,os⟩:=s;exact W.make_core (W.makes_of X hm) (W.looks_findIn X hi) (λ self=>W.bind_fn X self hf) (.inl rfl) h
end
def Q5 (f:Str) (v:V):List (Str×V)->List (Str×V)
 | []=>[(f,v)]
 | (g,x)::r=>if g=f then (g,v)::r else (g,x)::Q5 f v r
theorem a1s (f g:Str) (v:V):∀ fs:List (Str×V),(Q5 f v fs).lookup g=if g=f then some v else fs.lookup g
 | []=>by
  show dW g [(f,v)]=_
  by_cases h:g=f
  ·have hb:(g==f)=true:=beq_iff_eq.mpr h
   simp only [dW,hb,if_pos h]
  ·have hb:(g==f)=false:=beq_eq_false_iff_ne.mpr h
   simp only [dW,hb,if_neg h]
 | (k,x)::r=>by
  have ih:=a1s f g v r;rw [show Q5 f v ((k,x)::r)=(if k=f then (k,v)::r else (k,x)::Q5 f v r) from rfl]
  by_cases hk:k=f
  ·rw [if_pos hk]
   by_cases h:g=k
   ·have hb:(g==k)=true:=beq_iff_eq.mpr h
    simp only [dW,hb,if_pos (h.trans hk)]
   ·have hb:(g==k)=false:=beq_eq_false_iff_ne.mpr h
    simp only [dW,hb,if_neg (λ e:g=f=>h (e.trans hk.symm))]
  ·rw [if_neg hk]
   by_cases h:g=k
   ·have hb:(g==k)=true:=beq_iff_eq.mpr h
    simp only [dW,hb,if_neg (λ e:g=f=>hk (h.symm.trans e))]
   ·have hb:(g==k)=false:=beq_eq_false_iff_ne.mpr h
    simp only [dW,hb];exact ih
theorem a0W (f:Str) (v:V):∀ fs:List (Str×V),f∈(Q5 f v fs).map (·.1)/\∀ g,g∈fs.map (·.1)->g∈(Q5 f v fs).map (·.1)
 | []=>⟨by simp [Q5],λ g h=>by simp at h⟩
 | (k,x)::r=>by
  obtain ⟨i1,i2⟩:=a0W f v r;rw [show Q5 f v ((k,x)::r)=(if k=f then (k,v)::r else (k,x)::Q5 f v r) from rfl]
  by_cases hk:k=f
  ·rw [if_pos hk]
   subst hk;exact ⟨by simp,λ g h=>by simpa using h⟩
  ·rw [if_neg hk]
   refine ⟨?_,λ g h=>?_⟩
   ·rw [aV]
    exact bM _ i1
   ·rw [aV] at h ⊢
    rcases aH.mp h with e | e
    ·exact aH.mpr (.inl e)
    ·exact bM _ (i2 g e)
theorem a1t (f:Str) (v:V):∀ fs:List (Str×V),(Q5 f v fs).length<=fs.length+1
 | []=>by simp [Q5]
 | (k,x)::r=>by
  have ih:=a1t f v r;rw [show Q5 f v ((k,x)::r)=(if k=f then (k,v)::r else (k,x)::Q5 f v r) from rfl]
  by_cases hk:k=f
  ·rw [if_pos hk,cV,cV]; omega
  ·rw [if_neg hk,cV,cV]; omega
theorem RelO.some_of {v:V} {o:Option Value} (r:RelO (some v) o):∃ u,o=some u/\RelV v u:=by
 cases o with
 | none=>exact (show False from r).elim
 | some u=>exact ⟨u,rfl,r⟩
theorem RelO.none_of {o:Option Value} (r:RelO none o):o=none:=by
 cases o with
 | none=>rfl
 | some u=>exact (show False from r).elim
theorem a7n {v:V} {u:Value} (r:RelV v u):W.handedIn u=true:=by
 cases v with
 | non=>cases (show u=Value.none from r); rfl
 | bl b=>cases (show u=Value.bool b from r); rfl
 | int i=>obtain ⟨t,e⟩:=(show ∃ t,u=Value.int i t from r); cases e; rfl
 | str x=>obtain ⟨t,e⟩:=(show ∃ t,u=Value.str x t from r); cases e; rfl
 | byt b=>obtain ⟨t,e⟩:=(show ∃ t,u=Value.bytes b t from r); cases e; rfl
 | flt b=>obtain ⟨t,e⟩:=(show ∃ t,u=Value.float b t from r); cases e; rfl
 | ref a=>cases (show u=Value.ref a from r); rfl
 | ty n=>cases (show u=Value.type n from r); rfl
section
variable {P:Program} {w:World} {H H':Hp} {h h':Heap} {a C dx:Addr} {fs fs':List (Str×V)}
theorem a1E (hok:HOk P w H h) (e:H a=some (.ins C dx fs)):∃ mA,ObjM h a dx C mA/\(∀ f,RelO (fs.lookup f) (mA f))/\gT mA (fs.map (·.1))/\fs.length<=1000/\H dx=some (.own a):=by
 obtain ⟨d,z,ne,ob,mA,n,r,q⟩:=(show ObjOk P w H h a (.ins C dx fs) from hok a _ e);exact ⟨mA,⟨ob,n,ne⟩,r,q,z,d⟩
end
structure Cls (K:W.Frag) (C:Addr):Prop where
 pg:W.plainGet K C Str.empty=true
 hd:W.hasDictIn K C=true
 po:W.plainOver K C=true
 sa:W.findIn K (.ref C) "__setattr__"=some (some (.builtin "object.__setattr__"))
theorem Cls.get {K:W.Frag} {C:Addr} (c:Cls K C) (f:Str):W.plainGet K C f=true:=c.pg
def NoAttr (K:W.Frag) (C:Addr) (f:Str):Prop:=W.findIn K (.ref C) f=some none
theorem NoAttr.taker {K:W.Frag} {C:Addr} {f:Str} (n:NoAttr K C f):W.takerIn K C f=some none:=by
 unfold W.takerIn;rw [show W.findIn K (.ref C) f=some none from n];rfl
structure Con (K:W.Frag) (C:Addr) (f:Str) (v:V) (u:Value):Prop where
 at_:W.findIn K (.ref C) f=some (some u)
 rel:RelV v u
 get:W.specialIn K u "__get__"=some none
 cp:W.copiedNames.contains f=false
structure a5X (K:W.Frag) (C:Addr) (m:Str) (f:Addr):Prop where
 at_:W.findIn K (.ref C) m=some (some (.ref f))
 fn:W.isFn K (.ref f)=true
 kp:W.keepIn K (.ref f)=true
section
variable {X:Cx} {pins:List (Addr×Obj)} {σ:St} {H:Hp} {s:Shared} {a C dx:Addr} {fs:List (Str×V)} {f:Str} {v:V} {A:Around} {E:Value->Shared->Prop}
theorem a5i {b:Bool} {Q:Value->Shared->Prop} (I:Inv X pins σ H s) (e:H a=some (.ins C dx fs)) (c:Cls X.K C) (n:NoAttr X.K C f) (l:fs.lookup f=some v)
  (h:∀ u s',Inv X pins σ H s'->RelV v u->Q u s'):wpAny (model X.prog X.w) A (getAttr (.ref a) f b) Q E s:=by
 obtain ⟨mA,O,r,_,_,_⟩:=a1E I.hok e;obtain ⟨u,hu,ru⟩:=RelO.some_of (v:=v) (o:=mA f) (by rw [<- l]; exact r f);exact b1m I.kIn O (c.get f) c.hd n hu (a7n ru) (h u _ (I.tok _) ru)
theorem T7 {m:Str} {g:Addr} {pl:Sem Bool} {Q:Value×List Value->Shared->Prop} (I:Inv X pins σ H s) (e:H a=some (.ins C dx fs)) (c:Cls X.K C) (k:a5X X.K C m g) (l:fs.lookup m=none)
  (h:Q (.ref g,[.ref a]) s):wpAny (model X.prog X.w) A (getMethod (.ref a) m pl) Q E s:=by
 obtain ⟨mA,O,r,_,_,_⟩:=a1E I.hok e;have hn:mA m=none:=RelO.none_of (by rw [<- l]; exact r m);exact b0f I.kIn O (c.get m) k.at_ k.fn hn h
theorem a1X {y:V} {u:Value} {Q:Unit->Shared->Prop} (I:Inv X pins σ H s) (e:H a=some (.ins C dx fs)) (c:Cls X.K C) (n:NoAttr X.K C f) (hl:fs.length<1000) (ry:RelV y u)
  (h:∀ s',Inv X pins σ (upd H a (.ins C dx (Q5 f y fs))) s'->Q () s'):wpAny (model X.prog X.w) A (setAttr (.ref a) f u) Q E s:=by
 obtain ⟨mA,O,r,wi,_,ho⟩:=a1E I.hok e;have hz:(fs.map (·.1)).length<=sizeLine:=by rw [aA,sizeLine_eq]; omega
 refine b0C I.kIn O c.sa c.po n.taker c.hd wi hz λ h' O' sb=>h _ ?_;have hd:∃ o,h'.get? dx=some o:=let ⟨o,_,_,e',_⟩:=O'.ns; ⟨o,e'⟩
 refine I.write (x:=a) (e:=dx) (by rw [e]; exact eQ) (.inr ho) (λ b q hb z=>(sb.2 b hb).trans z) hd ?_;refine ⟨by rw [c9 O.ne]; exact ho,?_,O.ne,O'.obj,_,O'.ns,λ g=>?_,λ g hg=>?_⟩
 ·have:=a1t f y fs; omega
 ·show RelO ((Q5 f y fs).lookup g) (if g=f then some u else mA g)
  rw [a1s]
  by_cases q:g=f
  ·rw [if_pos q,if_pos q]; exact ry
  ·rw [if_neg q,if_neg q]; exact r g
 ·by_cases q:g=f
  ·rw [q]; exact (a0W f y fs).1
  ·refine (a0W f y fs).2 g (wi g λ z=>hg ?_)
   show (if g=f then some u else mA g)=none
   rw [if_neg q]; exact z
theorem Inv.made (I:Inv X pins σ H s):Inv X pins σ (upd (upd H s.heap.objs.size (.own (s.heap.objs.size+1))) (s.heap.objs.size+1) (.ins C s.heap.objs.size []))
  { s with heap:=(s.heap.push W.emptyDict).push (W.instObj C s.heap.objs.size) }:=by
 have e1:(s.heap.push W.emptyDict).get? s.heap.objs.size=some W.emptyDict:=Heap.get?_push_size s.heap rfl;have e2:((s.heap.push W.emptyDict).push (W.instObj C s.heap.objs.size)).get? (s.heap.objs.size+1)=some (W.instObj C s.heap.objs.size):=by
  have:=Heap.get?_push_size (s.heap.push W.emptyDict) (o:=W.instObj C s.heap.objs.size) rfl
  rwa [Heap.size_push] at this
 have e3:(s.heap.push W.emptyDict).Ns s.heap.objs.size (λ _=>none):=⟨W.emptyDict,#[],_,e1,rfl,(λ e he=>absurd he (by simp)),λ _=>rfl⟩;have I1:=I.laid (a:=s.heap.objs.size) (o:=.own (s.heap.objs.size+1)) (h':=s.heap.push W.emptyDict) (t':=s.toks) (λ b u q=>Heap.get?_push_of_some _ q) (aE _) ⟨_,e1⟩;refine I1.laid (a:=s.heap.objs.size+1) (o:=.ins C s.heap.objs.size []) (t':=s.toks) (λ b u q=>Heap.get?_push_of_some _ q) (iU (Heap.size_push _ _)) ?_;have ne:s.heap.objs.size≠s.heap.objs.size+1:=bI (eR _);refine ⟨by rw [c9 ne,upd_same],bU _,ne,e2,λ _=>none,(Heap.Ns1.of_empty e3).at λ o q=>Heap.get?_push_of_some _ q,λ _=>eQ,λ y hy=>absurd rfl hy⟩
theorem b1c {prog:Program} {w:World} {env:Env} {e:Expr} {f:Str} {pos:Pos} {s:Shared} {Q:Value->Shared->Prop} (hb:attributeBase e f env (eval e env)=eval e env)
  (h:wpAny (model prog w) A (eval e env) (λ o s₁=>wpAny (model prog w) A (getAttr o f true) Q E s₁) E s):wpAny (model prog w) A (eval (.Attribute e f pos) env) Q E s :=
 Attribute_any_ h (by rw [arm_eval_Attribute,hb])
end
def b3V (K:W.Frag) (ta:TE) (f:Str):TE:=λ σ H Q=>ta σ H λ x H1=>∃ a C dx fs v,x=.ref a/\H1 a=some (.ins C dx fs)/\Cls K C/\NoAttr K C f/\fs.lookup f=some v/\Q v H1
def b5S (K:W.Frag) (ta tv:TE) (f:Str):TS:=λ D σ H=>tv σ H λ y H1=>ta σ H1 λ x H2=>∃ a C dx fs,x=.ref a/\H2 a=some (.ins C dx fs)/\Cls K C/\NoAttr K C f/\fs.length<1000 ∧
 D.nx σ (upd H2 a (.ins C dx (Q5 f y fs)))
section
variable {X:Cx} {o e value:Expr} {f:Str} {pos pos' tpos:Pos} {ta tv:TE}
theorem m7 (he:PE X e ta) (hb:attributeBase e f X.env (eval e X.env)=eval e X.env):PE X (.Attribute e f pos) (b3V X.K ta f):=by
 intro pins s σ H Q I h;refine b1c hb (y9 (he pins s σ H _ I h) λ u s1 ⟨x,H1,I1,rx,a,C,dx,fs,v,ex,ea,c,n,l,q⟩=>?_);subst ex;obtain rfl:u=Value.ref a:=rx;exact a5i I1 ea c n l λ u' s2 I2 ru=>⟨v,H1,I2,ru,q⟩
theorem G9 (ha:PE X o ta) (hv:PE X value tv) (hs:swapsWith value (some (.Attribute o f pos')) pos.line X.env=pure false):PS X (.Assign [.Attribute o f pos'] value pos) (b5S X.K ta tv f):=by
 intro pins s σ H D I h;refine plainObj_wpAny_Assign_Attribute (y9 (hv pins s σ H _ I h) λ u s1 ⟨y,H1,I1,ry,q⟩=>y9 (ha pins s1 σ H1 _ I1 q) λ ov s2 ⟨x,H2,I2,rx,a,C,dx,fs,ex,ea,c,n,l,q2⟩=>?_) hs;subst ex;obtain rfl:ov=Value.ref a:=rx;exact a1X I2 ea c n l ry λ s3 I3=>⟨σ,_,I3,q2⟩
end
section
variable {X:Cx} {pins:List (Addr×Obj)} {σ:St} {H:Hp} {s:Shared} {A:Around} {E:Value->Shared->Prop} {Q:Value->Shared->Prop} {c:Value} {b:Bool}
inductive a0Y (K:W.Frag) (H:Hp):V->Value->Prop where
 | non:a0Y K H .non (.type "NoneType")
 | bl (x:Bool):a0Y K H (.bl x) (.type "bool")
 | int (i:Int):a0Y K H (.int i) (.type "int")
 | str (x:Str):a0Y K H (.str x) (.type "str")
 | flt (x:UInt64):a0Y K H (.flt x) (.type "float")
 | lst {a:Addr} {xs:List V} (e:H a=some (.lst xs)):a0Y K H (.ref a) (.type "list")
 | frz {a:Addr} {o:Obj} {xs:List V} (e:H a=some (.frz o (.lst xs))):a0Y K H (.ref a) (.type "list")
 | tup {a:Addr} {xs:List V} (e:H a=some (.tup xs)):a0Y K H (.ref a) (.type "tuple")
 | dK {a:Addr} {kvs:List (Key×V)} (e:H a=some (.dK kvs)):a0Y K H (.ref a) (.type "dict")
 | dT {a:Addr} {kvs:List (List Key×V)} (e:H a=some (.dT kvs)):a0Y K H (.ref a) (.type "dict")
 | ins {a C dx:Addr} {fs:List (Str×V)} (e:H a=some (.ins C dx fs)) (cl:Cls K C) (ha:W.findIn K (.ref C) "__class__"=some (some (.builtin "object.__class__")))
   (hn:W.specialIn K (.builtin "object.__class__") "__get__"=some (some (.builtin "getset_descriptor.__get__"))) (htk:W.takesIn K (.builtin "object.__class__")=some true)
   (hm:W.mroIn K C (.type "object")=some true):a0Y K H (.ref a) (.ref C)
theorem a7G {x:V} {u t:Value} (I:Inv X pins σ H s) (rx:RelV x u) (ty:a0Y X.K H x t) (e:W.kitOne X.K t c=some b) (h:∀ tk,Q (.bool b) { s with toks:=tk }) :
  wpAny (model X.prog X.w) A (call (.builtin "isinstance") [u,c]) Q E s:=by
 cases ty with
 | non=>cases (show u=Value.none from rx); exact W.kia_one W.kitx_none I.kIn eQ e (λ z=>nomatch z) h
 | bl y=>cases (show u=Value.bool y from rx); exact W.kia_one W.kitx_bool I.kIn eQ e (λ z=>nomatch z) h
 | int i=>obtain ⟨t,q⟩:=(show ∃ t,u=Value.int i t from rx); cases q; exact W.kia_one W.kitx_int I.kIn eQ e (λ z=>nomatch z) h
 | str y=>obtain ⟨t,q⟩:=(show ∃ t,u=Value.str y t from rx); cases q; exact W.kia_one W.kitx_str I.kIn eQ e (λ z=>nomatch z) h
 | flt y=>obtain ⟨t,q⟩:=(show ∃ t,u=Value.float y t from rx); cases q; exact W.kia_one W.kitx_float I.kIn eQ e (λ z=>nomatch z) h
 | @lst a xs ea =>
  cases (show u=Value.ref a from rx);obtain ⟨_,_,n,_,h1⟩:=(show ObjOk X.prog X.w H s.heap a (.lst xs) from I.hok a _ ea);exact W.kia_one W.kitx_list I.kIn ⟨_,h1,rfl⟩ e (λ z=>nomatch z) h
 | @frz a ob xs ea =>
  cases (show u=Value.ref a from rx);obtain ⟨_,_,_,n,_,h1⟩:=(show ObjOk X.prog X.w H s.heap a (.frz ob (.lst xs)) from I.hok a _ ea);exact W.kia_one W.kitx_list I.kIn ⟨_,h1,rfl⟩ e (λ z=>nomatch z) h
 | @tup a xs ea =>
  cases (show u=Value.ref a from rx);obtain ⟨_,_,_,p⟩:=(show ObjOk X.prog X.w H s.heap a (.tup xs) from I.hok a _ ea);obtain ⟨o,h1,h2,_⟩:=p;exact W.kia_one W.kitx_tuple I.kIn ⟨o,h1,h2⟩ e (λ z=>nomatch z) h
 | @dK a kvs ea =>
  cases (show u=Value.ref a from rx);obtain ⟨_,_,vs,_,p⟩:=(show ObjOk X.prog X.w H s.heap a (.dK kvs) from I.hok a _ ea);obtain ⟨o,es,ep,h1,h2,_⟩:=p;exact W.kia_one W.kitx_dict I.kIn ⟨o,h1,h2.1⟩ e (λ z=>nomatch z) h
 | @dT a kvs ea =>
  cases (show u=Value.ref a from rx);obtain ⟨_,_,xs,_,o,es,ep,h1,h2,_⟩:=(show ObjOk X.prog X.w H s.heap a (.dT kvs) from I.hok a _ ea);exact W.kia_one W.kitx_dict I.kIn ⟨o,h1,h2.1⟩ e (λ z=>nomatch z) h
 | @ins a C dx fs ea cl ha hn htk hm =>
  cases (show u=Value.ref a from rx);obtain ⟨mA,O,_⟩:=a1E I.hok ea;obtain ⟨od,J,_⟩:=O.look;exact W.kia_one (W.kitx_own (cl.get _) cl.hd ha hn htk hm) I.kIn J e (λ z=>nomatch z) h
end
structure Room (k:Nat) (A:Around):Prop where
 hd:A.handled=none
 dp:A.depth+3*k+5<recursionLimit
 un:A.units+16*k+200<cLine
theorem Room.mono {j k:Nat} {A:Around} (r:Room k A) (h:j<=k):Room j A:=⟨r.hd,by have:=r.dp; omega,by have:=r.un; omega⟩
theorem Room.deeper {k:Nat} {A:Around} (r:Room (k+1) A) (env:Env):Room k (A.deeper env) :=
 ⟨r.hd,by have:=r.dp; show A.depth+1+3*k+5<_; omega,by have:=r.un; show A.units+3+16*k+200<_; omega⟩
theorem Room.in1 {k:Nat} {A:Around} (r:Room (k+1) A):Room k A.in1 :=
 ⟨r.hd,by have:=r.dp; show A.depth+3*k+5<_; omega,by have:=r.un; show A.units+1+16*k+200<_; omega⟩
theorem a5m {A:Around} {C:Addr} {us:List Value} {kw:List (Str×Value)}:(A.under (.builtin "type.__call__" ⟨.ref C::us,kw⟩)).depth=A.depth+1:=by
 first | rfl | simp [Around.under,Code.weight,Code.isCreation,Code.isGuard,Code.isCaller,Code.frames,Code.isFrame,guardIds]
theorem a5j {A:Around} {C:Addr} {us:List Value} {kw:List (Str×Value)}:(A.under (.builtin "type.__call__" ⟨.ref C::us,kw⟩)).units=A.units+1:=by
 first | rfl | simp [Around.under,Code.cUnits,Code.frames,Code.isFrame]
theorem Room.make {k:Nat} {A:Around} (r:Room (k+1) A) (C:Addr) (us:List Value) (kw:List (Str×Value)):Room k (A.under (.builtin "type.__call__" ⟨.ref C::us,kw⟩)) :=
 ⟨r.hd,by have:=r.dp; rw [a5m]; omega,by have:=r.un; rw [a5j]; omega⟩
theorem Room.depth {k:Nat} {A:Around} (r:Room k A):A.depth<recursionLimit:=by have:=r.dp; omega
theorem Room.units {k:Nat} {A:Around} (r:Room k A):A.units+64<cLine:=by have:=r.un; omega
def a1B:TA:=λ _ H Q=>Q [] H
def a4o (ta:TE) (tr:TA):TA:=λ σ H Q=>ta σ H λ x H1=>tr σ H1 λ xs H2=>Q (x::xs) H2
section
variable {X:Cx} {e:Expr} {es:List Expr} {te:TE} {t:TA} {pos:Pos}
theorem d0:PA X [] a1B:=λ _ _ _ _ H Q I h=>Calls.spliced_nil ⟨[],H,I,.nil,h⟩
theorem a0 (ha:PE X e te) (hr:PA X es t) (hs:starEach (e::es) X.env=(false,eval e X.env)::starEach es X.env:=by rfl):PA X (e::es) (a4o te t):=by
 intro pos pins s σ H Q I h;rw [hs]
 show wpAny _ _ (spliced ((false,eval e X.env)::backTo pos (starEach es X.env))) _ _ s
 refine Calls.spliced_cons (y9 (ha pins s σ H _ I h) λ u s1 ⟨x,H1,I1,r1,q1⟩=>?_);exact y9 (hr pos pins s1 σ H1 _ I1 q1) λ us s2 ⟨xs,H2,I2,r2,q2⟩=>⟨x::xs,H2,I2,.cons r1 r2,q2⟩
def b4g (t:TA):TE:=λ σ H Q=>t σ H λ xs H1=>xs.length<=sizeLine/\∀ p,H1 p=none->Q (.ref p) (upd H1 p (.tup xs))
def b5J (t:TA):TE:=λ σ H Q=>t σ H λ xs H1=>xs.length<=sizeLine/\∀ p,H1 p=none->Q (.ref p) (upd H1 p (.lst xs))
theorem G5 {x1} (h:PA X es t):PE X (.Tuple es x1 pos) (b4g t):=by
 intro pins s σ H Q I hq;refine wpAny_Tuple_spliced (y9 (h pos pins s σ H _ I hq) λ us s1 ⟨xs,H1,I1,r,z,q⟩=>⟨by rw [<- r.length]; exact z,?_⟩);have hf:H1 s1.heap.objs.size=none:=I1.hok.fresh (aE _);refine ⟨.ref s1.heap.objs.size,upd H1 s1.heap.objs.size (.tup xs),I1.laid (t':=s1.toks) (λ b u e=>Heap.get?_push_of_some _ e) (aE _) ?_,rfl,q _ hf⟩;exact ⟨z,us,r,⟨_,Heap.get?_push_size _ rfl,rfl,_,rfl⟩⟩
theorem r6 (h:PA X es t):PE X (.List es pos) (b5J t):=by
 intro pins s σ H Q I hq;refine wpAny_List_spliced (y9 (h pos pins s σ H _ I hq) λ us s1 ⟨xs,H1,I1,r,z,q⟩=>⟨by rw [<- r.length]; exact z,?_⟩);have hf:H1 s1.heap.objs.size=none:=I1.hok.fresh (aE _);refine ⟨.ref s1.heap.objs.size,upd H1 s1.heap.objs.size (.lst xs),I1.laid (t':=s1.toks) (λ b u e=>Heap.get?_push_of_some _ e) (aE _) ?_,rfl,q _ hf⟩;exact ⟨z,us,0,r,Heap.get?_push_size _ rfl⟩
end
abbrev Sp:=List V->Hp->VK->XK->Prop
abbrev CXT:=List Env->Hp->Shared->XK->Value->Shared->Prop
structure Env0 (P:Program) (w:World) (K:W.Frag) (mg:Str->Option Value) (base:Heap) (A:Around) (outer:List Env) (s:Shared) (H:Hp):Prop where
 frames:A.frames=some outer
 mod:Mod K mg base
 bs:∀ b o,base.get? b=some o->s.heap.get? b=some o/\H b=none
 bsz:base.objs.size<=s.heap.objs.size
 funs:s.heap.FunFrames base outer
 frf:∀ b∈frs outer,H b=none
 hok:HOk P w H s.heap
 bare:AllBare s.gens
def CE (outer:List Env) (P:Program) (w:World) (H:Hp) (s:Shared) (Q:VK) (u:Value) (s':Shared):Prop :=
 ∃ v H',s'.os=s.os/\AllBare s'.gens/\Un (frs outer) [] H H' s.heap s'.heap/\HOk P w H' s'.heap/\RelV v u/\Q v H'
def CR (CX:CXT) (outer:List Env) (P:Program) (w:World) (H:Hp) (s:Shared) (Q:VK) (E:XK) (r:Result) (s':Shared):Prop :=
 match r with
 | .ok (.ret u)=>CE outer P w H s Q u s'
 | .ok _=>False
 | .error e=>CX outer H s E e s'
structure FnOk (P:Program) (w:World) (K:W.Frag) (mg:Str->Option Value) (base:Heap) (CX:CXT) (k:Nat) (f:Addr) (fd:FuncData) (ps:List Str) (sp:Sp):Prop where
 len:∀ vs H Q E,sp vs H Q E->vs.length=ps.length
 run:∀ (A:Around) (outer:List Env) (s:Shared) (H:Hp) (args:Args) (us:List Value) (vs:List V) (Q:VK) (E:XK),Room k A->Env0 P w K mg base A outer s H->BindsTo s fd args (ps.zip us)->Vals vs us->sp vs H Q E →
  codeAny (model P w) A (.call (.ref f) args) (CR CX outer P w H s Q E) s
theorem FnOk.imp {P:Program} {w:World} {K:W.Frag} {mg:Str->Option Value} {base:Heap} {CX:CXT} {k:Nat} {f:Addr} {fd:FuncData} {ps:List Str} {sp sp':Sp} (F:FnOk P w K mg base CX k f fd ps sp)
  (h:∀ vs H Q E,sp' vs H Q E->sp vs H Q E):FnOk P w K mg base CX k f fd ps sp' :=
 ⟨λ vs H Q E q=>F.len vs H Q E (h _ _ _ _ q),λ A outer s H args us vs Q E hr he hb hv hs=>F.run A outer s H args us vs Q E hr he hb hv (h _ _ _ _ hs)⟩
theorem Env0.make {P:Program} {w:World} {K:W.Frag} {mg:Str->Option Value} {base:Heap} {A:Around} {outer:List Env} {s:Shared} {H:Hp} (e:Env0 P w K mg base A outer s H) (C:Addr) (us:List Value) (kw:List (Str×Value)) :
  Env0 P w K mg base (A.under (.builtin "type.__call__" ⟨.ref C::us,kw⟩)) outer s H:=⟨by first | exact e.frames | (simpa [Around.under,Code.envs,Code.isFrame,pushEnvs] using e.frames),e.mod,e.bs,e.bsz,e.funs,e.frf,e.hok,e.bare⟩
section
variable {X:Cx} {pins:List (Addr×Obj)} {σ:St} {H:Hp} {s s':Shared}
theorem Inv.env0 (I:Inv X pins σ H s):Env0 X.prog X.w X.K X.mg X.base X.A X.stack s H :=
 ⟨I.ok.frames,I.ok.mod,I.bs,aZ I.ok.bsz I.sz,I.stack,I.stkFree,I.hok,I.bare⟩
theorem Inv.after {Q:VK} {u:Value} (I:Inv X pins σ H s) (h:CE X.stack X.prog X.w H s Q u s'):EP X pins σ Q u s':=by
 obtain ⟨v,H',os,bare,un,hok,r,q⟩:=h;obtain ⟨hh,g,d,t,os'⟩:=s';obtain rfl:os'=s.os:=os;exact ⟨v,H',I.call (h':=hh) (g':=g) (d':=d) (t':=t) (ch:=[]) un hok bare (λ b z=>absurd z (by simp)),r,q⟩
end
def b1H (sp:Sp) (dvs:List V) (E:XK) (t:TA):TE:=λ σ H Q=>t σ H λ vs H1=>sp (vs++dvs) H1 Q E
def b2b (C:Addr) (m:Str) (sp:Sp) (dvs:List V) (E:XK) (ta:TE) (t:TA):TE:=λ σ H Q=>ta σ H λ x H1=>∃ a dx fs,x=.ref a/\H1 a=some (.ins C dx fs)/\fs.lookup m=none ∧
 t σ H1 λ vs H2=>sp (x::(vs++dvs)) H2 Q E
def b4k (C:Addr) (sp:Sp) (dvs:List V) (E:XK) (t:TA):TE:=λ σ H Q=>t σ H λ vs H1=>∀ x dx,H1 x=none->H1 dx=none->dx≠x →
 sp (.ref x::(vs++dvs)) (upd (upd H1 dx (.own x)) x (.ins C dx [])) (λ v H2=>v=.non/\Q (.ref x) H2) E
def Binds (K:W.Frag) (fd:FuncData) (ps:List Str) (ds:List Value):Prop :=
 ∀ (s:Shared) (us:List Value),K.In s.heap->(us++ds).length=ps.length->BindsTo s fd ⟨us,[]⟩ (ps.zip (us++ds))
theorem Binds.all {K:W.Frag} {fd:FuncData} {ps:List Str} (h:∀ us:List Value,us.length=ps.length->bindArgs fd ⟨us,[]⟩=pure (ps.zip us)):Binds K fd ps []:=λ s us _ hl=>by
 rw [dX] at hl ⊢;exact .of_eq (h us hl)
def V3 (CX:CXT) (X:Cx) (E:XK):Prop:=∀ (pins:List (Addr×Obj)) (σ:St) (H:Hp) (s:Shared) (e:Value) (s':Shared),Inv X pins σ H s->CX X.stack H s E e s'->X.xe e s'
section
variable {X:Cx} {CX:CXT} {k:Nat} {f C:Addr} {fd:FuncData} {ps:List Str} {sp:Sp} {dvs:List V} {ds:List Value} {E:XK} {x m:Str} {p pos apos:Pos} {e o:Expr} {es:List Expr} {ta:TE} {t:TA}
theorem a5A {pins:List (Addr×Obj)} {σ:St} {H:Hp} {s:Shared} {Q:VK} {us:List Value} {vs:List V} (F:FnOk X.prog X.w X.K X.mg X.base CX k f fd ps sp) (hr:Room k X.A) (hb:Binds X.K fd ps ds) (hd:Vals dvs ds) (hx:V3 CX X E)
  (I:Inv X pins σ H s) (r:Vals vs us) (h:sp (vs++dvs) H Q E):wpAny (model X.prog X.w) X.A (call (.ref f) us) (EP X pins σ Q) X.xe s:=by
 have r2:Vals (vs++dvs) (us++ds):=r.append hd;have hl:(us++ds).length=ps.length:=by rw [<- r2.length]; exact F.len _ _ _ _ h
 refine wpAny_call (codeAny_mono (F.run X.A X.stack s H ⟨us,[]⟩ (us++ds) (vs++dvs) Q E hr I.env0 (hb s us I.kIn hl) r2 h) λ r s' hq=>?_)
 cases r with
 | error e=>exact hx pins σ H s e s' I hq
 | ok fl =>
  cases fl with
  | ret u=>exact I.after hq
  | next=>exact bO hq
  | brk=>exact bO hq
  | cont=>exact bO hq
theorem m9 (F:FnOk X.prog X.w X.K X.mg X.base CX k f fd ps sp) (hr:Room k X.A) (hg:Gl X x) (hm:X.mg x=some (.ref f)) (hk:W.keepIn X.K (.ref f)=true) (hb:Binds X.K fd ps ds) (hd:Vals dvs ds) (hx:V3 CX X E)
  (ha:PA X (e::es) t) (hdb:(x==("__debug__":Str))=false:=by decide) (he:starEach (e::es) X.env=(false,eval e X.env)::starEach es X.env:=by rfl) (hpl:(backTo pos (starEach es X.env)).any (·.1)=false:=by rfl) :
  PE X (.Call (.Name x p) (e::es) [] pos) (b1H sp dvs E t):=by
 intro pins s σ H Q I h;refine wpAny_Call_Name_kw (Z6 I hg hm ?_ hdb);refine W.callWith_K (h₀:=X.base) I.ok.mod.kin hk (y9 (ha pos pins s σ H _ I h) λ us s1 ⟨vs,H1,I1,r,q⟩=>⟨I1.kIn,?_⟩) he hpl;exact a5A F hr hb hd hx I1 r q
theorem Z2 {pl:Sem Bool} (he:PE X o ta) (c:Cls X.K C) (hm:a5X X.K C m f) (F:FnOk X.prog X.w X.K X.mg X.base CX k f fd ps sp) (hr:Room k X.A) (hb:Binds X.K fd ps ds) (hd:Vals dvs ds) (hx:V3 CX X E) (ha:PA X (e::es) t)
  (hst:starEach (e::es) X.env=(false,eval e X.env)::starEach es X.env:=by rfl) (hpl:(backTo pos (starEach es X.env)).any (·.1)=false:=by rfl)
  (ht:eval (.Call (.Attribute o m apos) (e::es) [] pos) X.env=(do
   let ov <- eval o X.env
   standAt apos.atName
   let (f,first) <- holding [ov] (getMethod ov m pl)
   callWith pos f first (backTo pos (starEach (e::es) X.env)) (backToKw pos (keywordEach [] X.env))):=by rfl) :
  PE X (.Call (.Attribute o m apos) (e::es) [] pos) (b2b C m sp dvs E ta t):=by
 intro pins s σ H Q I h;refine W.methodCall_KW (pl:=pl) (y9 (he pins s σ H _ I h) λ u s1 ⟨x,H1,I1,rx,a,dx,fs,ex,ea,l,q⟩=>?_) ht;subst ex;obtain rfl:u=Value.ref a:=rx;refine T7 I1 ea c hm l ?_;refine W.callWith_K (first:=[.ref a]) (h₀:=X.base) I.ok.mod.kin hm.kp (y9 (ha pos pins s1 σ H1 _ I1 q) λ us s2 ⟨vs,H2,I2,r,q2⟩=>⟨I2.kIn,?_⟩) hst hpl;exact a5A (us:=.ref a::us) (vs:=.ref a::vs) F hr hb hd hx I2 (.cons rfl r) q2
theorem G7 {pl:Sem Bool} (he:PE X o ta) (c:Cls X.K C) (hm:a5X X.K C m f) (F:FnOk X.prog X.w X.K X.mg X.base CX k f fd ps sp) (hr:Room k X.A) (hb:Binds X.K fd ps ds) (hd:Vals dvs ds) (hx:V3 CX X E)
  (ht:eval (.Call (.Attribute o m apos) [] [] pos) X.env=(do
   let ov <- eval o X.env
   standAt apos.atName
   let (f,first) <- holding [ov] (getMethod ov m pl)
   callWith pos f first (backTo pos (starEach [] X.env)) (backToKw pos (keywordEach [] X.env))):=by rfl) :
  PE X (.Call (.Attribute o m apos) [] [] pos) (b2b C m sp dvs E ta a1B):=by
 intro pins s σ H Q I h;refine W.methodCall_KW (pl:=pl) (y9 (he pins s σ H _ I h) λ u s1 ⟨x,H1,I1,rx,a,dx,fs,ex,ea,l,q⟩=>?_) ht;subst ex;obtain rfl:u=Value.ref a:=rx;refine T7 I1 ea c hm l ?_;exact W.callWith_K0 (first:=[.ref a]) I1.kIn hm.kp (a5A (us:=[.ref a]) (vs:=[.ref a]) F hr hb hd hx I1 (.cons rfl .nil) q)
structure Mk (K:W.Frag) (C f:Addr):Prop where
 makes:W.makesIn K C=true
 init:W.findIn K (.ref C) "__init__"=some (some (.ref f))
 fn:W.isFn K (.ref f)=true
 kp:W.keepIn K (.ref C)=true
theorem a9U {pins:List (Addr×Obj)} {σ:St} {H:Hp} {s:Shared} {Q:VK} {us:List Value} {vs:List V} (M:Mk X.K C f) (F:FnOk X.prog X.w X.K X.mg X.base CX k f fd ps sp) (hr:Room (k+1) X.A) (hb:Binds X.K fd ps ds) (hd:Vals dvs ds)
  (hx:V3 CX X E) (I:Inv X pins σ H s) (r:Vals vs us)
  (h:∀ x dx,H x=none->H dx=none->dx≠x->sp (.ref x::(vs++dvs)) (upd (upd H dx (.own x)) x (.ins C dx [])) (λ v H2=>v=.non/\Q (.ref x) H2) E) :
  wpAny (model X.prog X.w) X.A (call (.ref C) us) (EP X pins σ Q) X.xe s:=by
 have hq:=h (s.heap.objs.size+1) s.heap.objs.size (I.hok.fresh (gX _)) (I.hok.fresh (aE _)) (bI (eR _));have I2:=Inv.made (C:=C) I;have r2:Vals (V.ref (s.heap.objs.size+1)::(vs++dvs)) (Value.ref (s.heap.objs.size+1)::(us++ds)):=.cons rfl (r.append hd);have hl:(Value.ref (s.heap.objs.size+1)::us++ds).length=ps.length:=by
  have e:=r2.length;rw [F.len _ _ _ _ hq] at e;exact e.symm
 refine wpAny_call (a8n (f:=f) I.kIn M.makes M.init (beq_iff_eq.mp M.fn) (codeAny_mono (F.run _ X.stack _ _ ⟨Value.ref (s.heap.objs.size+1)::us,[]⟩ (Value.ref (s.heap.objs.size+1)::(us++ds)) _ _ E (hr.make C us [])
  (I2.env0.make C us []) (hb _ (Value.ref (s.heap.objs.size+1)::us) I2.kIn hl) r2 hq) λ r s' hq'=>?_))
 cases r with
 | error e=>exact hx pins σ _ _ e s' I2 hq'
 | ok fl =>
  cases fl with
  | ret u =>
   obtain ⟨v,H',I3,rv,ev,q3⟩:=I2.after hq';subst ev;exact ⟨rv,⟨V.ref (s.heap.objs.size+1),H',I3,rfl,q3⟩⟩
  | next=>exact bO hq'
  | brk=>exact bO hq'
  | cont=>exact bO hq'
theorem a7c (M:Mk X.K C f) (F:FnOk X.prog X.w X.K X.mg X.base CX k f fd ps sp) (hr:Room (k+1) X.A) (hg:Gl X x) (hm:X.mg x=some (.ref C)) (hb:Binds X.K fd ps ds) (hd:Vals dvs ds) (hx:V3 CX X E)
  (ha:PA X (e::es) t) (hdb:(x==("__debug__":Str))=false:=by decide) (he:starEach (e::es) X.env=(false,eval e X.env)::starEach es X.env:=by rfl) (hpl:(backTo pos (starEach es X.env)).any (·.1)=false:=by rfl) :
  PE X (.Call (.Name x p) (e::es) [] pos) (b4k C sp dvs E t):=by
 intro pins s σ H Q I h;refine wpAny_Call_Name_kw (Z6 I hg hm ?_ hdb);refine W.callWith_K (h₀:=X.base) I.ok.mod.kin M.kp (y9 (ha pos pins s σ H _ I h) λ us s1 ⟨vs,H1,I1,r,q⟩=>⟨I1.kIn,?_⟩) he hpl;exact a9U M F hr hb hd hx I1 r q
end
section
variable {X:Cx} {CX:CXT} {k:Nat} {f C:Addr} {fd:FuncData} {ps ks:List Str} {sp:Sp} {E:XK} {x m:Str} {p pos apos kpos:Pos} {e o:Expr} {es:List Expr} {kws:List Keyword} {te ta:TE} {t tk:TA} {nm:Option Str}
structure b5M (K:W.Frag) (fd:FuncData) (ps ks:List Str) (g:List Value->List Value->List Value) (gV:List V->List V->List V):Prop where
 to:∀ (s:Shared) (us ws:List Value),K.In s.heap->(g us ws).length=ps.length->BindsTo s fd ⟨us,ks.zip ws⟩ (ps.zip (g us ws))
 rel:∀ {vs:List V} {us:List Value} {zs:List V} {ws:List Value},Vals vs us->Vals zs ws->Vals (gV vs zs) (g us ws)
variable {g:List Value->List Value->List Value} {gV:List V->List V->List V}
end
structure j8 (N P:List Str) (sc:Scope):Prop where
 kind:sc.kind=.function
 co:sc.isCoroutine=false
 gen:sc.isGenerator=false
 nd:N.Nodup
 pre:N.take P.length=P
 par:∀ x∈P,sc.names.lookup x=some .local\/sc.names.lookup x=some .cell
 nofree:∀ y∈sc.names,y.2≠.free
theorem a2P {kindOf:Str->Option NameKind} {x:Str}:∀ {binds:List (Str×Value)} {m:Str->Option Value},(∀ v,(x,v) ∉ binds)->bindL kindOf binds m x=m x
 | [],_,_=>rfl
 | (n,v)::r,m,h=>by
  unfold bindL;rw [a2P λ w hw=>h w (bM _ hw)]
  split
  ·have:x≠n:=by rintro rfl; exact h v cF
   simp [this]
  ·rfl
theorem a3n {kindOf:Str->Option NameKind} {x:Str}:∀ {binds:List (Str×Value)} {m:Str->Option Value},(∀ v,(x,v) ∉ binds)->bindC kindOf binds m x=m x
 | [],_,_=>rfl
 | (n,v)::r,m,h=>by
  unfold bindC;rw [a3n λ w hw=>h w (bM _ hw)]
  split
  ·rfl
  ·have:x≠n:=by rintro rfl; exact h v cF
   simp [this]
theorem a3i {kindOf:Str->Option NameKind} {x:Str} {v:Value}:∀ {P:List Str} {vs:List Value} {i:Nat} {m:Str->Option Value},P.Nodup->P[i]?=some x->vs[i]?=some v->kindOf x=some .local →
  bindL kindOf (P.zip vs) m x=some v
 | [],_,_,_,_,h,_,_=>by simp at h
 | _::_,[],_,_,_,_,h,_=>by simp at h
 | p::P,w::vs,0,m,nd,h1,h2,hk=>by
  simp at h1 h2; subst h1; subst h2
  show bindL kindOf ((p,w)::P.zip vs) m p=_
  unfold bindL;rw [a2P λ v hv=>(gC.mp nd).1 (gD hv).1,if_pos hk];simp
 | p::P,w::vs,i+1,m,nd,h1,h2,hk=>by
  show bindL kindOf ((p,w)::P.zip vs) m x=_
  unfold bindL;exact a3i (i:=i) (gC.mp nd).2 (by simpa using h1) (by simpa using h2) hk
theorem a3e {kindOf:Str->Option NameKind} {x:Str} {v:Value}:∀ {P:List Str} {vs:List Value} {i:Nat} {m:Str->Option Value},P.Nodup->P[i]?=some x->vs[i]?=some v->kindOf x≠some .local →
  bindC kindOf (P.zip vs) m x=some v
 | [],_,_,_,_,h,_,_=>by simp at h
 | _::_,[],_,_,_,_,h,_=>by simp at h
 | p::P,w::vs,0,m,nd,h1,h2,hk=>by
  simp at h1 h2; subst h1; subst h2
  show bindC kindOf ((p,w)::P.zip vs) m p=_
  unfold bindC;rw [a3n λ v hv=>(gC.mp nd).1 (gD hv).1,if_neg hk];simp
 | p::P,w::vs,i+1,m,nd,h1,h2,hk=>by
  show bindC kindOf ((p,w)::P.zip vs) m x=_
  unfold bindC;exact a3e (i:=i) (gC.mp nd).2 (by simpa using h1) (by simpa using h2) hk
def O5 (N:List Str) (vs:List V):St:=vs.map some++aJ (N.length - vs.length) none
def J1 (CX:CXT) (P:Program) (w:World) (K:W.Frag) (mg:Str->Option Value) (base:Heap) (N:List Str) (qual:Str) (scope:Scope) (f:Addr) (cd:Value) (A:Around) (outer:List Env) (s:Shared) (H:Hp) (E:XK):Cx where
 prog:=P
 w:=w
 K:=K
 mg:=mg
 base:=base
 A:=A.deeper (envOfC qual scope s.heap.objs.size f cd)
 N:=N
 s₀:=s
 H₀:=H
 env:=envOfC qual scope s.heap.objs.size f cd
 outer:=outer
 stack:=envOfC qual scope s.heap.objs.size f cd::outer
 ex:=[]
 calm:=true
 fn:=λ _=>true
 pn:=[]
 xe:=λ e s'=>wpAny (model P w) (A.deeper (envOfC qual scope s.heap.objs.size f cd)) (leaving (envOfC qual scope s.heap.objs.size f cd) e) (λ _ s''=>CX outer H s E e s'') (λ e' s''=>CX outer H s E e' s'') s'
theorem a4K {sc:Scope} {n:Nat} {x:Str} (h:sc.names.lookup x=some .cell):∃ c,(cellsFrom n sc.names []).lookup x=some c:=by
 have q:=W.cellsFrom_some sc.names n [] (.inl h);exact Option.isSome_iff_exists.mp q
theorem a3b {CX:CXT} {P:Program} {w:World} {K:W.Frag} {mg:Str->Option Value} {base:Heap} {N ps:List Str} {qual:Str} {scope:Scope} {f:Addr} {cd:Value} {A:Around} {outer:List Env} {s s1:Shared} {H:Hp} {E:XK} {us:List Value} {vs:List V}
  (S:j8 N ps scope) (hd:A.handled=none) (e0:Env0 P w K mg base A outer s H) (hl:vs.length=ps.length) (r:Vals vs us)
  (x:InCallC s s.heap.objs.size (bindL (envOfC qual scope s.heap.objs.size f cd).kindOf (ps.zip us) λ _=>none) (cellsFrom (s.heap.objs.size+1) scope.names []) (bindC (envOfC qual scope s.heap.objs.size f cd).kindOf (ps.zip us) λ _=>none) s1) :
  Inv (J1 CX P w K mg base N qual scope f cd A outer s H E) [] (O5 N vs) H s1:=by
 have hpl:ps.length<=N.length:=by have:=congrArg gY S.pre; rw [bP] at this; omega
 obtain ⟨h1,tk,rfl,hk⟩:=x.done;have noA:∀ b:Addr,b ∉ (J1 CX P w K mg base N qual scope f cd A outer s H E).ex:=λ b z=>absurd (show b∈([]:List Addr) from z) (by simp);refine ⟨⟨e0.mod,S.kind,rfl,rfl,aE _,λ y z c h1 h2=>?_,λ y hy=>?_,λ y c _ h=>?_,λ _=>hd,Around.frames_deeper e0.frames,.inr ⟨rfl,rfl⟩,λ b z=>absurd z (noA b),e0.bs,e0.bsz,λ b _ _=>noA b,λ b z=>absurd z (noA b),e0.funs,e0.frf⟩,
  rfl,e0.bare,Un.kept hk,⟨_,x.toInCall.ns,λ i y v h1 h2 h3=>?_⟩,λ y c h=>⟨_,x.cell y c h⟩,e0.hok.fresh (aE _),λ y c h=>?_,λ p hp=>absurd (show p∈([]:List (Addr×Obj)) from hp) (by simp),e0.hok.kept hk,?_⟩
 ·exact name_of_addr x.apart (fR h1) (fR h2)
 ·have hy:scope.names.lookup y=some .cell\/scope.names.lookup y=some .free:=hy
  rcases hy with hy | hy
  ·exact a4K hy
  ·exact absurd rfl (S.nofree _ (fR hy))
 ·exact dA (x.above y c (fR h))
 ·have hi:i<vs.length:=by
   unfold O5 at h2
   by_cases hi:i<vs.length
   ·exact hi
   ·rw [cA (by simpa using hi)] at h2
    rw [dG] at h2
    split at h2 <;> cases h2
  have ha:vs[i]?=some v:=by
   unfold O5 at h2;rw [bQ (by simpa using hi),aD] at h2
   cases e:vs[i]? with
   | none=>rw [e] at h2; cases h2
   | some a=>rw [e] at h2; cases h2; rfl
  obtain ⟨u,hu,rv⟩:=r.get ha;have hp:ps[i]?=some y:=by
   rw [<- S.pre,iV (by omega)]; exact h1
  have ndP:ps.Nodup:=by rw [<- S.pre]; exact S.nd.sublist (List.take_sublist _ _)
  refine ⟨u,rv,?_⟩;rcases S.par y (bV hp) with k | k
  ·exact .inl ⟨k,a3i ndP hp hu k⟩
  ·obtain ⟨c,e⟩:=a4K (n:=s.heap.objs.size+1) k
   refine .inr ⟨.inl k,c,e,?_⟩;have q:=x.cell y c e;rw [a3e ndP hp hu (by show scope.names.lookup y≠_; rw [k]; decide)] at q;exact q
 ·exact e0.hok.fresh (dA (x.above y c (fR h)))
 ·unfold O5
  show _=N.length
  rw [aM,aA,bK];omega
theorem a8F {CX:CXT} {P:Program} {w:World} {K:W.Frag} {mg:Str->Option Value} {base:Heap} {k:Nat} {f:Addr} {name qual:Str} {params:Arguments} {body:List Stmt} {scope:Scope} {dV kV doc pm cdv ct oc:Value} {an od:Option Addr}
  {osl:Array (Option Value)} {N ps:List Str} {sp:Sp} (lk:K.lookup f=some ⟨oc,od,.func (W.fnOf name qual params body scope dV kV doc pm an cdv ct),osl⟩) (hcd:W.codeIn K cdv qual=true) (S:j8 N ps scope)
  (len:∀ vs H Q E,sp vs H Q E->vs.length=ps.length)
  (hbody:∀ (A:Around) (outer:List Env) (s:Shared) (H:Hp) (vs:List V) (Q:VK) (E:XK),Room k (A.deeper (envOfC qual scope s.heap.objs.size f cdv))->sp vs H Q E →
   ∃ t,PSs (J1 CX P w K mg base N qual scope f cdv A outer s H E) body t/\t { nx:=λ _ H'=>Q .non H',rt:=Q } (O5 N vs) H) :
  FnOk P w K mg base CX (k+1) f (W.fnOf name qual params body scope dV kV doc pm an cdv ct) ps sp:=by
 refine ⟨len,λ A outer s H args us vs Q E hr e0 hb r hsp=>?_⟩;have hl:=len _ _ _ _ hsp;have KX:K.In s.heap:=e0.mod.kin.keeps λ b o e=>(e0.bs b o e).1;have lim:s.heap.NoLimit:=e0.mod.nolimit.keeps λ b o e=>(e0.bs b o e).1;have hkind:∀ y∈ps.zip us,scope.names.lookup y.1=some .local\/(scope.names.lookup y.1=some .cell/\((cellsFrom (s.heap.objs.size+1) scope.names []).lookup y.1).isSome=true):=λ ⟨n,v⟩ hy=>by
  rcases S.par n (gD hy).1 with q | q
  ·exact .inl q
  ·exact .inr ⟨q,W.cellsFrom_some _ _ _ (.inl q)⟩
 refine codeAny_call_function hr.depth (KX _ _ lk) rfl S.co S.gen rfl (W.codeRec_of KX hcd) (hb _ _ _ _ ?_);refine wpAny_newFunctionEnv_cells S.kind hkind λ env he s1 x=>?_;subst he;refine ⟨lim.keeps x.toInCall.keep,codeAny_func ?_⟩;obtain ⟨t,ht,hq⟩:=hbody A outer s H vs Q E (hr.deeper _) hsp;have I:Inv (J1 CX P w K mg base N qual scope f cdv A outer s H E) [] (O5 N vs) H s1:=a3b S hr.hd e0 hl r x;refine wpAny_mono (ht [] s1 (O5 N vs) H _ I hq) (λ fl s' hs=>?_) λ e s' hs=>hs;have fin:∀ {σ':St} {H':Hp} {v:V} {u:Value},Inv (J1 CX P w K mg base N qual scope f cdv A outer s H E) [] σ' H' s'->RelV v u->Q v H'->CE outer P w H s Q u s' :=
  λ {σ' H' v u} J rv q=>⟨v,H',J.os,J.bare,J.base,J.hok,rv,q⟩
 cases fl with
 | ret u =>
  obtain ⟨v,σ',H',J,rv,q⟩:=hs;exact fin J rv q
 | next =>
  obtain ⟨σ',H',J,q⟩:=hs;exact fin (v:=V.non) (u:=Value.none) J rfl q
 | brk =>
  obtain ⟨_,_,_,q⟩:=hs;exact bO q
 | cont =>
  obtain ⟨_,_,_,q⟩:=hs;exact bO q
section
variable {X:Cx} {x:Str} {p pos:Pos} {e:Expr} {es:List Expr} {t:TA} {id T:String} {r:List V->Hp->VK->Prop}
def tCB (r:List V->Hp->VK->Prop) (t:TA):TE:=λ σ H Q=>t σ H λ vs H1=>r vs H1 Q
theorem j3 (hc:G4 X (.builtin id) r) (hg:Gl X x) (hm:X.mg x=none) (hv:bootBuiltins x=some (.builtin id)) (ha:PA X (e::es) t) (hn:x≠"__name__":=by decide) (hdb:(x==("__debug__":Str))=false:=by decide)
  (he:starEach (e::es) X.env=(false,eval e X.env)::starEach es X.env:=by rfl) (hpl:(backTo pos (starEach es X.env)).any (·.1)=false:=by rfl):PE X (.Call (.Name x p) (e::es) [] pos) (tCB r t):=by
 intro pins s σ H Q I h;refine wpAny_Call_Name_kw (U0 I hg hm hv ?_ hn hdb);exact lV (y9 (ha pos pins s σ H _ I h) λ us s1 ⟨vs,H1,I1,r1,q1⟩=>hc pins s1 σ H1 vs us Q I1 r1 q1) he hpl
theorem v9 (hc:G4 X (.type T) r) (hg:Gl X x) (hm:X.mg x=none) (hv:bootBuiltins x=some (.type T)) (ha:PA X (e::es) t) (hn:x≠"__name__":=by decide) (hdb:(x==("__debug__":Str))=false:=by decide)
  (he:starEach (e::es) X.env=(false,eval e X.env)::starEach es X.env:=by rfl) (hpl:(backTo pos (starEach es X.env)).any (·.1)=false:=by rfl):PE X (.Call (.Name x p) (e::es) [] pos) (tCB r t):=by
 intro pins s σ H Q I h;refine wpAny_Call_Name_kw (U0 I hg hm hv ?_ hn hdb);exact fC (y9 (ha pos pins s σ H _ I h) λ us s1 ⟨vs,H1,I1,r1,q1⟩=>hc pins s1 σ H1 vs us Q I1 r1 q1) he hpl
end
end L2
namespace HT
open PySem PyProof.Rows
section
open PySem.SeqAt
open PySem.AutoSeq1 (wpAny_loadPart')
open PySem.MeetsSeq PySem.MeetsSeq2 PySem.MeetsSeq3
end
section
variable {prog:Program} {w:World} {A:Around} {E:Value->Shared->Prop} {s:Shared}
theorem cat_tup {t b:Addr} {vs ws:List Value} {Q:Value->Shared->Prop} (ht:IsTup s.heap t vs.toArray) (hb:IsTup s.heap b ws.toArray) (hv:vs≠[])
  (h1:ws=[]->Q (.ref t) s) (h2:ws≠[]->Q (.ref s.heap.objs.size) { s with heap:=s.heap.push { cls:=.type "tuple",data:=.seq (vs++ws).toArray } })
  (hsz:vs.length+ws.length<=sizeLine):wpAny (model prog w) A (binaryOp .Add (.ref t) (.ref b)) Q E s:=by
 obtain ⟨⟨cls,dd,data,sl⟩,ho,hc,n,hd⟩:=id ht;obtain ⟨⟨cls2,dd2,data2,sl2⟩,ho2,hc2,n2,hd2⟩:=id hb;simp only at hc hd hc2 hd2;subst hc hd hc2 hd2;have e:vs.toArray++ws.toArray=(vs++ws).toArray:=by simp
 by_cases hw:ws=[]
 ·exact concat_meets ⟨_,ho,rfl⟩ ⟨_,ho2,rfl⟩ noFill_tuple_add seq_tuple_add iW iX (iY _ _)
   (tuple_addW1 t b vs.toArray ws.toArray n n2 dd dd2 sl sl2 (by simpa using hv) (by simp [hw])) ⟨ho,ho2,h1 hw⟩
 ·refine concat_meets ⟨_,ho,rfl⟩ ⟨_,ho2,rfl⟩ noFill_tuple_add seq_tuple_add iW iX (iY _ _)
   (tuple_addW2 t b vs.toArray ws.toArray n n2 dd dd2 sl sl2 (by simpa using hv) (by simpa using hw) (by rw [aU,aU]; exact hsz)) ⟨ho,ho2,?_⟩
  rw [e];exact h2 hw
def sIx (n d:Nat):Option Int->Nat
 | none=>d
 | some v=>if v<0 then (v+(n:Int)).toNat else min v.toNat n
theorem sIx_none (n d:Nat):sIx n d none=d:=rfl
theorem sIx_nat (n d k:Nat):sIx n d (some (k:Int))=min k n:=by
 show (if (k:Int)<0 then ((k:Int)+(n:Int)).toNat else min (k:Int).toNat n)=min k n
 rw [if_neg (by omega),bD]
end
end HT
namespace L2
open PySem PySem.Spec PyProof.Rows
abbrev TO:=St->Hp->(Option Int->Hp->Prop)->Prop
def PO (X:Cx) (e:Option Expr) (t:TO):Prop :=
 ∀ (pins:List (Addr×Obj)) (s:Shared) (σ:St) (H:Hp) (Q:Option Int->Hp->Prop),Inv X pins σ H s->t σ H Q →
  wpAny (model X.prog X.w) X.A (evalPart e X.env) (λ u s'=>∃ o H',Inv X pins σ H' s'/\IsPart u o/\Q o H') X.xe s
def b0B:TO:=λ _ H Q=>Q none H
def b3R (t:TE):TO:=λ σ H Q=>t σ H λ x H1=>∃ i,x=.int i/\Q (some i) H1
section
variable {X:Cx} {e:Expr} {te:TE} {lo hi:Option Expr} {tl th:TO} {pos p2:Pos}
theorem D9:PO X none b0B:=by
 intro pins s σ H Q I h;rw [evalPart_none];exact wpAny_pure ⟨none,H,I,.none,h⟩
theorem A4 (h:PE X e te):PO X (some e) (b3R te):=by
 intro pins s σ H Q I hw;rw [evalPart_some];refine y9 (h pins s σ H _ I hw) λ u s1 ⟨x,H1,I1,r1,q1⟩=>?_;obtain ⟨i,rfl,q⟩:=q1;obtain ⟨t,rfl⟩:=r1;exact ⟨some i,H1,I1,.int i t,q⟩
def SlR (X:Cx) (r:V->Option Int->Option Int->Hp->VK->Prop):Prop :=
 ∀ (pins:List (Addr×Obj)) (s:Shared) (σ:St) (H:Hp) (x:V) (v vl vu:Value) (lo hi:Option Int) (sl:Addr) (Q:VK),Inv X pins σ H s->RelV x v->s.heap.IsSliceOf sl vl vu .none->IsPart vl lo->IsPart vu hi->r x lo hi H Q →
  ∃ T id,typeLookup (.type T) "__getitem__"=pure (some (.builtin id))/\s.TypeIs v T/\wpAny (model X.prog X.w) X.A (getItem v (.ref sl)) (EP X pins σ Q) X.xe s
def tSl (r:V->Option Int->Option Int->Hp->VK->Prop) (te:TE) (tl th:TO):TE:=λ σ H Q=>te σ H λ x H1=>tl σ H1 λ l H2=>th σ H2 λ u H3=>r x l u H3 Q
theorem A0 {r:V->Option Int->Option Int->Hp->VK->Prop} (hr:SlR X r) (he:PE X e te) (hl:PO X lo tl) (hu:PO X hi th):PE X (.Subscript e (.Slice lo hi none p2) pos) (tSl r te tl th):=by
 intro pins s σ H Q I h;refine Subscript_ (y9 (he pins s σ H _ I h) λ v s1 ⟨x,H1,I1,r1,q1⟩=>?_);refine wpAny_Slice (y9 (hl pins s1 σ H1 _ I1 q1) λ vl s2 ⟨l,H2,I2,pl,q2⟩=>y9 (hu pins s2 σ H2 _ I2 q2) λ vu s3 ⟨u,H3,I3,pu,q3⟩=>?_);rw [evalPart_none];refine wpAny_pure ?_;have I4:Inv X pins σ H3 { s3 with heap:=s3.heap.push { cls:=.type "slice",data:=.fields #[vl,vu,.none] } }:=I3.kept (t':=s3.toks) λ b ob q=>Heap.get?_push_of_some _ q;obtain ⟨T,id,hT,ht,hg⟩:=hr pins { s3 with heap:=s3.heap.push { cls:=.type "slice",data:=.fields #[vl,vu,.none] } } σ H3 x v vl vu l u s3.heap.objs.size Q I4 r1 (Heap.IsSliceOf.new ..) pl pu q3
 show wpAny (model X.prog X.w) X.A (subscriptTail e (.Slice lo hi none p2) v (.ref s3.heap.objs.size)) (EP X pins σ Q) X.xe { s3 with heap:=s3.heap.push { cls:=.type "slice",data:=.fields #[vl,vu,.none] } }
 exact tail_any (ops:=[.ref s3.heap.objs.size,v]) ht hT hg (by with_unfolding_all rfl)
def A7 (xs:List V) (lo hi:Option Int):List V:=(xs.drop (HT.sIx xs.length 0 lo)).take (HT.sIx xs.length xs.length hi - HT.sIx xs.length 0 lo)
theorem C7 (xs:List V) (lo hi:Option Int):(A7 xs lo hi).length<=xs.length:=by
 unfold A7;rw [bP,cW];omega
def b4G (K:W.Frag):R2:=λ x y H Q=>∃ a b xs ys,x=.ref a/\y=.ref b/\SqT K H a xs/\SqT K H b ys/\xs≠[]/\xs.length+ys.length<=sizeLine ∧
 (ys=[]->Q (.ref a) H)/\(ys≠[]->∀ p,H p=none->Q (.ref p) (upd H p (.tup (xs++ys))))
theorem Vals.nil_iff {xs:List V} {us:List Value} (r:Vals xs us):us=[] ↔ xs=[]:=by
 cases r with
 | nil=>simp
 | cons _ _=>simp
theorem b0I:OpR X (binaryOp .Add) (b4G X.K):=by
 intro pins s σ H x y v u Q I rx ry h;obtain ⟨a,b,xs,ys,rfl,rfl,ha,hb,hx,hz,q1,q2⟩:=h
 cases rx
 cases ry;obtain ⟨its,r1,p1,_⟩:=I.tuple ha;obtain ⟨its2,r2,p2,_⟩:=I.tuple hb;refine HT.cat_tup p1 p2 (λ z=>hx (r1.nil_iff.mp z)) (λ z=>⟨.ref a,H,I,rfl,q1 (r2.nil_iff.mp z)⟩) (λ z=>?_) (by rw [<- r1.length,<- r2.length]; exact hz);refine ⟨.ref s.heap.objs.size,_,I.laid (t':=s.toks) (o:=.tup (xs++ys)) (λ b ob q=>Heap.get?_push_of_some _ q) (aE _) ?_,rfl,q2 (λ w=>z (r2.nil_iff.mpr w)) _ (I.hok.fresh (aE _))⟩;exact ⟨by rw [aM]; exact hz,_,r1.append r2,IsTup.new _ _⟩
end
def ixN (n:Nat) (i:Int):Option Nat:=if 0<=i then (if i<n then some i.toNat else none) else if -(n:Int)<=i then some (i+n).toNat else none
def N5 {α:Type} (xs:List α) (i:Int):Option α:=(ixN xs.length i).bind λ j=>xs[j]?
theorem a6p {n:Nat} {i:Int} {j:Nat} (h:ixN n i=some j):seqIndex? i n=some j/\j<n/\-(n:Int)<=i/\i<n:=by
 unfold ixN at h
 by_cases h0:0<=i
 ·rw [if_pos h0] at h
  by_cases h1:i<n
  ·rw [if_pos h1] at h
   have e:i.toNat=j:=aN h;exact ⟨by rw [seqIndex_of h0 h1,e],by omega,by omega,h1⟩
  ·rw [if_neg h1] at h; cases h
 ·rw [if_neg h0] at h
  by_cases h1:-(n:Int)<=i
  ·rw [if_pos h1] at h
   have e:(i+n).toNat=j:=aN h;exact ⟨by rw [seqIndex_neg (by omega) h1,e],by omega,h1,by omega⟩
  ·rw [if_neg h1] at h; cases h
theorem a6k {α:Type} {xs:List α} {i:Int} {v:α} (h:N5 xs i=some v):∃ j,seqIndex? i xs.length=some j/\xs[j]?=some v/\j<xs.length/\-(xs.length:Int)<=i/\i<xs.length:=by
 unfold N5 at h
 cases e:ixN xs.length i with
 | none=>rw [e] at h; cases h
 | some j =>
  rw [e] at h;obtain ⟨h1,h2,h3,h4⟩:=a6p e;exact ⟨j,h1,h,h2,h3,h4⟩
theorem v7 {α:Type} {xs:List α} {j:Nat} {v:α} (h:xs[j]?=some v):N5 xs (j:Int)=some v:=by
 have hj:j<xs.length:=(bN.mp h).1;have e:ixN xs.length (j:Int)=some j:=by
  unfold ixN;rw [if_pos (by omega),if_pos (by omega)]; simp
 unfold N5; rw [e]; exact h
theorem a1R {α:Type} (xs:List α) (v:α):N5 (xs++[v]) (-1)=some v:=by
 have hl:(xs++[v]).length=xs.length+1:=by simp
 have e:ixN (xs++[v]).length (-1)=some xs.length:=by
  unfold ixN;rw [hl,if_neg (by decide),if_pos (by omega)]
  congr 1
  omega
 unfold N5;rw [e]
 show (xs++[v])[xs.length]?=some v
 simp
def b1C (b:Expr):Prop:=∀ o i,subscripted b false o i=operate [o,i] (getItem o i)
def IxR (X:Cx) (r:R2):Prop :=
 ∀ (value slice:Expr) (pins:List (Addr×Obj)) (s:Shared) (σ:St) (H:Hp) (x y:V) (v u:Value) (Q:VK),Inv X pins σ H s->RelV x v->RelV y u->r x y H Q →
  subscripted slice false v u=operate [v,u] (getItem v u)->wpAny (model X.prog X.w) X.A (subscriptTail value slice v u) (EP X pins σ Q) X.xe s
def MtR (X:Cx) (id:String) (r:V->List V->Hp->VK->Prop):Prop :=
 ∀ (pins:List (Addr×Obj)) (s:Shared) (σ:St) (H:Hp) (x:V) (xs:List V) (v:Value) (us:List Value) (Q:VK),Inv X pins σ H s->RelV x v->Vals xs us->r x xs H Q →
  wpAny (model X.prog X.w) X.A (call (.builtin id) (v::us)) (EP X pins σ Q) X.xe s
section
variable {X:Cx} {a b:Expr} {ta tb:TE} {pos:Pos}
theorem j5 {r:R2} (hr:IxR X r) (ha:PE X a ta) (hb:PE X b tb) (hs:b1C b):PE X (.Subscript a b pos) (tOp r ta tb):=by
 intro pins s σ H Q I h;exact Subscript_ (b3a ha hb I h λ v u s2 x y H2 I2 rx ry q=>hr a b pins s2 σ H2 x y v u Q I2 rx ry q (hs _ _))
def b4q (K:W.Frag):R2:=λ x y H Q=>∃ p xs i v,x=.ref p/\y=.int i/\SqL K H p xs/\N5 xs i=some v/\Q v H
def b4F (K:W.Frag):R2:=λ x y H Q=>∃ p xs i v,x=.ref p/\y=.int i/\SqT K H p xs/\N5 xs i=some v/\Q v H
theorem j4:IxR X (b4q X.K):=by
 intro value slice pins s σ H x y v u Q I rx ry h hs;obtain ⟨p,xs,i,z,rfl,rfl,hq,he,q⟩:=h
 cases rx;obtain ⟨t,rfl⟩:=ry;obtain ⟨its,r,pl,hz⟩:=I.list hq;obtain ⟨j,h1,h2,h3,h4,h5⟩:=a6k he;obtain ⟨w,ew,rw'⟩:=r.get h2;have hl:=r.length;have hn:=a2F;have fin:EP X pins σ Q w s:=⟨z,H,I,rw',q⟩
 by_cases h0:0<=i
 ·have hj:i.toNat=j:=by
   rw [seqIndex_of h0 h5] at h1;exact aN h1
  exact item_listR pl.isList h0 (by omega) (by rw [hj]; simpa using ew) fin hs
 ·have hj:(i+(its.toArray.size:Int)).toNat=j:=by
   rw [seqIndex_neg (by omega) h4] at h1;rw [aU,<- hl];exact aN h1
  exact subscriptTail_builtinR (x:=w) pl.isList.typeIs slot_list_getitem.lookup
   (wpAny_getItem_list_neg (Q:=λ r s'=>r=w/\EP X pins σ Q r s') pl.isList (by omega) (by rw [aU] <;> omega) (by omega) (by rw [hj]; simpa using ew) ⟨rfl,fin⟩) hs
theorem x5:IxR X (b4F X.K):=by
 intro value slice pins s σ H x y v u Q I rx ry h hs;obtain ⟨p,xs,i,z,rfl,rfl,hq,he,q⟩:=h
 cases rx;obtain ⟨t,rfl⟩:=ry;obtain ⟨its,r,pl,hz⟩:=I.tuple hq;obtain ⟨j,h1,h2,h3,h4,h5⟩:=a6k he;obtain ⟨w,ew,rw'⟩:=r.get h2;have hl:=r.length;have hn:=a2F;have fin:EP X pins σ Q w s:=⟨z,H,I,rw',q⟩;exact subscriptTail_builtinR (x:=w) pl.typeIs slot_tuple_getitem.lookup
  (getItem_tuple (j:=j) (Q:=λ r s'=>r=w/\EP X pins σ Q r s') pl (by omega) (by omega) (by rw [aU,<- hl]; exact h1) (by simpa using ew) ⟨rfl,fin⟩) hs
theorem a5l (its:List Value) (n j:Nat) (u:Value):Obj.mapSeq (·.setIfInBounds j u) { cls:=.type "list",data:=.seq its.toArray n }={ cls:=.type "list",data:=.seq (its.set j u).toArray n }:=by
 simp [Obj.mapSeq]
theorem Inv.lst {pins:List (Addr×Obj)} {σ:St} {H:Hp} {s:Shared} {p:Addr} {xs:List V} (I:Inv X pins σ H s) (h:H p=some (.lst xs)) :
  ∃ (its:List Value) (n:Nat),Vals xs its/\s.heap.get? p=some { cls:=.type "list",data:=.seq its.toArray n }/\xs.length<=sizeLine:=by
 obtain ⟨z,its,n,r,e⟩:=I.hok p _ h;exact ⟨its,n,r,e,z⟩
theorem Inv.lstUpd {pins:List (Addr×Obj)} {σ:St} {H:Hp} {s:Shared} {p:Addr} {xs ys:List V} {its its':List Value} {n n':Nat} {f:Obj->Obj} (I:Inv X pins σ H s) (h:H p=some (.lst xs))
  (ho:s.heap.get? p=some { cls:=.type "list",data:=.seq its.toArray n }) (hf:f { cls:=.type "list",data:=.seq its.toArray n }={ cls:=.type "list",data:=.seq its'.toArray n' }) (r:Vals ys its') (hz:ys.length<=sizeLine) (t:Nat) :
  Inv X pins σ (upd H p (.lst ys)) { s with heap:=s.heap.update p f,toks:=t }:=by
 have e:(s.heap.update p f).get? p=some { cls:=.type "list",data:=.seq its'.toArray n' }:=by
  rw [Heap.get?_update_self f ho (by rw [hf] <;> rfl),hf]
 refine I.write (x:=p) (e:=p) (by rw [h]; trivial) (.inl rfl) (λ b u hb q=>(Heap.get?_update_other _ _ (aQ hb)).trans q) ⟨_,e⟩ ?_;exact ⟨hz,its',n',r,e⟩
def b3H:V->V->V->Hp->(Hp->Prop)->Prop:=λ o i v H Q=>∃ p xs k j,o=.ref p/\i=.int k/\H p=some (.lst xs)/\ixN xs.length k=some j/\Q (upd H p (.lst (xs.set j v)))
theorem G6:b3N X b3H:=by
 intro pins s σ H o i v ov iv u Q I ro ri rv h;obtain ⟨p,xs,k,j,rfl,rfl,hp,hj,q⟩:=h
 cases ro;obtain ⟨t,rfl⟩:=ri;obtain ⟨its,n,r,ho,hz⟩:=I.lst hp;obtain ⟨h1,h2,h3,h4⟩:=a6p hj;have hl:=r.length;have hn:=a2F;have I':Inv X pins σ (upd H p (.lst (xs.set j v))) { s with heap:=s.heap.update p (Obj.mapSeq (·.setIfInBounds j u)) } :=
  I.lstUpd hp ho (a5l its n j u) (r.set rv j) (by rw [bW]; exact hz) s.toks
 by_cases h0:0<=k
 ·have hk:k.toNat=j:=by
   rw [seqIndex_of h0 h4] at h1;exact aN h1
  exact W.ki_setAt ho h0 (by omega) (by rw [aU,<- hl]; exact h4) (by rw [hk]; exact ⟨_,I',q⟩)
 ·have hk:(k+(its.toArray.size:Int)).toNat=j:=by
   rw [seqIndex_neg (by omega) h3] at h1;rw [aU,<- hl];exact aN h1
  exact W.ki_setBack ho (by omega) (by rw [aU,<- hl]; exact h3) (by omega) (by rw [hk]; exact ⟨_,I',q⟩)
theorem a3C (lo hi:Option Int) (n:Nat):(sliceBounds lo hi none n).1=((HT.sIx n 0 lo:Nat):Int)/\(sliceBounds lo hi none n).2.1=((HT.sIx n n hi:Nat):Int)/\(sliceBounds lo hi none n).2.2=1:=by
 refine ⟨?_,?_,rfl⟩
 ·cases lo with
  | none=>simp [sliceBounds,HT.sIx]
  | some i =>
   simp only [sliceBounds,HT.sIx,iZ,show (1:Int)>0 by decide,if_true]
   by_cases h:i<0
   ·simp only [h,if_true] <;> omega
   ·simp only [h,if_false] <;> omega
 ·cases hi with
  | none=>simp [sliceBounds,HT.sIx]
  | some i =>
   simp only [sliceBounds,HT.sIx,iZ,show (1:Int)>0 by decide,if_true]
   by_cases h:i<0
   ·simp only [h,if_true] <;> omega
   ·simp only [h,if_false] <;> omega
theorem a2K (its:List Value) (lo hi:Option Int):slicePick its.toArray lo hi none=((its.drop (HT.sIx its.length 0 lo)).take (HT.sIx its.length its.length hi - HT.sIx its.length 0 lo)).toArray:=by
 obtain ⟨h1,h2,h3⟩:=a3C lo hi its.toArray.size;unfold slicePick;rw [h1,h2,h3];simp only [sliceRange_one,pick_run,aU] <;> rfl
def b5x (K:W.Frag):V->Option Int->Option Int->Hp->VK->Prop:=λ x lo hi H Q=>∃ a xs,x=.ref a/\SqL K H a xs/\∀ p,H p=none->Q (.ref p) (upd H p (.lst (A7 xs lo hi)))
theorem B6:SlR X (b5x X.K):=by
 intro pins s σ H x v vl vu lo hi sl Q I rx hs pl pu h;obtain ⟨a,xs,rfl,hx,q⟩:=h
 cases rx;obtain ⟨its,r,ht,hz⟩:=I.list hx;have hlen:=r.length;refine ⟨"list",_,slot_list_getitem.lookup,ht.isList.typeIs,?_⟩;refine wpAny_getItem_list_slice ht.isList hs pl pu .none (by simp) ?_ (by rw [aU] <;> omega);rw [a2K,<- hlen];refine ⟨.ref s.heap.objs.size,_,I.laid (t':=s.toks) (o:=.lst (A7 xs lo hi)) (λ b ob q=>Heap.get?_push_of_some _ q) (aE _) ?_,rfl,q _ (I.hok.fresh (aE _))⟩;exact ⟨Nat.le_trans (C7 xs lo hi) hz,_,0,(r.drop (HT.sIx xs.length 0 lo)).take (HT.sIx xs.length xs.length hi - HT.sIx xs.length 0 lo),Heap.get?_push_size _ rfl⟩
theorem j7:G4 X (.builtin "len") (λ xs H Q=>∃ p ys,xs=[.ref p]/\(SqL X.K H p ys\/SqT X.K H p ys)/\Q (.int ys.length) H):=by
 intro pins s σ H xs us Q I r h;obtain ⟨p,ys,rfl,hq,q⟩:=h;obtain ⟨u,rfl,rx⟩:=P6 r
 cases rx;have hn:=a2F;rcases hq with hq | hq
 ·obtain ⟨its,r',pl,hz⟩:=I.list hq
  have hlen:=r'.length;exact Calls.call_len_list pl.isList (by simp only [aU] <;> omega) ⟨.int ys.length,H,I.tok _,⟨s.toks+1,by rw [aU,hlen]⟩,q⟩
 ·obtain ⟨its,r',pl,hz⟩:=I.tuple hq
  have hlen:=r'.length;exact len_tuple pl (by simp only [aU] <;> omega) ⟨.int ys.length,H,I.tok _,⟨s.toks+1,by rw [aU,hlen]⟩,q⟩
theorem A2:G4 X (.type "list") (λ xs H Q=>∃ p ys,xs=[.ref p]/\(SqL X.K H p ys\/SqT X.K H p ys)/\∀ l,H l=none->Q (.ref l) (upd H l (.lst ys))):=by
 intro pins s σ H xs us Q I r h;obtain ⟨p,ys,rfl,hq,q⟩:=h;obtain ⟨u,rfl,rx⟩:=P6 r
 cases rx;have fin:∀ (its:List Value),Vals ys its->ys.length<=sizeLine->∀ (h':Heap) (c':Nat),(∀ b o',s.heap.get? b=some o'->h'.get? b=some o') →
   h'.get? s.heap.objs.size=some { cls:=.type "list",dict:=none,data:=.seq its.toArray c',slots:=#[] }->EP X pins σ Q (.ref s.heap.objs.size) { s with heap:=h' }:=λ its r' hz h' c' kp e =>
  ⟨.ref s.heap.objs.size,_,I.laid (t':=s.toks) kp (aE _) (show ObjOk X.prog X.w _ h' _ (.lst ys) from ⟨hz,its,c',r',e⟩),rfl,q _ (I.hok.fresh (aE _))⟩
 rcases hq with hq | hq
 ·obtain ⟨its,r',pl,hz⟩:=I.list hq
  have hlen:=r'.length;obtain ⟨o,ho,hc,n,hd⟩:=pl.isList;exact call_list_seq p (.inl rfl) ho hc hd (λ h' c' kp e=>fin its r' hz h' c' kp e) (by simp only [aU] <;> omega)
 ·obtain ⟨its,r',pl,hz⟩:=I.tuple hq
  have hlen:=r'.length;obtain ⟨o,ho,hc,n,hd⟩:=pl;exact call_list_seq p (.inr rfl) ho hc hd (λ h' c' kp e=>fin its r' hz h' c' kp e) (by simp only [aU] <;> omega)
theorem a0d:G4 X (.type "tuple") (λ xs H Q=>∃ p ys,xs=[.ref p]/\((SqL X.K H p ys/\∀ l,H l=none->Q (.ref l) (upd H l (.tup ys)))\/(SqT X.K H p ys/\Q (.ref p) H))):=by
 intro pins s σ H xs us Q I r h;obtain ⟨p,ys,rfl,h⟩:=h;obtain ⟨u,rfl,rx⟩:=P6 r
 cases rx;rcases h with ⟨hq,q⟩ | ⟨hq,q⟩
 ·obtain ⟨its,r',pl,hz⟩:=I.list hq
  have hlen:=r'.length;refine call_tuple_list pl.isList (λ h' kp=>?_) (by simp only [aU] <;> omega);have I1:Inv X pins σ H { s with heap:=h' }:=I.kept (t':=s.toks) kp;have I2:Inv X pins σ (upd H h'.objs.size (.tup ys)) { s with heap:=h'.push { cls:=.type "tuple",data:=.seq its.toArray } } :=
   I1.laid (t':=s.toks) (λ b o e=>Heap.get?_push_of_some _ e) (aE _) (show ObjOk X.prog X.w _ _ _ (.tup ys) from ⟨hz,its,r',IsTup.new _ _⟩)
  exact ⟨.ref h'.objs.size,_,I2,rfl,q _ (I1.hok.fresh (aE _))⟩
 ·obtain ⟨its,r',pl,hz⟩:=I.tuple hq
  exact call_tuple_same pl ⟨.ref p,H,I,rfl,q⟩
def tyV (K:W.Frag) (T:String) (x:V) (H:Hp):Prop:=match x with
 | .str _=>T="str"
 | .int _=>T="int"
 | .ref p=>(T="list"/\∃ xs,SqL K H p xs)\/(T="tuple"/\∃ o,K.lookup p=some o/\o.cls=.type "tuple"/\o.dict=none) ∨
   (T="dict"/\((∃ kvs,H p=some (.dK kvs))\/∃ kvs,H p=some (.dT kvs)))\/(T="set"/\∃ S n,H p=some (.set S n))
 | _=>False
theorem a8D {pins:List (Addr×Obj)} {σ:St} {H:Hp} {s:Shared} {T:String} {x:V} {v:Value} (I:Inv X pins σ H s) (r:RelV x v) (ty:tyV X.K T x H) :
  s.TypeIs v T/\∀ a,v=.ref a->∃ ob,s.heap.get? a=some ob/\ob.dict=none:=by
 cases x with
 | str z =>
  obtain ⟨t,rfl⟩:=r
  cases (show T="str" from ty);exact ⟨typeIs_str s z t,λ _ e=>nomatch e⟩
 | int i =>
  obtain ⟨t,rfl⟩:=r
  cases (show T="int" from ty);exact ⟨typeIs_int s i t,λ _ e=>nomatch e⟩
 | ref p =>
  cases r;rcases ty with ⟨rfl,xs,hq⟩ | ⟨rfl,o,hk,hc,hd⟩ | ⟨rfl,hk⟩ | ⟨rfl,S,n,hk⟩
  ·obtain ⟨its,_,pl,_⟩:=I.list hq
   refine ⟨pl.isList.typeIs,λ a e=>?_⟩
   cases e;obtain ⟨o,n,e,c,hd,_⟩:=pl;exact ⟨o,e,hd⟩
  ·refine ⟨⟨o,I.kIn p o hk,hc⟩,λ a e=>?_⟩
   cases e;exact ⟨o,I.kIn _ o hk,hd⟩
  ·have z:∃ o,s.heap.get? p=some o/\o.ExactDict:=by
    rcases hk with ⟨kvs,hk⟩ | ⟨kvs,hk⟩
    ·obtain ⟨_,_,_,_,o,_,_,e,ex,_⟩:=I.hok p _ hk
     exact ⟨o,e,ex⟩
    ·obtain ⟨_,_,_,_,o,_,_,e,ex,_⟩:=I.hok p _ hk
     exact ⟨o,e,ex⟩
   obtain ⟨o,e,ex⟩:=z;refine ⟨⟨o,e,ex.1⟩,λ a e2=>?_⟩
   cases e2;exact ⟨o,e,ex.2.1⟩
  ·obtain ⟨o,_,_,_,e,ex,_⟩:=I.hok p _ hk
   refine ⟨⟨o,e,ex.1⟩,λ a e2=>?_⟩
   cases e2;exact ⟨o,e,ex.2.1⟩
 | _=>exact bO ty
def b5d (K:W.Frag) (T:String) (r:V->List V->Hp->VK->Prop) (to:TE):TE:=λ σ H Q=>to σ H λ x H1=>tyV K T x H1/\r x [] H1 Q
def tBM (K:W.Frag) (T:String) (r:V->List V->Hp->VK->Prop) (to:TE) (t:TA):TE:=λ σ H Q=>to σ H λ x H1=>tyV K T x H1/\t σ H1 λ xs H2=>r x xs H2 Q
variable {o e:Expr} {es:List Expr} {to:TE} {t:TA} {name:Str} {apos cpos:Pos} {T id:String} {r:V->List V->Hp->VK->Prop}
theorem a8L (pa:PlainAttrs T) (slot:Slot T name id) (hty:typeOf (.builtin id)=pure (.type "method_descriptor")) (hm:MtR X id r) (ho:PE X o to)
  (hbase:attributeBase o name X.env (eval o X.env)=eval o X.env:=by rfl) (hline:(apos.endLine==cpos.line)=true:=by rfl):PE X (.Call (.Attribute o name apos) [] [] cpos) (b5d X.K T r to):=by
 intro pins s σ H Q I h;refine wpAny_Call_method0_late hbase hline (y9 (ho pins s σ H _ I h) λ v s1 ⟨x,H1,I1,r1,ty,q1⟩=>?_);obtain ⟨h1,h2⟩:=a8D I1 r1 ty;exact ⟨T,id,pa,slot,hty,h1,h2,Calls.callWith_builtin rfl (PySem.evalArgs_none (hm pins s1 σ H1 x [] v [] Q I1 r1 .nil q1))⟩
theorem a1Z (pa:PlainAttrs T) (slot:Slot T name id) (hty:typeOf (.builtin id)=pure (.type "method_descriptor")) (hm:MtR X id r) (ho:PE X o to) (ha:PA X (e::es) t)
    (hbase:attributeBase o name X.env (eval o X.env)=eval o X.env:=by rfl)
    (hfew:((backTo cpos (starEach (e::es) X.env)).all (λ x=>!x.1)&&(backToKw cpos (keywordEach [] X.env)).all (λ x=>x.1.isSome)
     &&decide ((e::es).length+([]:List Keyword).length+(if ([]:List Keyword).isEmpty then 0 else 1)<30))=true:=by rfl)
    (hline:(apos.endLine==cpos.line)=true:=by rfl) (hs:starEach (e::es) X.env=(false,eval e X.env)::starEach es X.env:=by rfl) (hplain:(backTo cpos (starEach es X.env)).any (·.1)=false:=by rfl) :
    PE X (.Call (.Attribute o name apos) (e::es) [] cpos) (tBM X.K T r to t):=by
  intro pins s σ H Q I h;refine wpAny_Call_method_late hbase hfew hline rfl (y9 (ho pins s σ H _ I h) λ v s1 ⟨x,H1,I1,r1,ty,q1⟩=>?_);obtain ⟨h1,h2⟩:=a8D I1 r1 ty;refine ⟨T,id,pa,slot,hty,h1,h2,?_⟩;have hA:=ha cpos pins s1 σ H1 _ I1 q1;rw [hs] at hA ⊢;refine Calls.callWith_builtin (by show (false || (backTo cpos (starEach es X.env)).any (·.1))=false; rw [hplain] <;> rfl) (Calls.evalArgs_plain ?_);exact y9 hA λ us s2 ⟨vs,H2,I2,r2,q2⟩=>hm pins s2 σ H2 x vs v us Q I2 r1 r2 q2
/- xs.append(e),list.index on a module's tuple .. are MtR facts of 06m -/
end
def MtM (X:Cx) (id:String) (r:V->List V->Hp->VK->Prop):Prop :=
 ∀ (pins:List (Addr×Obj)) (s:Shared) (σ:St) (H:Hp) (x:V) (xs:List V) (v:Value) (us:List Value) (Q:VK),Inv X pins σ H s->RelV x v->Vals xs us->r x xs H Q →
  wpAny (model X.prog X.w) X.A (call (.builtin id) (v::us)) (EP X pins σ Q) X.xe s
theorem Vals.one:∀ {x:V} {us:List Value},Vals [x] us->∃ u,us=[u]/\RelV x u
 | _,_,.cons r .nil=>⟨_,rfl,r⟩
theorem Vals.zero:∀ {us:List Value},Vals [] us->us=[]
 | _,.nil=>rfl
theorem Vals.dropLast {xs:List V} {us:List Value} (h:Vals xs us):Vals xs.dropLast us.dropLast:=by
 induction h with
 | nil=>exact .nil
 | cons r t ih =>
  cases t with
  | nil=>exact .nil
  | cons q t'=>exact .cons r ih
theorem Vals.rep {xs:List V} {us:List Value} (h:Vals xs us):∀ k:Nat,Vals (aJ k xs).flatten (aJ k us).flatten
 | 0=>.nil
 | k+1=>by
  rw [dH,dH,fE,fE];exact Vals.append h (Vals.rep h k)
theorem a5C {α:Type} (l:List α):l.eraseIdx (l.length - 1)=l.dropLast:=by
 induction l with
 | nil=>rfl
 | cons a r ih =>
  cases r with
  | nil=>rfl
  | cons b r =>
   have e:(a::b::r).length - 1=((b::r).length - 1)+1:=by
    have h1:(a::b::r).length=r.length+2:=rfl;have h2:(b::r).length=r.length+1:=rfl;omega
   rw [e,List.eraseIdx_cons_succ,ih]
   all_goals rfl
theorem a3r (its:List Value):∀ (k:Nat) (acc:List Value),
  gZ (λ x1 x2=>x1++x2) acc.toArray (aJ k its.toArray)=(acc++(aJ k its).flatten).toArray
 | 0,acc=>by simp
 | k+1,acc=>by
  have e:acc.toArray++its.toArray=(acc++its).toArray:=by simp
  have e2:(acc++its)++(aJ k its).flatten=acc++(aJ (k+1) its).flatten:=by
   rw [dH,fE,dI]
  rw [<- e2,<- a3r its k (acc++its),<- e,dH,List.foldl_cons]
section
variable {X:Cx} {pins:List (Addr×Obj)} {σ:St} {H:Hp} {s:Shared} {l b:Addr} {xs ys zs:List V}
theorem Inv.lset {its its':List Value} {n:Nat} {f:Array Value->Array Value} {t':Nat} (I:Inv X pins σ H s) (hH:H l=some (.lst xs))
  (e:s.heap.get? l=some { cls:=.type "list",data:=.seq its.toArray n }) (hf:f its.toArray=its'.toArray) (hv:Vals ys its') (hz:ys.length<=sizeLine) :
  Inv X pins σ (upd H l (.lst ys)) { s with heap:=s.heap.update l (Obj.mapSeq f),toks:=t' }:=by
 have q:=lW e f;rw [hf] at q;refine I.write (x:=l) (e:=l) (by rw [hH]; exact trivial) (.inl rfl) (λ b' u hb hu=>(Heap.get?_update_other s.heap (Obj.mapSeq f) (aQ hb)).trans hu) ⟨_,q⟩ ?_;exact ⟨hz,its',_,hv,q⟩
theorem Inv.lnew {its:List Value} {t':Nat} (I:Inv X pins σ H s) (hv:Vals ys its) (hz:ys.length<=sizeLine) :
  Inv X pins σ (upd H s.heap.objs.size (.lst ys)) { s with heap:=s.heap.push { cls:=.type "list",data:=.seq its.toArray },toks:=t' } :=
 I.laid (λ _ _ q=>Heap.get?_push_of_some _ q) (aE _) ⟨hz,its,0,hv,Heap.get?_push_size _ rfl⟩
theorem Inv.fresh (I:Inv X pins σ H s):H s.heap.objs.size=none:=I.hok.fresh (aE _)
theorem Inv.lstM (I:Inv X pins σ H s) (hH:H l=some (.lst xs)):xs.length<=sizeLine/\∃ (its:List Value) (n:Nat),Vals xs its/\xs.length=its.length/\s.heap.get? l=some { cls:=.type "list",data:=.seq its.toArray n }:=by
 obtain ⟨z,its,n,r,e⟩:=I.hok l _ hH;exact ⟨z,its,n,r,r.length,e⟩
theorem a9Z {n:Nat} (h:n<=sizeLine):Builtin.List.listTooLong n=false:=by
 unfold Builtin.List.listTooLong;exact decide_eq_false (by omega)
end
section
variable {X:Cx}
def b0A:V->List V->Hp->VK->Prop:=λ x vs H Q=>∃ l xs y,x=.ref l/\vs=[y]/\H l=some (.lst xs)/\xs.length<sizeLine/\Q .non (upd H l (.lst (xs++[y])))
theorem J8:MtM X "list.append" b0A:=by
 intro pins s σ H x vs v us Q I rx rv h;obtain ⟨l,xs,y,rfl,rfl,hH,hz,q⟩:=h
 cases rx;obtain ⟨u,rfl,ru⟩:=rv.one;obtain ⟨z,its,n,r,hl,e⟩:=I.lstM hH;refine call_meets F.slot_list_append ⟨_,e,rfl⟩ F.entry_list_append (F.args_list_append_2 _ _) (PySem.list_append l its.toArray n u (by rw [aU]; omega)) ⟨e,?_⟩;refine ⟨.non,_,I.lset (its':=its++[u]) hH e (by simp) (r.append (.cons ru .nil)) ?_,rfl,q⟩;rw [aM,cX];omega
def b5P:V->List V->Hp->VK->Prop:=λ x vs H Q=>∃ l xs y,x=.ref l/\vs=[]/\H l=some (.lst xs)/\xs[xs.length - 1]?=some y/\Q y (upd H l (.lst xs.dropLast))
theorem a8O:MtM X "list.pop" b5P:=by
 intro pins s σ H x vs v us Q I rx rv h;obtain ⟨l,xs,y,rfl,rfl,hH,hy,q⟩:=h
 cases rx;have hus:=rv.zero;subst hus;obtain ⟨z,its,n,r,hl,e⟩:=I.lstM hH;obtain ⟨u,hu,ru⟩:=r.get hy;have hy':its.toArray[its.toArray.size - 1]?=some u:=by
  show its.toArray[its.length - 1]?=some u
  rw [<- Array.getElem?_toList,<- hl];exact hu
 refine call_meets F.slot_list_pop ⟨_,e,rfl⟩ F.entry_list_pop (F.args_list_pop_1 _) (MeetsSeq.list_pop_last l its.toArray n u hy' (by rw [aU]; omega)) ⟨e,?_⟩;refine ⟨y,_,I.lset (its':=its.dropLast) hH e ?_ r.dropLast ?_,ru,q⟩
 ·show its.toArray.eraseIdxIfInBounds (its.toArray.size - 1)=its.dropLast.toArray
  rw [aU,List.eraseIdxIfInBounds_toArray,a5C]
 ·rw [hU]
  omega
def b5s:R2:=λ x y H Q=>∃ l b xs zs,x=.ref l/\y=.ref b/\H l=some (.lst xs)/\H b=some (.lst zs)/\xs.length+zs.length<=sizeLine/\∀ p,H p=none->Q (.ref p) (upd H p (.lst (xs++zs)))
theorem x4:OpR X (binaryOp .Add) b5s:=by
 intro pins s σ H x y v u Q I rx ry h;obtain ⟨l,b,xs,zs,rfl,rfl,hH,hB,hz,q⟩:=h
 cases rx
 cases ry;obtain ⟨z,its,n,r,hl,e⟩:=I.lstM hH;obtain ⟨z2,its2,n2,r2,hl2,e2⟩:=I.lstM hB;refine PySem.P.add_list e e2 ?_ (by rw [aU,aU]; omega);have ea:its.toArray++its2.toArray=(its++its2).toArray:=by simp
 rw [ea];exact ⟨.ref _,_,I.lnew (t':=s.toks) (r.append r2) (by rw [aM]; omega),rfl,q _ I.fresh⟩
def b5U:R2:=λ x y H Q=>∃ l k xs,x=.ref l/\y=.int k/\H l=some (.lst xs)/\-(2 ^ 63)<=k/\k<2 ^ 63/\xs.length*k.toNat<=sizeLine ∧
 ∀ p,H p=none->Q (.ref p) (upd H p (.lst (aJ k.toNat xs).flatten))
theorem b0s {α:Type} (xs:List α) (k:Nat):(aJ k xs).flatten.length=k*xs.length:=by
 induction k with
 | zero=>simp
 | succ k ih=>rw [dH,fE,aM,ih,gE,Nat.add_comm]
theorem U3:OpR X (binaryOp .Mult) b5U:=by
 intro pins s σ H x y v u Q I rx ry h;obtain ⟨l,k,xs,rfl,rfl,hH,h1,h2,hz,q⟩:=h
 cases rx;obtain ⟨t,rfl⟩:=ry;obtain ⟨z,its,n,r,hl,e⟩:=I.lstM hH;have hlen:its.toArray.size*k.toNat<=sizeLine:=by rw [aU,<- hl]; exact hz
 have hcap:¬ its.toArray.size*k.toNat>(2 ^ 63 - 1) / 8:=by
  have:(sizeLine:Nat)<=(2 ^ 63 - 1) / 8:=by decide
  omega
 have hfit:¬ (!Builtin.List.listFitsIndex k)=true:=by
  rw [fitsIndex_both h1 h2];exact bY
 have hlong:¬ Builtin.List.listTooLong (its.toArray.size*k.toNat)=true:=by
  rw [a9Z hlen];exact bY
 have hnew:gZ (λ x1 x2=>x1++x2) #[] (aJ (if its.toArray.isEmpty=true then 0 else k.toNat) its.toArray)=(aJ k.toNat its).flatten.toArray:=by
  have f0:∀ m:Nat,gZ (λ x1 x2=>x1++x2) #[] (aJ m its.toArray)=(aJ m its).flatten.toArray:=λ m=>by
   have:=a3r its m [];rw [cY] at this;exact this
  rw [f0]
  cases its with
  | nil=>simp
  | cons a r'=>rw [if_neg (by simp)]
 refine wpAny_binaryOp_repeat_ref (T:="list") (U:="int") (by decide) ⟨_,e,rfl⟩ (λ s'=>typeIs_int s' k t) noFill_list_mul F.fills_int_mul F.slot_int_rmul repeat_list F.slot_int_index.lookup
  (call_meets F.slot_int_rmul (typeIs_int s k t) F.entry_int_rmul (F.args_int_rmul_2 _ _) (int___rmul___int_list k t l its.toArray n)
   ⟨e,rfl,⟨_,e,rfl⟩,call_meets F.slot_list_mul ⟨_,e,rfl⟩ F.entry_list_mul (F.args_list_mul_2 _ _) (AutoListH.list___mul___list_int_3 l its.toArray n k t hfit hcap hlong) ⟨e,?_⟩⟩)
 rw [hnew];exact ⟨.ref _,_,I.lnew (t':=s.toks) (r.rep k.toNat) (by rw [b0s,jA]; exact hz),rfl,q _ I.fresh⟩
end
section
variable {prog:Program} {w:World} {A:Around} {E:Value->Shared->Prop} {s:Shared}
end
section
variable {X:Cx}
end
end L2
namespace Att
open PySem PySem.W PySem.Calls PyProof.Rows
theorem a1C {P:Params} {h:Heap}:∀ (ns:List Int) (vs:List Value),WellAll P h vs (ns.map WData.int)->IntsAre vs ns:=by
 intro ns
 induction ns with
 | nil =>
  intro vs w;rw [dL] at w
  cases w;exact .nil
 | cons n ns ih =>
  intro vs w;rw [aV] at w
  cases w with
  | cons a b =>
   cases a;exact .cons _ _ (ih _ b)
theorem a7l {l:OpenLaw} {n:Nat} (hn:l.most=some n) {P:Params} {h:Heap} {args:List WData} {vals:List Value}
  (hpre:l.row.toRowW.claim.pre args=true) (hwl:WellAll P h vals args) :
  ∃ a vs ns,vals=[Value.ref a]/\args=[WData.list (ns.map WData.int)]/\h.get? a=some { cls:=.type "list",data:=.seq vs.toArray }/\IntsAre vs ns/\ns.length<=n:=by
 have hsh:WShape.hasAll [] args [.list .int]=true:=(pre_splitW hpre).1;have hc:l.pre.holds [] { args:=args }=true:=(pre_splitW hpre).2;obtain ⟨d,r,rfl,h1,h2⟩:=hasAllW_cons hsh;obtain rfl:=hasAllW_nil h2;obtain ⟨xs,rfl,h3⟩:=hasW_list h1;obtain ⟨ns,rfl⟩:=items_int h3;have hlen:ns.length<=n:=by
  unfold OpenLaw.pre at hc;have h4:(WTm.not (.lt (.lit (.int (n:Int))) (.len (.arg 0)))).holds [] { args:=[.list (ns.map .int)] }=true:=by
   have h4:=(holds_andW hc).1;rw [hn] at h4;exact h4
  have h5:=condW_of h4 (w_not (w_lt w_lit (w_len_list (w_arg rfl))));rw [aA] at h5;refine hV λ q=>?_;have q':(n:Int)<((ns.length:Nat):Int):=by omega
  first
   | (rw [decide_eq_true q'] at h5; exact absurd h5 (by decide))
   | (simp at h5; omega)
 cases hwl with
 | cons w1 w2 =>
  cases w2
  cases w1 with
  | list ho hall=>exact ⟨_,_,ns,rfl,rfl,ho,a1C ns _ hall,hlen⟩
theorem a7w (l:OpenLaw) (args:List WData):l.row.toRowW.claim.post args (.bool true) args=true :=
 postW_of (r:=l.row.toRowW) (X:=(true==true))
  (show WShape.has [] (.bool true) .bool=true by first | rfl | decide | simp [WShape.has,WShape.arms,WShape.armsAll])
  (show (WTm.eq .res (.lit (.bool true))).value [] { args:=args,res:=some (.bool true),after:=args }=some (.bool (true==true)) from w_eq_bool (w_res rfl) w_lit) rfl
theorem attach_call {l:OpenLaw} {n:Nat} {q:Program} {loose:List Str} {XP:(Str->Option Value)->Heap->Prop} {YP:World->Heap->Prop} {d:DefRec}
  (hn:l.most=some n) (hdf:d.params.defaults=[])
  (call:∀ (w:World) (s₀ s₁:Shared) (mg mb:Str->Option Value) (fa:Addr) (o:Obj) (pm cd doc:Value) (a:Addr) (vs:List Value) (ns:List Int),
   Ground q loose [] XP w s₀ mg mb s₁.heap->YP w s₁.heap →
   s₁.heap.get? fa=some o->o.data=.func (docDef d.name d.params d.body d.scope pm cd doc)->s₁.heap.CodeRec cd d.name->mg d.name=some (.ref fa) →
   s₁.heap.get? a=some { cls:=.type "list",data:=.seq vs.toArray }->IntsAre vs ns->ns.length<=n->s₁.gens=#[] →
   codeAny (model l.prog w) callerA (.call (.ref fa) ⟨[.ref a],[]⟩) (λ r s'=>r=.ok (.ret (.bool true))/\OldK s₁.heap s'.heap/\s'.os=s₁.os/\AllBare s'.gens) s₁) :
  WalkO q loose XP YP l.row.toRowW d [] (λ f vs=>hW f vs):=by
 intro w s₀ s₁ mg mb G Y fa o pm cd doc dV kV ho hd hcd hD hmg hg args vals as hpre hlay hrd hwl hlo;obtain rfl:dV=.none:=Dflts.none hD hdf;obtain rfl:kV=.none:=Dflts.noKw hD;obtain ⟨a,vs,ns,rfl,rfl,hobj,hints,hlen⟩:=a7l hn hpre hwl;refine enter_call (codeAny_mono (call w s₀ s₁ mg mb fa o pm cd doc a vs ns G Y ho (fd_plain hd) hcd hmg hobj hints hlen hg) λ r s' hq=>?_);obtain ⟨rfl,h2,h3,h4⟩:=hq;exact ⟨.inl ⟨.bool true,.bool true,[],rfl,λ _=>rfl,.bool true,a7w l _,λ _=>⟨List.Pairwise.nil,λ _ hm=>(nomatch hm)⟩⟩,h2,h3,h4⟩
section
variable {prog:Program} {w:World} {A:Around} {E:Value->Shared->Prop} {s:Shared} {K:Frag}
end
end Att
namespace L2
open PySem PySem.Spec PyProof.Rows
theorem a3h:∀ {vs:List Value} {ns:List Int},IntsAre vs ns->Vals (ns.map V.int) vs
 | _,_,.nil=>.nil
 | _,_,.cons n t h=>.cons ⟨t,rfl⟩ (a3h h)
def B7 (s:Stmt) (j:Nat):Stmt:=match s with
 | .ClassDef _ _ _ body _ _ _ _ _ _ _=>body.getD j (.Pass ⟨0,0,0,0⟩)
 | _=>.Pass ⟨0,0,0,0⟩
def G2 (s:Stmt):Arguments:=match s with
 | .FunctionDef _ a _ _ _ _ _ _ _ _=>a
 | _=>{ posonlyargs:=[],args:=[],vararg:=none,kwonlyargs:=[],kw_defaults:=[],kwarg:=none,defaults:=[] }
def t0 (s:Stmt):List Stmt:=match s with
 | .FunctionDef _ _ b _ _ _ _ _ _ _=>b
 | _=>[]
def h8 (s:Stmt):Scope:=match s with
 | .FunctionDef _ _ _ _ _ _ sc _ _ _=>sc
 | _=>{ kind:=.function,names:=[],isGenerator:=false,isCoroutine:=false }
abbrev D7:CXT:=λ _ _ _ _ _ _=>False
abbrev E0:XK:=λ _ _ _=>False
theorem t7 {X:Cx}:V3 D7 X E0:=λ _ _ _ _ _ _ _ h=>h.elim
structure Fun (K:W.Frag) (x qual:Str) (st:Stmt) (f:Addr) (fd:FuncData):Prop where
 ex:∃ (oc:Value) (od:Option Addr) (kV doc pm:Value) (an:Option Addr) (cdv ct:Value) (osl:Array (Option Value)),
  fd=W.fnOf x qual (G2 st) (t0 st) (h8 st) .none kV doc pm an cdv ct/\K.lookup f=some ⟨oc,od,.func fd,osl⟩/\W.codeIn K cdv qual=true
 kp:W.keepIn K (.ref f)=true
section
variable {P:Program} {w:World} {K:W.Frag} {mg:Str->Option Value} {base:Heap}
theorem Fun.ok {x qual:Str} {st:Stmt} {f:Addr} {fd:FuncData} {N ps:List Str} {k:Nat} {sp:Sp} (F:Fun K x qual st f fd) (S:j8 N ps (h8 st)) (len:∀ vs H Q E,sp vs H Q E->vs.length=ps.length)
  (hbody:∀ (cdv:Value) (A:Around) (outer:List Env) (s:Shared) (H:Hp) (vs:List V) (Q:VK) (E:XK),Room k (A.deeper (envOfC qual (h8 st) s.heap.objs.size f cdv))->sp vs H Q E →
   ∃ t,PSs (J1 D7 P w K mg base N qual (h8 st) f cdv A outer s H E).nox (t0 st) t/\t { nx:=λ _ H'=>Q .non H',rt:=Q } (O5 N vs) H):FnOk P w K mg base D7 (k+1) f fd ps sp:=by
 obtain ⟨oc,od,kV,doc,pm,an,cdv,ct,osl,rfl,lk,hcd⟩:=F.ex;refine a8F lk hcd S len λ A outer s H vs Q E hr hsp=>?_;obtain ⟨t,h,q⟩:=hbody cdv A outer s H vs Q E hr hsp;exact ⟨t,h.nox,q⟩
theorem Fun.binds {x qual:Str} {st:Stmt} {f:Addr} {fd:FuncData} {ps:List Str} (F:Fun K x qual st f fd)
  (h:∀ (kV doc pm:Value) (an:Option Addr) (cdv ct:Value) (us:List Value),us.length=ps.length->bindArgs (W.fnOf x qual (G2 st) (t0 st) (h8 st) .none kV doc pm an cdv ct) ⟨us,[]⟩=pure (ps.zip us)):Binds K fd ps []:=by
 obtain ⟨oc,od,kV,doc,pm,an,cdv,ct,osl,rfl,lk,hcd⟩:=F.ex;exact .all (h kV doc pm an cdv ct)
theorem a8N {x qual:Str} {st:Stmt} {f:Addr} {oc:Value} {od an:Option Addr} {osl:Array (Option Value)} {kV doc pm cdv ct:Value} (l:K.lookup f=some ⟨oc,od,.func (W.fnOf x qual (G2 st) (t0 st) (h8 st) .none kV doc pm an cdv ct),osl⟩)
  (c:W.codeIn K cdv qual=true) (k:W.keepIn K (.ref f)=true):Fun K x qual st f (W.fnOf x qual (G2 st) (t0 st) (h8 st) .none kV doc pm an cdv ct):=⟨⟨oc,od,kV,doc,pm,an,cdv,ct,osl,rfl,l,c⟩,k⟩
end
theorem j9 {n:Nat} (h:n<=1000):n<sizeLine:=cI h (by decide)
section
variable {X:Cx}
theorem pv (i:Nat) {x:Str} {pos:Pos} (hN:X.N[i]?=some x:=by rfl) (hv:Vis X.env.scope x:=by first | exact aC rfl | exact eU (aC rfl) | exact eU (eU rfl)) (hd:(x==("__debug__":Str))=false:=by decide)
  (hcd:(x==("__classdict__":Str))=false:=by decide):PE X (.Name x pos) (a4G i):=b2i hN hv hd hcd
end
theorem D6 {A B:Prop} (h:B):if false=true then A else B:=by
 rw [if_neg bY];exact h
theorem O1 {A B:Prop} (h:A):if true=true then A else B:=by
 rw [if_pos rfl];exact h
theorem A6 {c A B:Prop} [Decidable c] (h1:c->A) (h2:¬ c->B):if c then A else B:=by
 by_cases h:c
 ·rw [if_pos h]
  exact h1 h
 ·rw [if_neg h]
  exact h2 h
theorem b4t {c A B:Prop} [Decidable c] (hc:c) (h:B):if (!decide c)=true then A else B:=by
 rw [decide_eq_true hc];exact D6 h
def Same (H H':Hp):Prop:=∀ b o,H b=some o->H' b=some o
theorem Same.refl (H:Hp):Same H H:=λ _ _ h=>h
theorem Same.trans {H H1 H2:Hp} (a:Same H H1) (b:Same H1 H2):Same H H2:=λ c o h=>b c o (a c o h)
theorem Same.free {H H':Hp} (e:Same H H') {l:Addr} (h:H' l=jB):H l=jB:=by
 cases q:H l with
 | none=>rfl
 | some o =>
  rw [e l o q] at h
  cases h
theorem Same.seq {K:W.Frag} {H H':Hp} {a:Addr} {xs:List V} (e:Same H H') (h:SqL K H a xs):SqL K H' a xs:=by
 rcases h with (h | ⟨o,h⟩) | h
 ·exact .inl (.inl (e _ _ h))
 ·exact .inl (.inr ⟨o,e _ _ h⟩)
 ·exact .inr h
def clo (env:Env):List (Str×NameKind)->List (Str×Addr)->List (Str×Addr)
 | [],cs=>cs
 | (n,k)::r,cs=>if k==.free then (match env.cells.lookup n with | some a=>clo env r ((n,a)::cs) | none=>clo env r cs) else clo env r cs
theorem E5 {scope:Scope} {env:Env} (h:∀ n,(n,NameKind.free)∈scope.names->∃ c,env.cells.lookup n=some c):closureFor scope env=pure (clo env scope.names []):=by
 simp only [closureFor];generalize ([]:List (Str×Addr))=cs
 revert h
 generalize scope.names=l;intro h
 induction l generalizing cs with
 | nil=>rfl
 | cons x r ih =>
  obtain ⟨n,k⟩:=x;have hr:∀ n,(n,NameKind.free)∈r->∃ c,env.cells.lookup n=some c:=λ n hn=>h n (bM _ hn)
  by_cases hk:k=.free
  ·subst hk
   obtain ⟨c,hc⟩:=h n cF;have q:=ih ((n,c)::cs) hr;simp only [dY,clo,hc,beq_self_eq_true,if_true,cellOf];exact q
  ·have hb:(k==NameKind.free)=false:=by simpa using hk
   have q:=ih cs hr;simp only [dY,clo,hb,gF,if_false];exact q
theorem a0M {env:Env} {x:Str} {c:Addr}:∀ {l:List (Str×NameKind)} {cs:List (Str×Addr)},(∀ x c,cs.lookup x=some c->env.cells.lookup x=some c)->(clo env l cs).lookup x=some c->env.cells.lookup x=some c
 | [],_,h,e=>h x c e
 | (n,k)::r,cs,h,e=>by
  unfold clo at e
  by_cases hk:(k==NameKind.free)=true
  ·rw [if_pos hk] at e
   cases q:env.cells.lookup n with
   | none=>rw [q] at e; exact a0M h e
   | some a =>
    rw [q] at e;refine a0M (cs:=(n,a)::cs) (λ y d z=>?_) e;rw [cZ] at z
    cases hy:y==n with
    | true =>
     rw [hy] at z;have:y=n:=by simpa using hy
     subst this;rw [q]; exact z
    | false=>rw [hy] at z; exact h y d z
  ·rw [if_neg hk] at e
   exact a0M h e
theorem a1I {env:Env} {x:Str} {c:Addr}:∀ {l:List (Str×NameKind)} {cs:List (Str×Addr)},(x,c)∈clo env l cs->(env.cells.lookup x=some c/\(x,NameKind.free)∈l)\/(x,c)∈cs
 | [],_,e=>.inr e
 | (n,k)::r,cs,e=>by
  unfold clo at e
  by_cases hk:(k==NameKind.free)=true
  ·rw [if_pos hk] at e
   have hk':k=.free:=by simpa using hk
   cases q:env.cells.lookup n with
   | none =>
    rw [q] at e;exact (a1I e).imp (λ z=>⟨z.1,bM _ z.2⟩) id
   | some a =>
    rw [q] at e;rcases a1I (cs:=(n,a)::cs) e with z | z
    ·exact .inl ⟨z.1,bM _ z.2⟩
    ·rcases aH.mp z with z | z
     ·cases z
      exact .inl ⟨q,by rw [hk']; exact cF⟩
     ·exact .inr z
  ·rw [if_neg hk] at e
   exact (a1I e).imp (λ z=>⟨z.1,bM _ z.2⟩) id
theorem t9:∀ (names:List (Str×NameKind)) (n:Nat) (acc:List (Str×Addr)),cellsFrom n names acc=cellsFrom n names []++acc
 | [],_,_=>rfl
 | (x,k)::r,n,acc=>by
  unfold cellsFrom
  split
  ·rw [t9 r (n+1) ((x,n)::acc),t9 r (n+1) [(x,n)],dI]; rfl
  ·exact t9 r n acc
theorem K6 {x:Str} {c:Addr}:∀ {names:List (Str×NameKind)} {n:Nat},(x,c)∈cellsFrom n names []->(x,NameKind.cell)∈names
 | [],_,e=>by cases e
 | (y,k)::r,n,e=>by
  unfold cellsFrom at e
  by_cases hk:(k==NameKind.cell)=true
  ·rw [if_pos hk,t9] at e
   have hk':k=.cell:=by simpa using hk
   rcases aS.mp e with z | z
   ·exact bM _ (K6 z)
   ·rw [aY] at z
    cases z;rw [hk']; exact cF
  ·rw [if_neg hk] at e
   exact bM _ (K6 e)
theorem R5 {x:Str}:∀ {names:List (Str×NameKind)} {n:Nat},(x,NameKind.cell)∈names->∃ c,(x,c)∈cellsFrom n names []
 | (y,k)::r,n,e=>by
  unfold cellsFrom;rcases aH.mp e with z | z
  ·cases z
   rw [if_pos (by rfl),t9];exact ⟨n,bS _ cF⟩
  ·split
   ·rw [t9]
    obtain ⟨c,hc⟩:=R5 (n:=n+1) z;exact ⟨c,dJ _ hc⟩
   ·exact R5 z
theorem a2x {α:Type} {x:Str}:∀ {l₁ l₂:List (Str×α)},(l₁++l₂).lookup x=match l₁.lookup x with | some c=>some c | none=>l₂.lookup x
 | [],_=>rfl
 | (n,c)::r,l₂=>by
  rw [bZ,cZ,cZ]
  cases hx:x==n with
  | true=>rfl
  | false=>exact a2x (l₁:=r)
theorem a0f {α:Type} {x:Str} {c:α}:∀ {l:List (Str×α)},(x,c)∈l->∃ c',l.lookup x=some c'
 | (n,d)::r,h=>by
  rw [cZ]
  cases hx:x==n with
  | true=>exact ⟨d,rfl⟩
  | false =>
   rcases aH.mp h with z | z
   ·cases z; simp at hx
   ·exact a0f z
theorem Y4 {env:Env} {x:Str}:∀ {l:List (Str×NameKind)} {cs:List (Str×Addr)},(∃ c,cs.lookup x=some c)->∃ c,(clo env l cs).lookup x=some c
 | [],_,h=>h
 | (n,k)::r,cs,h=>by
  unfold clo
  split
  ·split
   ·refine Y4 ?_
    rw [cZ]
    cases hy:x==n with
    | true=>exact ⟨_,rfl⟩
    | false=>exact h
   ·exact Y4 h
  ·exact Y4 h
theorem Z5 {env:Env} {x:Str} (hx:∃ c,env.cells.lookup x=some c):∀ {l:List (Str×NameKind)} {cs:List (Str×Addr)},(x,NameKind.free)∈l->∃ c,(clo env l cs).lookup x=some c
 | (n,k)::r,cs,h=>by
  rcases aH.mp h with e | e
  ·cases e
   obtain ⟨c,hc⟩:=hx;unfold clo;rw [if_pos (by rfl),hc];refine Y4 ⟨c,?_⟩;simp [cZ]
  ·unfold clo
   split
   ·split
    ·exact Z5 hx e
    ·exact Z5 hx e
   ·exact Z5 hx e
def S1 (env:Env) (scope:Scope) (C:Addr):List (Str×Addr):=cellsFrom (C+1) scope.names (clo env scope.names [])
theorem F0 {env:Env} {scope:Scope} {C:Addr} {x:Str} {c:Addr} (h:(S1 env scope C).lookup x=some c) :
  ((x,c)∈cellsFrom (C+1) scope.names []/\(x,NameKind.cell)∈scope.names)\/(env.cells.lookup x=some c/\(x,NameKind.free)∈scope.names):=by
 have m:=mem_of_lookup h;unfold S1 at m;rw [t9] at m;rcases aS.mp m with z | z
 ·exact .inl ⟨z,K6 z⟩
 ·rcases a1I z with y | y
  ·exact .inr y
  ·cases y
theorem a1v {env:Env} {scope:Scope} {C:Addr} {x:Str} (hx:∃ c,env.cells.lookup x=some c) (hf:(x,NameKind.free)∈scope.names) (hn:(x,NameKind.cell) ∉ scope.names):(S1 env scope C).lookup x=env.cells.lookup x:=by
 obtain ⟨c,hc⟩:=Z5 (env:=env) (cs:=[]) hx hf;have hc':=a0M (env:=env) (λ _ _ z=>by simp at z) hc;unfold S1;rw [t9,a2x]
 cases q:(cellsFrom (C+1) scope.names []).lookup x with
 | some d=>exact absurd (K6 (mem_of_lookup q)) hn
 | none=>rw [hc',<- hc]
def blk (X:Cx) (os:List Str) (fr:List Nat) (scope:Scope) (C:Addr) (fp:List Addr) (s₀:Shared) (H₀:Hp):Cx :=
 { X with N:=os++fr.map (λ j=>X.N.getD j ""),s₀:=s₀,H₀:=H₀,env:=compEnvC scope (S1 X.env scope C) C X.env,outer:=X.stack,ex:=fp,fn:=λ x=>scope.names.lookup x==some .cell,pn:=[],xe:=λ _ _=>False }
def frv (fr:List Nat) (σ:St):St:=fr.map λ j=>(σ[j]?).join
def blkσ (n:Nat) (fr:List Nat) (σ:St):St:=aJ n none++frv fr σ
def Wk (σ0 σ2:St):Prop:=σ2.length=σ0.length/\∀ (i:Nat) v,σ0[i]?=some (some v)->σ2[i]?=some (some v)
def a0z (outer:Scope) (scope:Scope) (N:List Str) (fr:List Nat):Bool :=
 (scope.names.all λ p=>(scope.names.lookup p.1==some p.2)&&(p.2 != .free || outer.names.lookup p.1==some .cell)) &&
 (fr.all λ j=>decide (j<N.length)&&(outer.names.lookup (N.getD j "")==some .cell)&&(scope.names.lookup (N.getD j "")==some .free))
theorem J5 {x:Str} {k:NameKind}:∀ {l:List (Str×NameKind)},l.lookup x=some k->(x,k)∈l
 | (n,j)::r,h=>by
  rw [cZ] at h
  cases hx:x==n with
  | true =>
   rw [hx] at h;have:x=n:=by simpa using hx
   subst this
   cases h;exact cF
  | false=>rw [hx] at h; exact bM _ (J5 h)
theorem O7 {env:Env} {x:Str} {k:NameKind}:∀ {names:List (Str×NameKind)},
  (names.map λ (n,k)=>if (k==NameKind.free&&env.scope.kind==.function&&env.kindOf n==some .cell) then (n,NameKind.cell) else (n,k)).lookup x=some k →
  (x,k)∈names\/(x,NameKind.free)∈names
 | [],h=>by simp at h
 | (n,j)::r,h=>by
  rw [aV] at h;dsimp only at h
  by_cases hc:(j==NameKind.free&&env.scope.kind==.function&&env.kindOf n==some .cell)=true
  ·rw [if_pos hc,cZ] at h
   have hj:j=.free:=by
    have:=(dZ _ _ ▸ (dZ _ _ ▸ hc).1).1
    simpa using this
   cases hx:x==n with
   | true =>
    have:x=n:=by simpa using hx
    subst this;subst hj;exact .inr cF
   | false =>
    rw [hx] at h;exact (O7 h).imp (bM _) (bM _)
  ·rw [if_neg hc,cZ] at h
   cases hx:x==n with
   | true =>
    rw [hx] at h;have:x=n:=by simpa using hx
    subst this
    cases h;exact .inl cF
   | false =>
    rw [hx] at h;exact (O7 h).imp (bM _) (bM _)
section
variable {X:Cx} {os:List Str} {fr:List Nat} {scope:Scope}
theorem Q4 (h:a0z X.env.scope scope X.N fr=true):∀ p∈scope.names,scope.names.lookup p.1=some p.2/\(p.2=.free->X.env.scope.names.lookup p.1=some .cell):=λ p hp=>by
 have q:=fT.mp (dZ _ _ ▸ h).1 p hp;simp only [dZ,bne_iff_ne,Bool.or_eq_true,beq_iff_eq,ne_eq] at q;refine ⟨q.1,λ e=>?_⟩;rcases q.2 with z | z
 ·exact absurd e z
 ·exact z
theorem a5Z (h:a0z X.env.scope scope X.N fr=true) {x:Str} {a b:NameKind} (ha:(x,a)∈scope.names) (hb:(x,b)∈scope.names):a=b:=by
 have h1:=(Q4 h _ ha).1;have h2:=(Q4 h _ hb).1;rw [h1] at h2;exact aN h2
theorem b2d (h:a0z X.env.scope scope X.N fr=true):∀ j∈fr,j<X.N.length/\X.env.scope.names.lookup (X.N.getD j "")=some .cell/\scope.names.lookup (X.N.getD j "")=some .free:=λ j hj=>by
 have q:=fT.mp (dZ _ _ ▸ h).2 j hj;simp only [dZ,beq_iff_eq,decide_eq_true_eq] at q;exact ⟨q.1.1,q.1.2,q.2⟩
theorem U9 {pins:List (Addr×Obj)} {σ:St} {H:Hp} {s:Shared} (I:Inv X pins σ H s) (h:a0z X.env.scope scope X.N fr=true):∀ n,(n,NameKind.free)∈scope.names->∃ c,X.env.cells.lookup n=some c:=λ n hn =>
 I.ok.has n (.inl ((Q4 h _ hn).2 rfl))
theorem Inv.block {pins:List (Addr×Obj)} {σ:St} {H:Hp} {s:Shared} {fp:List Addr} {h₁:Heap} {t':Nat} (I:Inv X pins σ H s) (hk:scope.kind=.function) (h:a0z X.env.scope scope X.N fr=true)
  (hf:∀ b∈fp,U1 X pins H b) (ho:∀ b∈fp,∃ o,s.heap.get? b=some o) (hns:h₁.Ns s.heap.objs.size λ _=>none) (hkeep:∀ b o,s.heap.get? b=some o->h₁.get? b=some o)
  (hcl:CellsOk h₁ (s.heap.objs.size+1) (cellsFrom (s.heap.objs.size+1) scope.names [])) :
  Inv (blk X os fr scope s.heap.objs.size fp s H) [] (blkσ os.length fr σ) H { s with heap:=h₁,toks:=t' } where
 ok:={
  mod:=I.ok.mod
  kind:=hk
  glob:=I.ok.glob
  blt:=I.ok.blt
  above:=aE _
  inj:=λ x y c e1 e2=>by
   have old:∀ {z:Str},X.env.cells.lookup z=some c->c<s.heap.objs.size:=λ {z} e=>by
    obtain ⟨v,q⟩:=I.cell z c e;exact q.lt
   rcases F0 e1 with z1 | z1 <;> rcases F0 e2 with z2 | z2
   ·exact name_of_addr hcl.apart z1.1 z2.1
   ·exact absurd (aO (fU (old z2.1)) (hcl.empty _ _ z1.1).2) (bJ _)
   ·exact absurd (aO (fU (old z1.1)) (hcl.empty _ _ z2.1).2) (bJ _)
   ·exact I.ok.inj x y c z1.1 z2.1
  has:=λ x hx=>by
   have hm:(x,NameKind.cell)∈scope.names\/(x,NameKind.free)∈scope.names:=by
    rcases hx with e | e
    ·exact O7 e
    ·rcases O7 e with z | z
     ·exact .inr z
     ·exact .inr z
   rcases hm with z | z
   ·obtain ⟨c,hc⟩:=R5 (n:=s.heap.objs.size+1) z
    refine a0f (c:=c) ?_
    show (x,c)∈S1 _ _ _
    unfold S1;rw [t9];exact dJ _ hc
   ·obtain ⟨c,hc⟩:=U9 I h x z
    refine ⟨c,?_⟩
    show (S1 _ _ _).lookup x=_
    rw [a1v ⟨c,hc⟩ z (λ w=>by cases a5Z h z w)];exact hc
  cab:=λ x c hx e=>by
   have hx':scope.names.lookup x=some .cell:=by simpa using (show (scope.names.lookup x==some .cell)=true from hx)
   rcases F0 e with z | z
   ·exact dA (jC (hcl.empty _ _ z.1).2)
   ·cases a5Z h (J5 hx') z.2
  hd:=I.ok.hd
  frames:=I.ok.frames
  stk:=.inl rfl
  exf:=λ b hb=>by
   obtain ⟨o,e⟩:=ho b hb;refine ⟨Nat.ne_of_lt (Heap.lt_size e),λ x c e1=>?_⟩;rcases F0 e1 with z | z
   ·intro w
    have:=(hcl.empty _ _ z.1).2;rw [w] at this;exact absurd (aO (fU (Heap.lt_size e)) this) (bJ _)
   ·exact (hf b hb).2.2.2.2.1 x c z.1
  bs:=I.bs
  bsz:=aZ I.ok.bsz I.sz
  noex:=λ b o e hb=>by
   rcases (hf b hb).2.2.2.1 with z | z
   ·exact I.ok.noex b o e z
   ·exact absurd (aO (Heap.lt_size e) (aZ I.ok.bsz z)) (bJ _)
  exfs:=λ b hb hz=>by
   rcases aH.mp (I.stkSub b hz) with e | e
   ·exact (hf b hb).2.1 e
   ·exact (hf b hb).2.2.1 e
  funs:=I.stack
  frf:=I.stkFree }
 os:=rfl
 bare:=I.bare
 base:=Un.kept hkeep
 loc:=by
  refine ⟨_,hns,λ i x v e1 e2 _=>?_⟩;have hi:os.length<=i:=by
   refine hV λ hlt=>?_;unfold blkσ at e2;rw [bQ (by simpa using hlt)] at e2;rw [dG] at e2
   split at e2 <;> cases e2
  have e1':(fr.map λ j=>X.N.getD j "")[i - os.length]?=some x:=by
   rw [<- cA (l₁:=os) hi]; exact e1
  have e2':(fr.map λ j=>(σ[j]?).join)[i - os.length]?=some (some v):=by
   have z:(aJ os.length (none:Option V)).length<=i:=by simpa using hi
   unfold blkσ at e2;rw [cA z,bK] at e2;exact e2
  rw [aD] at e1' e2'
  cases q:fr[i - os.length]? with
  | none=>rw [q] at e1'; cases e1'
  | some j =>
   rw [q] at e1' e2';have hj:j∈fr:=bV q;obtain ⟨hjl,hjc,hjf⟩:=b2d h j hj;have ex:X.N.getD j ""=x:=aN e1';have ev:(σ[j]?).join=some v:=aN e2';have hN:X.N[j]?=some x:=by
    rw [<- ex,aI,aG hjl]; rfl
   have hσ:σ[j]?=some (some v):=by
    cases r:σ[j]? with
    | none=>rw [r] at ev; cases ev
    | some y=>rw [r] at ev; exact congrArg some ev
   rw [ex] at hjc hjf;obtain ⟨m,_,hl⟩:=I.loc;obtain ⟨u,r,lk⟩:=hl j x v hN hσ (.inr (.inl hjc));refine ⟨u,r,?_⟩;have kc:Env.kindOf X.env x=some .cell:=hjc;rcases lk with ⟨k1,_⟩ | ⟨_,c,ec,z⟩
   ·rw [kc] at k1; cases k1
   ·have hfm:=J5 hjf
    have ec':(S1 X.env scope s.heap.objs.size).lookup x=some c:=by
     rw [a1v ⟨c,ec⟩ hfm (λ w=>by cases a5Z h hfm w)]; exact ec
    refine .inr ⟨?_,c,ec',?_⟩
    ·have kk:∀ {names:List (Str×NameKind)},names.lookup x=some .free->(names.map λ (n,k)=>if (k==NameKind.free&&X.env.scope.kind==.function&&X.env.kindOf n==some .cell) then (n,NameKind.cell) else (n,k)).lookup x=some .cell:=by
      intro names
      induction names with
      | nil=>intro e; simp at e
      | cons p r ih =>
       obtain ⟨n,k⟩:=p;intro e;rw [cZ] at e;rw [aV];dsimp only
       cases hx:x==n with
       | true =>
        rw [hx] at e
        cases e;have hxn:x=n:=by simpa using hx
        subst hxn;rw [if_pos (by rw [I.ok.kind,kc]; rfl),cZ];simp
       | false =>
        rw [hx] at e
        by_cases hc:(k==NameKind.free&&X.env.scope.kind==.function&&X.env.kindOf n==some .cell)=true
        ·rw [if_pos hc,cZ,hx]; exact ih e
        ·rw [if_neg hc,cZ,hx]; exact ih e
     exact .inl (kk hjf)
    ·obtain ⟨o,ho',hd⟩:=z
     exact ⟨o,hkeep _ _ ho',hd⟩
 cell:=λ x c e=>by
  rcases F0 e with z | z
  ·exact ⟨_,(hcl.empty _ _ z.1).1⟩
  ·obtain ⟨v,o,ho',hd⟩:=I.cell x c z.1
   exact ⟨v,o,hkeep _ _ ho',hd⟩
 free:=I.hok.fresh (aE _)
 freeC:=λ x c e=>by
  rcases F0 e with z | z
  ·exact I.hok.fresh (dA (jC (hcl.empty _ _ z.1).2))
  ·exact I.freeC x c z.1
 pin:=λ p hp=>nomatch hp
 hok:=I.hok.kept hkeep
 len:=by simp [blkσ,frv,blk]
theorem Inv.unblock {pins:List (Addr×Obj)} {σ σ':St} {H H':Hp} {s s':Shared} {fp:List Addr} {C:Addr} (I:Inv X pins σ H s) (hf:∀ b∈fp,U1 X pins H b) (J:Inv (blk X os fr scope C fp s H) [] σ' H' s'):Inv X pins σ H' s' :=
 I.call' J.os J.base J.hok J.bare λ b hb=>⟨(hf b hb).2.2.2.1,(hf b hb).2.1,(hf b hb).2.2.2.2.1,(hf b hb).2.2.2.2.2⟩
theorem Inv.letgo {pins:List (Addr×Obj)} {σ:St} {H H₀:Hp} {s s₀:Shared} {C:Addr} {h':Heap} (I₀:Inv X pins σ₀ H₀ s₀) (I:Inv X pins σ H s) (hn:H C=none) (hC:s₀.heap.objs.size<=C) (hs:Heap.SameBut C s.heap h'):Inv X pins σ H { s with heap:=h' } :=
 I.turned (t':=s.toks) (it:=C) (λ b o hb e=>(hs.2 b hb).trans e) hn (cN (aO I₀.lt hC)) (.inr (aZ I₀.sz hC))
  (λ x c e z=>by
   obtain ⟨v,q⟩:=I₀.cell x c e;exact absurd (aO q.lt (by rw [z]; exact hC)) (bJ _))
  λ p hp z=>absurd (aO (Heap.lt_size (I₀.pin p hp).1) (by rw [z]; exact hC)) (bJ _)
end
def b2J (X:Cx) (ifs:List Expr) (t:TT):Prop :=
 ∀ (pins:List (Addr×Obj)) (s:Shared) (σ:St) (H:Hp) (Q:Bool->Hp->Prop),Inv X pins σ H s->t σ H Q →
  wpAny (model X.prog X.w) X.A (forIn ifs true λ c r=>if r=true then do let ok <- isTrue c X.env (eval c X.env); pure (gG ok) else pure (gG r)) (TP X pins σ Q) X.xe s
def a9E:TT:=λ _ H Q=>Q true H
theorem a4y {X:Cx}:b2J X [] a9E:=λ _ _ _ H _ I h=>wpAny_tests_nil ⟨H,I,h⟩
theorem a4P {X:Cx} {c:Expr} {t:TT} (h:PT X c t):b2J X [c] t:=λ pins s σ H Q I q=>wpAny_tests_one (h pins s σ H Q I q)
theorem a4e {M:Model} {A:Around} {E:Value->Shared->Prop} {s:Shared} {scope:Scope} {globals:Addr} {closure:List (Str×Addr)} {qual:Str} {env:Env} {Q:Env->Shared->Prop}
  (hQ:Q { scope,locals:=s.heap.objs.size,globals,cells:=cellsFrom (s.heap.objs.size+1) scope.names closure,qual,func:=none,code:=env.code,frame:=env.frame,builtins:=env.builtins } { s with heap:=pushCells (s.heap.push { cls:=.type "dict",data:=.dict #[] }) scope.names }) :
  wpAny M A (newFunctionEnv scope globals closure [] qual none .none (some env)) Q E s:=by
 simp only [newFunctionEnv,Option.isSome_some,if_true];refine wpAny_bind (wpAny_alloc ?_);refine wpAny_bind (wpAny_layCells _ (λ name kind cells=>by cases hkc:kind==NameKind.cell <;> simp [hkc]) _ _ _ _ ?_);rw [show ({ s with heap:=s.heap.push { cls:=.type "dict",data:=.dict #[] } }:Shared).heap.objs.size=s.heap.objs.size+1 from Heap.size_push ..];simp only [eV];exact wpAny_bind (wpAny_pure (wpAny_pure hQ))
theorem a3B {prog:Program} {w:World} {A:Around} {R:Result->Shared->Prop} {s:Shared} {elt target iter:Expr} {ifs:List Expr} {scope:Scope} {pos:Pos} {it acc:Value} {env:Env} (I:Nat->Shared->Prop)
  (turn:∀ n s,I n s->wpAny (model prog w) A (pyNext it) (λ r s₁=>match r with
   | none=>R (.ok .next) s₁
   | some v=>wpAny (model prog w) A (letOwnedTupleGo target it v) (λ _ s₀=>wpAny (model prog w) A (assign target env v) (λ _ s₂ =>
     wpAny (model prog w) A (forIn ifs true λ c r=>if r=true then do let ok <- isTrue c env (eval c env); pure (gG ok) else pure (gG r)) (λ ok s₃ =>
      if ok=true then wpAny (model prog w) A (eval elt env) (λ x s₄ =>
       wpAny (model prog w) A (call (.builtin "list.append") [acc,x]) (λ _ s₅=>∃ m,m<n/\I m s₅) (λ _ _=>False) s₄) (λ _ _=>False) s₃
      else ∃ m,m<n/\I m s₃) (λ _ _=>False) s₂) (λ _ _=>False) s₀) (λ _ _=>False) s₁) (λ _ _=>False) s)
  (n:Nat) (h:I n s) :
  codeAny (model prog w) A (.compLoop (.ListComp elt [⟨target,iter,ifs,0⟩] scope pos) 0 it acc env) R s:=by
 refine codeAny_loop rfl I (λ n s hI=>?_) n h
 show wpAny _ A ((compTurn (.ListComp elt [⟨target,iter,ifs,0⟩] scope pos) 0 it acc env).onRaise (λ x=>do noteFrame x env; theTreesLotGoes x)) _ _ s
 refine wpAny_noted ?_;rw [compTurn_list];refine wpAny_bind (wpAny_standAt (wpAny_bind (wpAny_mono (turn n s hI) (λ r s₁ h₁=>?_) λ _ _ h'=>h'.elim)))
 cases r with
 | none=>exact wpAny_pure h₁
 | some v =>
  refine wpAny_bind (wpAny_mono h₁ (λ _ s₀ h₀=>?_) λ _ _ h'=>h'.elim);refine wpAny_bind (wpAny_mono h₀ (λ _ s₂ h₂=>wpAny_bind (wpAny_mono h₂ (λ ok s₃ h₃=>?_) λ _ _ h'=>h'.elim)) λ _ _ h'=>h'.elim)
  cases ok with
  | false=>exact wpAny_pure ⟨rfl,h₃⟩
  | true =>
   exact wpAny_bind (wpAny_bind (wpAny_mono h₃ (λ x s₄ h₄=>wpAny_bind (wpAny_mono h₄ (λ _ s₅ h₅=>wpAny_pure (wpAny_pure ⟨rfl,h₅⟩)) λ _ _ h'=>h'.elim)) λ _ _ h'=>h'.elim))
def lcW (n:Nat) (fr:List Nat) (g:TG) (te:TE) (σ:St) (J:It) (H1:Hp) (p:Addr) (D:Hp->Prop):Prop :=
 ∃ W:Nat->Nat->List V->Hp->Prop,(∃ m,W 0 m [] (upd H1 p (.lst [])))/\∀ i m ys H,W i m ys H →
  (J.stop i H/\D H)\/(J.go i H/\∀ x H',J.yld i H x H'->g x (blkσ n fr σ) H' λ σ2 H2=>Wk (blkσ n fr σ) σ2/\te σ2 H2 λ v H3=>H3 p=some (.lst ys)/\ys.length<sizeLine/\∃ m',m'<m/\W (i+1) m' (ys++[v]) (upd H3 p (.lst (ys++[v]))))
def tLC (n:Nat) (fr:List Nat) (wi:TI) (g:TG) (te:TE):TE:=λ σ H Q=>wi σ H λ J H1=>∀ p,H1 p=none->lcW n fr g te σ J H1 p (Q (.ref p))
def lcI (n:Nat) (fr:List Nat) (g:TG) (tc:TT) (te:TE) (σ:St) (J:It) (H1:Hp) (p:Addr) (D:Hp->Prop):Prop :=
 ∃ W:Nat->Nat->List V->Hp->Prop,(∃ m,W 0 m [] (upd H1 p (.lst [])))/\∀ i m ys H,W i m ys H →
  (J.stop i H/\D H)\/(J.go i H/\∀ x H',J.yld i H x H'->g x (blkσ n fr σ) H' λ σ2 H2=>Wk (blkσ n fr σ) σ2/\tc σ2 H2 λ ok H2' =>
   if ok=true then te σ2 H2' λ v H3=>H3 p=some (.lst ys)/\ys.length<sizeLine/\∃ m',m'<m/\W (i+1) m' (ys++[v]) (upd H3 p (.lst (ys++[v]))) else ∃ m',m'<m/\W (i+1) m' ys H2')
def b3X (n:Nat) (fr:List Nat) (wi:TI) (g:TG) (tc:TT) (te:TE):TE:=λ σ H Q=>wi σ H λ J H1=>∀ p,H1 p=none->lcI n fr g tc te σ J H1 p (Q (.ref p))
theorem a4I {n:Nat} {fr:List Nat} {g:TG} {te:TE} {σ:St} {J:It} {H1:Hp} {p:Addr} {D:Hp->Prop}:lcI n fr g a9E te σ J H1 p D=lcW n fr g te σ J H1 p D:=by
 unfold lcI lcW a9E;simp only [if_true]
section
variable {X:Cx} {os:List Str} {fr:List Nat} {scope:Scope} {elt tg iter:Expr} {pos:Pos} {wi:TI} {g:TG} {te:TE}
theorem a0y {ifs:List Expr} {tc:TT} {pins:List (Addr×Obj)} {σ:St} {s2:Shared} {D:Addr->Hp->Prop} {itv:Value} {RR:Value->Addr->Result->Shared->Prop}
  (hc:X.calm=true) (hg:∀ C fp s₀ H₀,PG (blk X os fr scope C fp s₀ H₀) tg g) (ht:∀ C fp s₀ H₀,b2J (blk X os fr scope C fp s₀ H₀) ifs tc) (he:∀ C fp s₀ H₀,PE (blk X os fr scope C fp s₀ H₀) elt te)
  (hk:scope.kind=.function) (hok:a0z X.env.scope scope X.N fr=true)
  (h2:PIE X pins σ tg (λ J H1=>∀ p,H1 p=none->lcI os.length fr g tc te σ J H1 p (D p)) itv s2)
  (hRR:∀ p C s3 H3 s' H',Inv X pins σ H3 s3->s3.heap.objs.size=C->H' C=none->Inv X pins σ H' s'->(∃ m,s'.heap.Ns C m)->D p H'->RR (.ref p) C (.ok .next) s') :
  wpAny (model X.prog X.w) X.A (newList []) (λ acc s₃=>wpAny (model X.prog X.w) X.A (newFunctionEnv scope X.env.globals (clo X.env scope.names []) [] X.env.qual none .none (some X.env)) (λ cenv s₄ =>
   codeAny (model X.prog X.w) X.A (.compStart (.ListComp elt [⟨tg,iter,ifs,0⟩] scope pos) 0 itv acc { cenv with scope:=relabel scope X.env }) (RR acc cenv.locals) s₄) X.xe s₃) X.xe s2:=by
 obtain ⟨it,fp,tn,J,H2,e,I2,T,st2,f2,hR⟩:=h2;subst e;refine wpAny_newObj_type ?_;have fresh:H2 s2.heap.objs.size=none:=I2.fresh;obtain ⟨W,⟨m0,w0⟩,turn⟩:=hR s2.heap.objs.size fresh;have I3:Inv X pins σ (upd H2 s2.heap.objs.size (.lst [])) { s2 with heap:=s2.heap.push { cls:=.type "list",dict:=none,data:=.seq ([]:List Value).toArray } }:=I2.lnew (ys:=[]) (its:=[]) (t':=s2.toks) .nil (bU _);have obj2:=T.obj _ _ st2;have ne2:∀ b∈fp,b≠s2.heap.objs.size:=λ b hb=>by
  obtain ⟨o,e,_⟩:=obj2 b hb;exact bI (Heap.lt_size e)
 have st3:tn 0 (s2.heap.push { cls:=.type "list",dict:=none,data:=.seq ([]:List Value).toArray }):=T.keep _ _ _ st2 λ b hb o e=>Heap.get?_push_of_some _ e;have f3:∀ b∈fp,U1 X pins (upd H2 s2.heap.objs.size (.lst [])) b:=λ b hb=>⟨by rw [c9 (ne2 b hb)]; exact (f2 b hb).1,(f2 b hb).2⟩;generalize hs3:({ s2 with heap:=s2.heap.push { cls:=.type "list",dict:=none,data:=.seq ([]:List Value).toArray } }:Shared)=s3 at I3 ⊢;have st3':tn 0 s3.heap:=by rw [<- hs3]; exact st3
 generalize s2.heap.objs.size=p at *;refine a4e ?_;have hns:(pushCells (s3.heap.push { cls:=.type "dict",data:=.dict #[] }) scope.names).Ns s3.heap.objs.size λ _=>none:=(Heap.Ns.new s3.heap (.type "dict")).keeps (pushCells_keeps _ _);have hkeep:∀ b o,s3.heap.get? b=some o->(pushCells (s3.heap.push { cls:=.type "dict",data:=.dict #[] }) scope.names).get? b=some o:=λ b o e=>pushCells_keeps _ _ b o (Heap.get?_push_of_some _ e);have hcl:=cellsFrom_ok scope.names (s3.heap.push { cls:=.type "dict",data:=.dict #[] }) (s3.heap.objs.size+1) [] ⟨λ _ _ hm=>(nomatch hm),lX⟩ (by rw [Heap.size_push]; exact aE _);rw [Heap.size_push] at hcl;generalize pushCells (s3.heap.push { cls:=.type "dict",data:=.dict #[] }) scope.names=h₁ at hns hkeep hcl ⊢;have obj3:∀ b∈fp,∃ o,s3.heap.get? b=some o:=λ b hb=>by
  obtain ⟨o,e,_⟩:=T.obj _ _ st3' b hb;exact ⟨o,e⟩
 have J0:=I3.block (os:=os) (t':=s3.toks) hk hok f3 obj3 (h₁:=h₁) hns hkeep hcl;have ok0:=J0.ok;have fpY:∀ {H':Hp},(∀ b∈fp,H' b=none)->∀ b∈fp,U1 (blk X os fr scope s3.heap.objs.size fp s3 (upd H2 p (.lst []))) [] H' b:=λ hn b hb =>
  ⟨hn b hb,(ok0.exf b hb).1,ok0.exfs b hb,.inl hb,(ok0.exf b hb).2,λ q hq=>nomatch hq⟩
 have st4:tn 0 h₁:=T.keep _ _ _ st3' λ b hb o e=>hkeep b o e;have fr0:∀ b∈fp,upd H2 p (.lst []) b=none:=λ b hb=>(f3 b hb).1;have loop:∀ s4:Shared,s4={ s3 with heap:=h₁,toks:=s3.toks } →
   codeAny (model X.prog X.w) X.A (.compLoop (.ListComp elt [⟨tg,iter,ifs,0⟩] scope pos) 0 (.ref it) (.ref p) (compEnvC scope (S1 X.env scope s3.heap.objs.size) s3.heap.objs.size X.env)) (RR (.ref p) s3.heap.objs.size) s4:=by
  rintro s4 rfl;refine a3B (λ n s'=>∃ i ys H',Inv (blk X os fr scope s3.heap.objs.size fp s3 (upd H2 p (.lst []))) [] (blkσ os.length fr σ) H' s'/\tn i s'.heap/\(∀ b∈fp,H' b=none)/\W i n ys H') ?_ m0 ⟨0,[],_,J0,st4,fr0,w0⟩;rintro n s5 ⟨i,ys,H5,I5,st5,fr5,w5⟩;rcases turn i n ys H5 w5 with ⟨stop,qd⟩ | ⟨go,step⟩
  ·refine y9 (T.done (blk X os fr scope s3.heap.objs.size fp s3 (upd H2 p (.lst []))) rfl rfl rfl hc i [] s5 _ H5 (λ _ _=>False) I5 (fpY fr5) st5 stop) λ r s6 ⟨hr,I6⟩=>?_
   subst hr;exact hRR p _ s3 _ s6 H5 I3 rfl I6.free (I3.unblock f3 I6) (let ⟨m,hm,_⟩:=I6.loc; ⟨m,hm⟩) qd
  ·refine y9 (T.item (blk X os fr scope s3.heap.objs.size fp s3 (upd H2 p (.lst []))) rfl rfl rfl hc i [] s5 _ H5 (λ _ _=>False) I5 (fpY fr5) st5 go) λ r s6 ⟨u,hr,h6⟩=>?_
   subst hr;refine y9 h6 λ _ s7 ⟨x,H7,I7,r7,y7,st7,fr7⟩=>?_;have I7':=I7.pinned (fpY fr7) (T.obj _ _ st7);refine y9 (hg _ _ _ _ _ s7 _ H7 x u _ I7' r7 (step x H7 y7)) λ _ s8 ⟨σ8,H8,I8,wk8,q8⟩=>?_;have again:∀ {H':Hp} {s':Shared} {zs:List V} {m':Nat},Inv (blk X os fr scope s3.heap.objs.size fp s3 (upd H2 p (.lst []))) ([]++a2m fp s7.heap) σ8 H' s'->m'<n->W (i+1) m' zs H' →
     ∃ m,m<n/\∃ i ys H',Inv (blk X os fr scope s3.heap.objs.size fp s3 (upd H2 p (.lst []))) [] (blkσ os.length fr σ) H' s'/\tn i s'.heap/\(∀ b∈fp,H' b=none)/\W i m ys H':=λ {H' s' zs m'} J' hm' w'=>by
    refine ⟨m',hm',i+1,zs,H',(J'.weak wk8.1.symm λ i v e=>wk8.2 i v e).unpinned,T.keep _ _ _ st7 λ b hb o e=>(J'.pin (b,o) (bS _ (bS _ (V0 hb e)))).1,λ b hb=>?_,w'⟩;obtain ⟨o,e,d⟩:=T.obj _ _ st7 b hb;exact (J'.pin (b,o) (bS _ (bS _ (V0 hb e)))).2.1
   refine y9 (ht _ _ _ _ _ s8 σ8 H8 _ I8 q8) λ ok s9 ⟨H9,I9,q9⟩=>?_
   cases ok with
   | false =>
    obtain ⟨m',hm',w9⟩:=q9;exact again I9 hm' w9
   | true =>
    refine y9 (he _ _ _ _ _ s9 σ8 H9 _ I9 q9) λ y s10 ⟨v,H10,I10,r10,hp10,hz10,m',hm',w10⟩=>?_;refine y9 (J8 (X:=blk X os fr scope s3.heap.objs.size fp s3 (upd H2 p (.lst []))) _ s10 σ8 H10 (.ref p) [v] (.ref p) [y] (λ _ H'=>H'=upd H10 p (.lst (ys++[v]))) I10 rfl (.cons r10 .nil) ⟨p,ys,v,rfl,rfl,hp10,hz10,rfl⟩) λ _ s11 ⟨_,H11,I11,_,e11⟩=>?_;subst e11;exact again I11 hm' w10
 exact codeAny_compStart_list (loop _ rfl) (T.self _ 0 _ _ _ st4 (loop _ rfl))
theorem a1y (os:List Str) (fr:List Nat) (hc:X.calm=true) (hi:PI X tg iter wi) (hg:∀ C fp s₀ H₀,PG (blk X os fr scope C fp s₀ H₀) tg g) (he:∀ C fp s₀ H₀,PE (blk X os fr scope C fp s₀ H₀) elt te)
  (hk:scope.kind=.function:=by rfl) (hok:a0z X.env.scope scope X.N fr=true:=by rfl) (hs:∀ x,foldedSetIterable iter X.env x=pure x:=by intro _; rfl) :
  PE X (.ListComp elt [⟨tg,iter,[],0⟩] scope pos) (tLC os.length fr wi g te):=by
 intro pins s σ H Q I h;unfold tLC at h;simp only [<- a4I] at h;rw [eval_ListComp];refine wpAny_comprehension_free (use:=none) rfl hs (E5 (U9 I hok)) hk (λ x hx hl=>by have:=(Q4 hok x hx).1; rw [hl] at this; exact this) (y9 (hi pins s σ H _ I h) λ v s1 h1=>y9 h1 λ itv s2 h2=>?_);refine a0y (os:=os) (D:=λ p H'=>Q (.ref p) H') (RR:=λ acc C=>compPost (model X.prog X.w) X.A X.xe none (EP X pins σ Q) acc C) hc hg (λ _ _ _ _=>a4y) he hk hok h2 ?_;intro p C s3 H3 s' H' I3 eC hn I' ⟨m,hm⟩ q;refine ⟨m,hm,λ h' hs'=>⟨.ref p,H',I3.letgo I' hn (by omega) hs',rfl,q⟩⟩
theorem a9v {c:Expr} {tc:TT} (os:List Str) (fr:List Nat) (hc:X.calm=true) (hi:PI X tg iter wi) (hg:∀ C fp s₀ H₀,PG (blk X os fr scope C fp s₀ H₀) tg g) (ht:∀ C fp s₀ H₀,PT (blk X os fr scope C fp s₀ H₀) c tc) (he:∀ C fp s₀ H₀,PE (blk X os fr scope C fp s₀ H₀) elt te)
  (hk:scope.kind=.function:=by rfl) (hok:a0z X.env.scope scope X.N fr=true:=by rfl) (hs:∀ x,foldedSetIterable iter X.env x=pure x:=by intro _; rfl) :
  PE X (.ListComp elt [⟨tg,iter,[c],0⟩] scope pos) (b3X os.length fr wi g tc te):=by
 intro pins s σ H Q I h;rw [eval_ListComp];refine wpAny_comprehension_free (use:=none) rfl hs (E5 (U9 I hok)) hk (λ x hx hl=>by have:=(Q4 hok x hx).1; rw [hl] at this; exact this) (y9 (hi pins s σ H _ I h) λ v s1 h1=>y9 h1 λ itv s2 h2=>?_);refine a0y (os:=os) (D:=λ p H'=>Q (.ref p) H') (RR:=λ acc C=>compPost (model X.prog X.w) X.A X.xe none (EP X pins σ Q) acc C) hc hg (λ _ _ _ _=>a4P (ht _ _ _ _)) he hk hok h2 ?_;intro p C s3 H3 s' H' I3 eC hn I' ⟨m,hm⟩ q;refine ⟨m,hm,λ h' hs'=>⟨.ref p,H',I3.letgo I' hn (by omega) hs',rfl,q⟩⟩
theorem a0g {i:Nat} {x:Str} {pos' spos:Pos} (os:List Str) (fr:List Nat) (hN:X.N.Nodup) (hi':X.N[i]?=some x) (hx:X.env.scope.names.lookup x=some .local)
  (hc:X.calm=true) (hi:PI X tg iter wi) (hg:∀ C fp s₀ H₀,PG (blk X os fr scope C fp s₀ H₀) tg g) (he:∀ C fp s₀ H₀,PE (blk X os fr scope C fp s₀ H₀) elt te)
  (hsw:swapsWith (.ListComp elt [⟨tg,iter,[],0⟩] scope pos) (some (.Name x pos')) spos.line X.env=pure true:=by rfl)
  (hk:scope.kind=.function:=by rfl) (hok:a0z X.env.scope scope X.N fr=true:=by rfl) (hs:∀ x,foldedSetIterable iter X.env x=pure x:=by intro _; rfl) :
  PS X (.Assign [.Name x pos'] (.ListComp elt [⟨tg,iter,[],0⟩] scope pos) spos) (a7i (tLC os.length fr wi g te) (M7 i)):=by
 intro pins s σ H D I h;unfold a7i tLC at h;simp only [<- a4I] at h;rw [exec_Assign_Name_used _ _ _ _ hsw];refine wpAny_bind (wpAny_standAt (wpAny_bind ?_))
 show wpAny _ X.A (do let _ <- comprehension (.ListComp elt [⟨tg,iter,[],0⟩] scope pos) scope X.env _ (newList []) false (eval iter X.env) (some (assign (.Name x pos') X.env))) _ _ s
 refine wpAny_bind (wpAny_mono (wpAny_comprehension_free (use:=some (assign (.Name x pos') X.env)) (Q:=λ _ s'=>SP X pins D .next s') rfl hs (E5 (U9 I hok)) hk (λ x hx hl=>by have:=(Q4 hok x hx).1; rw [hl] at this; exact this)
  (y9 (hi pins s σ H _ I h) λ v s1 h1=>y9 h1 λ itv s2 h2=>?_)) (λ _ s' hq=>wpAny_pure (wpAny_pure hq)) λ _ _ e=>e)
 refine a0y (os:=os) (D:=λ p H'=>D.nx (σ.set i (some (.ref p))) H') (RR:=λ acc C=>compPost (model X.prog X.w) X.A X.xe (some (assign (.Name x pos') X.env)) (λ _ s'=>SP X pins D .next s') acc C) hc hg (λ _ _ _ _=>a4y) he hk hok h2 ?_;intro p C s3 H3 s' H' I3 eC hn I' ⟨m,hm⟩ q
 show wpAny _ X.A (assign (.Name x pos') X.env (.ref p)) _ _ _
 refine wpAny_assign_Name (a1k (v:=.ref p) I' hN hi' (.inl hx) rfl (λ s'' I'' ⟨a,hsa,ha⟩=>?_) (.inr hx));have hCa:C≠a:=by
  rcases ha with e | e
  ·rw [e]; exact cN (by rw [<- eC]; exact I3.lt)
  ·obtain ⟨v,z⟩:=I3.cell x a e
   exact cN (by rw [<- eC]; exact z.lt)
 exact ⟨m,hm.sameBut hsa hCa,λ h' hs'=>⟨_,H',I3.letgo I'' hn (by omega) hs',q⟩⟩
end
section
variable {X:Cx} {pins:List (Addr×Obj)} {σ:St} {H:Hp} {s:Shared} {a:Addr} {xs:List V}
abbrev SqA (K:W.Frag) (H:Hp) (a:Addr) (xs:List V):Prop:=SqL K H a xs\/SqT K H a xs
theorem a0G {h':Heap} {o:Obj} {h:Heap} (hk:∀ b x,b ∉ [h.objs.size]->(h.push o).get? b=some x->h'.get? b=some x):∀ b x,h.get? b=some x->h'.get? b=some x :=
 λ b x e=>hk b x (λ hm=>by rw [aY.mp hm] at e; exact bJ _ (Heap.lt_size e)) (Heap.get?_push_of_some _ e)
theorem X9 (hc:X.calm=true) (I:Inv X pins σ H s) (h:SqA X.K H a xs):∃ its:List Value,Vals xs its/\∀ (Q:Value->Shared->Prop) (E:Value->Shared->Prop),
  (∀ (o:Obj) (St:Nat->Heap->Prop),Walks X.prog X.w X.A.in1 s.heap.objs.size [s.heap.objs.size,a] [s.heap.objs.size] its.toArray.size (λ i v=>its.toArray[i]?=some v) St->St 0 (s.heap.push o) →
   (∀ b∈[s.heap.objs.size,a],b<(s.heap.push o).objs.size)->Q (.ref s.heap.objs.size) { s with heap:=s.heap.push o })->wpAny (model X.prog X.w) X.A.in1 (pyIter (.ref a)) Q E s:=by
 have hh:=I.ok.hd hc;have lt2:∀ (o:Obj),a<s.heap.objs.size->∀ b∈[s.heap.objs.size,a],b<(s.heap.push o).objs.size:=λ o hlt b hb=>by
  rw [Heap.size_push];rcases aH.mp hb with rfl | hb
  ·exact eR _
  ·rw [aY.mp hb]; exact fU hlt
 rcases h with h | h
 ·obtain ⟨its,r,p,hz⟩:=I.list h
  have hl:=p.isList;have hlt:a<s.heap.objs.size:=by obtain ⟨_,e,_⟩:=hl; exact Heap.lt_size e
  refine ⟨its,r,λ Q E hQ=>wpAny_pyIter_list hl ?_⟩;exact hQ _ _ (Walks.list (A:=X.A.in1) hh _ a (bI hlt) its.toArray) ⟨⟨_,Heap.get?_push_size _ rfl,rfl,rfl⟩,hl.push _⟩ (lt2 _ hlt)
 ·obtain ⟨its,r,p,hz⟩:=I.tuple h
  have hl:s.heap.IsTuple a its.toArray:=p;have hlt:a<s.heap.objs.size:=by obtain ⟨_,e,_⟩:=hl; exact Heap.lt_size e
  refine ⟨its,r,λ Q E hQ=>wpAny_pyIter_tuple hl ?_⟩;exact hQ _ _ (Walks.tuple (A:=X.A.in1) hh _ a (bI hlt) its.toArray) ⟨⟨_,Heap.get?_push_size _ rfl,rfl,rfl⟩,hl.push _⟩ (lt2 _ hlt)
theorem a3X {ys:List V} {its:List Value} (r:Vals ys its) {i:Nat} {v:Value} (e:its.toArray[i]?=some v):∃ y,ys[i]?=some y/\RelV y v:=by
 have e':its[i]?=some v:=by simpa using e
 cases q:ys[i]? with
 | none=>rw [r.none_of q] at e'; cases e'
 | some y =>
  obtain ⟨u,h1,h2⟩:=r.get q;rw [e'] at h1; cases h1;exact ⟨y,rfl,h2⟩
theorem a5g (bs:List Bool):((aF bs.length).all λ i=>(bs[i]?).getD true)=bs.all id:=by
 rw [fD,fT,fT];constructor
 ·intro h b hb
  obtain ⟨i,hi,e⟩:=hZ hb;have:=h i (cO.mpr hi);simp only [aG hi,dO,e] at this;exact this
 ·intro h i hi
  have hi':=cO.mp hi;simp only [aG hi',dO];exact h _ (cP hi')
theorem a5V (bs:List Bool):((aF bs.length).any λ i=>(bs[i]?).getD false)=bs.any id:=by
 rw [fD,iA,iA];constructor
 ·rintro ⟨i,hi,e⟩
  have hi':=cO.mp hi;simp only [aG hi',dO] at e;exact ⟨_,cP hi',e⟩
 ·rintro ⟨b,hb,e⟩
  obtain ⟨i,hi,rfl⟩:=hZ hb;exact ⟨i,cO.mpr hi,by simp only [aG hi,dO]; exact e⟩
end
section
variable {X:Cx}
theorem a8r (hc:X.calm=true):G4 X (.builtin "all") (λ vs H Q=>∃ (a:Addr) (bs:List Bool),vs=[.ref a]/\SqA X.K H a (bs.map V.bl)/\Q (.bl (bs.all id)) H):=by
 intro pins s σ H vs us Q I r h;obtain ⟨a,bs,rfl,hs,q⟩:=h;obtain ⟨u,rfl,ru⟩:=P6 r
 cases ru;obtain ⟨its,rv,walk⟩:=X9 hc I hs;have hlen:its.toArray.size=bs.length:=by rw [aU,<- rv.length,aA]
 refine call_all_walk (walk _ _ λ o St W st fp=>?_);refine ⟨_,_,_,_,_,_,λ i=>(bs[i]?).getD true,rfl,W,st,λ i v s' Q' E' hP hQ=>?_,λ h' tk hk=>?_⟩
 ·obtain ⟨y,e,ry⟩:=a3X rv hP
  rw [aD] at e
  cases eb:bs[i]? with
  | none=>rw [eb] at e; cases e
  | some b =>
   rw [eb] at e; cases e
   cases ry;simp only [eb,dO] at hQ;exact wpAny_truthy_bool hQ
 ·rw [hlen,a5g bs]
  exact ⟨.bl _,H,I.kept (a0G hk),rfl,q⟩
theorem a9y (hc:X.calm=true):G4 X (.builtin "any") (λ vs H Q=>∃ (a:Addr) (bs:List Bool),vs=[.ref a]/\SqA X.K H a (bs.map V.bl)/\Q (.bl (bs.any id)) H):=by
 intro pins s σ H vs us Q I r h;obtain ⟨a,bs,rfl,hs,q⟩:=h;obtain ⟨u,rfl,ru⟩:=P6 r
 cases ru;obtain ⟨its,rv,walk⟩:=X9 hc I hs;have hlen:its.toArray.size=bs.length:=by rw [aU,<- rv.length,aA]
 refine call_any_walk (walk _ _ λ o St W st fp=>?_);refine ⟨_,_,_,_,_,_,λ i=>(bs[i]?).getD false,rfl,W,st,λ i v s' Q' E' hP hQ=>?_,λ h' tk hk=>?_⟩
 ·obtain ⟨y,e,ry⟩:=a3X rv hP
  rw [aD] at e
  cases eb:bs[i]? with
  | none=>rw [eb] at e; cases e
  | some b =>
   rw [eb] at e; cases e
   cases ry;simp only [eb,dO] at hQ;exact wpAny_truthy_bool hQ
 ·rw [hlen,a5V bs]
  exact ⟨.bl _,H,I.kept (a0G hk),rfl,q⟩
theorem a0T {ns:List Int} {its:List Value} (rv:Vals (ns.map V.int) its):∀ (i:Nat) (v:Value),its.toArray[i]?=some v->∃ t,v=Value.int (ns.getD i 0) t:=λ i v hP=>by
 obtain ⟨y,e,ry⟩:=a3X rv hP;rw [aD] at e
 cases en:ns[i]? with
 | none=>rw [en] at e; cases e
 | some n =>
  rw [en] at e; cases e;obtain ⟨t,rfl⟩:=ry;exact ⟨t,by rw [aI,en]; rfl⟩
theorem a1q (ns:List Int):∀ j,preSum (λ i=>ns.getD i 0) j=(ns.take j).sum
 | 0=>by simp [preSum]
 | j+1=>by
  rw [preSum,a1q ns j]
  by_cases hj:j<ns.length
  ·rw [jD hj,List.sum_append,aI,aG hj]; simp
  ·rw [eW (by omega),eW (by omega),aI,bL (by omega)]; simp
theorem a9Y (hc:X.calm=true):G4 X (.builtin "sum") (λ vs H Q=>∃ (a:Addr) (ns:List Int),vs=[.ref a]/\SqA X.K H a (ns.map V.int)/\Q (.int ns.sum) H):=by
 intro pins s σ H vs us Q I r h;obtain ⟨a,ns,rfl,hs,q⟩:=h;obtain ⟨u,rfl,ru⟩:=P6 r
 cases ru;obtain ⟨its,rv,walk⟩:=X9 hc I hs;have hlen:its.toArray.size=ns.length:=by rw [aU,<- rv.length,aA]
 refine call_sum_walkG (walk _ _ λ o St W st fp=>?_);refine ⟨_,_,_,_,_,_,λ i=>ns.getD i 0,rfl,W,st,fp,a0T rv,λ h' tk t' hk=>?_⟩;rw [hlen,a1q,eW (aE _)];exact ⟨.int _,H,I.kept (a0G hk),⟨_,rfl⟩,q⟩
theorem a3f {l:List Int} {j:Nat} (h:j<l.length):l.getD j 0∈l:=by
 rw [aI,aG h]; exact cP h
theorem a2U {l:List Int} {a:Int} (h:a∈l):∃ j,j<l.length/\l.getD j 0=a:=by
 obtain ⟨j,hj,e⟩:=hZ h;exact ⟨j,hj,by rw [aI,aG hj]; exact e⟩
theorem a2N (hc:X.calm=true):G4 X (.builtin "max") (λ vs H Q=>∃ (a:Addr) (ns:List Int),vs=[.ref a]/\SqA X.K H a (ns.map V.int)/\ns≠[]/\∀ M,M∈ns->(∀ n∈ns,n<=M)->Q (.int M) H):=by
 intro pins s σ H vs us Q I r h;obtain ⟨a,ns,rfl,hs,hne,q⟩:=h;obtain ⟨u,rfl,ru⟩:=P6 r
 cases ru;obtain ⟨its,rv,walk⟩:=X9 hc I hs;have hlen:its.toArray.size=ns.length:=by rw [aU,<- rv.length,aA]
 have hpos:0<ns.length:=iB.mpr hne;refine call_max_walk (walk _ _ λ o St W st fp=>?_);refine ⟨_,_,_,_,_,_,_,rfl,W,st,fp,by rw [hlen]; exact hpos,CmpOf.ints_gt (λ i=>ns.getD i 0) (a0T rv),λ v h' tk hP hk=>?_⟩;obtain ⟨h1,h2⟩:=argBest_gt (λ i=>ns.getD i 0) (its.toArray.size - 1);obtain ⟨t,rfl⟩:=a0T rv _ v hP;refine ⟨.int _,H,I.kept (a0G hk),⟨_,rfl⟩,q _ (a3f (by omega)) λ n hn=>?_⟩;obtain ⟨j,hj,rfl⟩:=a2U hn;exact h2 j (by omega)
theorem a3a (hc:X.calm=true):G4 X (.builtin "min") (λ vs H Q=>∃ (a:Addr) (ns:List Int),vs=[.ref a]/\SqA X.K H a (ns.map V.int)/\ns≠[]/\∀ M,M∈ns->(∀ n∈ns,M<=n)->Q (.int M) H):=by
 intro pins s σ H vs us Q I r h;obtain ⟨a,ns,rfl,hs,hne,q⟩:=h;obtain ⟨u,rfl,ru⟩:=P6 r
 cases ru;obtain ⟨its,rv,walk⟩:=X9 hc I hs;have hlen:its.toArray.size=ns.length:=by rw [aU,<- rv.length,aA]
 have hpos:0<ns.length:=iB.mpr hne;refine call_min_walk (walk _ _ λ o St W st fp=>?_);refine ⟨_,_,_,_,_,_,_,rfl,W,st,fp,by rw [hlen]; exact hpos,CmpOf.ints_lt (λ i=>ns.getD i 0) (a0T rv),λ v h' tk hP hk=>?_⟩;obtain ⟨h1,h2⟩:=argBest_lt (λ i=>ns.getD i 0) (its.toArray.size - 1);obtain ⟨t,rfl⟩:=a0T rv _ v hP;refine ⟨.int _,H,I.kept (a0G hk),⟨_,rfl⟩,q _ (a3f (by omega)) λ n hn=>?_⟩;obtain ⟨j,hj,rfl⟩:=a2U hn;exact h2 j (by omega)
theorem W2:G4 X (.builtin "isinstance") (λ vs H Q=>∃ x t n b,vs=[x,.ty n]/\a0Y X.K H x t/\W.kitOne X.K t (.type n)=some b/\Q (.bl b) H):=by
 intro pins s σ H vs us Q I r h;obtain ⟨x,t,n,b,rfl,ty,e,q⟩:=h;obtain ⟨u,v,rfl,ru,rv⟩:=a1x r
 cases rv;exact a7G I ru ty e λ tk=>⟨.bl b,H,I.tok _,rfl,q⟩
end
mutual
inductive Dp (K:W.Frag) (H:Hp):V->PyData->Prop
 | non:Dp K H .non .none
 | bl (b:Bool):Dp K H (.bl b) (.bool b)
 | int (i:Int):Dp K H (.int i) (.int i)
 | str (x:Str):Dp K H (.str x) (.str x)
 | lst {a:Addr} {xs:List V} {ds:List PyData}:SqL K H a xs->Dps K H xs ds->Dp K H (.ref a) (.list ds)
 | tup {a:Addr} {xs:List V} {ds:List PyData}:SqT K H a xs->Dps K H xs ds->Dp K H (.ref a) (.tuple ds)
inductive Dps (K:W.Frag) (H:Hp):List V->List PyData->Prop
 | nil:Dps K H [] []
 | cons {x:V} {xs:List V} {d:PyData} {ds:List PyData}:Dp K H x d->Dps K H xs ds->Dps K H (x::xs) (d::ds)
end
theorem Same.tseq {K:W.Frag} {H H':Hp} {a:Addr} {xs:List V} (e:Same H H') (h:SqT K H a xs):SqT K H' a xs:=by
 rcases h with (h | ⟨o,h⟩) | h
 ·exact .inl (.inl (e _ _ h))
 ·exact .inl (.inr ⟨o,e _ _ h⟩)
 ·exact .inr h
mutual
theorem Dp.same {K:W.Frag} {H H':Hp} (e:Same H H'):∀ {x:V} {d:PyData},Dp K H x d->Dp K H' x d
 | _,_,.non=>.non
 | _,_,.bl b=>.bl b
 | _,_,.int i=>.int i
 | _,_,.str x=>.str x
 | _,_,.lst h r=>.lst (e.seq h) (Dps.same e r)
 | _,_,.tup h r=>.tup (e.tseq h) (Dps.same e r)
theorem Dps.same {K:W.Frag} {H H':Hp} (e:Same H H'):∀ {xs:List V} {ds:List PyData},Dps K H xs ds->Dps K H' xs ds
 | _,_,.nil=>.nil
 | _,_,.cons a r=>.cons (Dp.same e a) (Dps.same e r)
end
section
variable {X:Cx} {pins:List (Addr×Obj)} {σ:St} {H:Hp} {s:Shared}
mutual
theorem Dp.reads (I:Inv X pins σ H s):∀ {x:V} {d:PyData},Dp X.K H x d->∀ {u:Value},RelV x u->∃ as,Reads s.heap u d as
 | _,_,.non,u,r=>by cases r; exact ⟨_,.none⟩
 | _,_,.bl b,u,r=>by cases r; exact ⟨_,.bool b⟩
 | _,_,.int i,u,r=>by obtain ⟨t,rfl⟩:=r; exact ⟨_,.int i t⟩
 | _,_,.str x,u,r=>by obtain ⟨t,rfl⟩:=r; exact ⟨_,.str x t⟩
 | _,_,.lst h q,u,r=>by
  cases r;obtain ⟨its,rv,p,hz⟩:=I.list h;obtain ⟨o,e1,e2,n,e3⟩:=p.isList;obtain ⟨as,ra⟩:=Dps.reads I q rv;exact ⟨_,.list e1 e2 e3 (by simpa using ra)⟩
 | _,_,.tup h q,u,r=>by
  cases r;obtain ⟨its,rv,p,hz⟩:=I.tuple h;obtain ⟨o,e1,e2,n,e3⟩:=(show s.heap.IsTuple _ its.toArray from p);obtain ⟨as,ra⟩:=Dps.reads I q rv;exact ⟨_,.tuple e1 e2 e3 (by simpa using ra)⟩
theorem Dps.reads (I:Inv X pins σ H s):∀ {xs:List V} {ds:List PyData},Dps X.K H xs ds->∀ {us:List Value},Vals xs us->∃ as,ReadsAll s.heap us ds as
 | _,_,.nil,us,r=>by cases r; exact ⟨_,.nil⟩
 | _,_,.cons a q,us,r=>by
  cases r with
  | cons r1 r2 =>
   obtain ⟨as,h1⟩:=Dp.reads I a r1;obtain ⟨bs,h2⟩:=Dps.reads I q r2;exact ⟨_,.cons h1 h2⟩
end
end
section
variable {X:Cx}
def b4X (K:W.Frag):R2:=λ x y H Q=>∃ d e,Dp K H x d/\Dp K H y e/\d.canLay0=true/\e.canLay0=true/\min d.depth e.depth<=60/\Q (.bl (PyData.eqv d e)) H
def b4o (K:W.Frag):R2:=λ x y H Q=>∃ d e,Dp K H x d/\Dp K H y e/\d.canLay0=true/\e.canLay0=true/\min d.depth e.depth<=60/\Q (.bl (!PyData.eqv d e)) H
theorem b2t {k:Nat} (hr:Room k X.A):OpR X (compareOp .Eq) (b4X X.K):=by
 intro pins s σ H x y v u Q I rx ry h;obtain ⟨d,e,h1,h2,c1,c2,hd,q⟩:=h;obtain ⟨as,r1⟩:=h1.reads I rx;obtain ⟨bs,r2⟩:=h2.reads I ry;exact SeqAt.compareEq_reads r1 r2 c1 c2 (by have:=hr.units; omega) ⟨.bl _,H,I,rfl,q⟩
theorem X4 {k:Nat} (hr:Room k X.A):OpR X (compareOp .NotEq) (b4o X.K):=by
 intro pins s σ H x y v u Q I rx ry h;obtain ⟨d,e,h1,h2,c1,c2,hd,q⟩:=h;obtain ⟨as,r1⟩:=h1.reads I rx;obtain ⟨bs,r2⟩:=h2.reads I ry;exact SeqAt.compareNe_reads r1 r2 c1 c2 (by have:=hr.units; omega) ⟨.bl _,H,I,rfl,q⟩
end
theorem Same.new {H:Hp} {p:Addr} (h:H p=none) (o:HO):Same H (upd H p o):=λ b u q=>by rw [c9 (d9 q h)]; exact q
theorem Wk.set {n:Nat} {fr:List Nat} {σ:St} {i:Nat} {v:V} (hi:i<n):Wk (blkσ n fr σ) ((blkσ n fr σ).set i (some v)):=by
 refine ⟨by simp,λ j w e=>?_⟩
 by_cases hj:j=i
 ·subst hj
  unfold blkσ at e;rw [bQ (by simpa using hi),dG] at e
  split at e <;> cases e
 ·rw [bC (aQ hj)]; exact e
structure a7V (J:It) (H1:Hp) (xs:List V):Prop where
 go:∀ i H,Same H1 H->i<xs.length->J.go i H
 yld:∀ i H x H',Same H1 H->i<xs.length->J.yld i H x H'->H'=H/\xs[i]?=some x
 stop:∀ H,Same H1 H->J.stop xs.length H
theorem K1 {K:W.Frag} {a:Addr} {xs:List V} {H1:Hp} (h:SqL K H1 a xs):a7V (Itl K a) H1 xs :=
 ⟨λ i H e hi=>⟨xs,xs[i],e.seq h,aG hi⟩,λ i H x H' e hi y=>⟨y.1,y.2 xs (e.seq h)⟩,λ H e=>⟨xs,e.seq h,aE _⟩⟩
theorem a2E {K:W.Frag} {a:Addr} {xs:List V} {H1:Hp} (h:SqT K H1 a xs):a7V (Itt K a) H1 xs :=
 ⟨λ i H e hi=>⟨xs,xs[i],e.tseq h,aG hi⟩,λ i H x H' e hi y=>⟨y.1,y.2 xs (e.tseq h)⟩,λ H e=>⟨xs,e.tseq h,aE _⟩⟩
theorem a5f {lo:Int} {n:Nat} {H1:Hp}:a7V (Itr lo n) H1 ((aF n).map λ (i:Nat)=>V.int (lo+(i:Int))) :=
 ⟨λ i H e hi=>(show i<n from by simpa using hi),λ i H x H' e hi y=>⟨y.1,by rw [y.2,aD,bF (by simpa using hi)]; rfl⟩,λ H e=>by simp [Itr]⟩
theorem Paired.app {α β:Type} {F:α->β->Prop}:∀ {a c:List α} {b d:List β},Paired F a b->Paired F c d->Paired F (a++c) (b++d)
 | _,_,_,_,.nil,s=>s
 | _,_,_,_,.cons r t,s=>.cons r (Paired.app t s)
section
variable {xs:List V} {J:It} {n:Nat} {fr:List Nat} {g:TG} {te:TE} {σ:St} {H1:Hp} {p:Addr} {D:Hp->Prop}
theorem W7 (hJ:a7V J H1 xs) (hp:H1 p=none) (hz:xs.length<sizeLine) (F:V->V)
  (step:∀ (i:Nat) x H (N:VK),xs[i]?=some x->Same H1 H->N (F x) H->g x (blkσ n fr σ) H λ σ2 H2=>Wk (blkσ n fr σ) σ2/\te σ2 H2 N)
  (hd:D (upd H1 p (.lst (xs.map F)))):lcW n fr g te σ J H1 p D:=by
 refine ⟨λ i m ys H=>m=xs.length - i/\i<=xs.length/\ys=(xs.take i).map F/\H=upd H1 p (.lst ys),⟨xs.length,by simp,bU _,by simp,rfl⟩,?_⟩;rintro i m ys H ⟨rfl,hi,rfl,rfl⟩;have e:=Same.new (o:=.lst ((xs.take i).map F)) hp
 by_cases hlt:i<xs.length
 ·refine .inr ⟨hJ.go i _ e hlt,λ x H' y=>?_⟩
  obtain ⟨rfl,hx⟩:=hJ.yld i _ x H' e hlt y;refine step i x _ _ hx e ⟨upd_same,by rw [aA,bP]; omega,xs.length - (i+1),by omega,rfl,hlt,?_,R0⟩;rw [jE,hx,aW]; rfl
 ·have:i=xs.length:=by omega
  subst this;refine .inl ⟨hJ.stop _ e,?_⟩;rw [eW (aE _)]; exact hd
theorem a3V (hJ:a7V J H1 xs) (hp:H1 p=none) (hz:xs.length<sizeLine) (R:Nat->V->Hp->Prop) (hR:∀ i y H H',R i y H->(∀ b o,b≠p->H b=some o->H' b=some o)->R i y H')
  (step:∀ (i:Nat) x H ys (N:VK),xs[i]?=some x->Same H1 H->H p=some (.lst ys)->(∀ v H3,Same H H3->R i v H3->N v H3)->g x (blkσ n fr σ) H λ σ2 H2=>Wk (blkσ n fr σ) σ2/\te σ2 H2 N)
  (hd:∀ ys H,Same H1 H->H p=some (.lst ys)->ys.length=xs.length->(∀ i y,ys[i]?=some y->R i y H)->D H):lcW n fr g te σ J H1 p D:=by
 refine ⟨λ i m ys H=>m=xs.length - i/\i<=xs.length/\Same H1 H/\H p=some (.lst ys)/\ys.length=i/\∀ j y,ys[j]?=some y->R j y H,⟨xs.length,by simp,bU _,Same.new hp _,upd_same,rfl,λ j y e=>by simp at e⟩,?_⟩;rintro i m ys H ⟨rfl,hi,e,hH,len,pr⟩
 by_cases hlt:i<xs.length
 ·refine .inr ⟨hJ.go i _ e hlt,λ x H' y=>?_⟩
  obtain ⟨rfl,hx⟩:=hJ.yld i _ x H' e hlt y;refine step i x _ ys _ hx e hH λ v H3 s3 r3=>⟨s3 _ _ hH,by omega,xs.length - (i+1),by omega,rfl,hlt,λ b o q=>?_,upd_same,by rw [aM,len]; rfl,λ j y ey=>?_⟩
  ·rw [c9 (d9 q hp)]; exact s3 _ _ (e _ _ q)
  ·have up:∀ b o,b≠p->H3 b=some o->upd H3 p (.lst (ys++[v])) b=some o:=λ b o hb q=>by rw [c9 hb]; exact q
   by_cases hj:j<ys.length
   ·rw [bQ hj] at ey
    exact hR j y _ _ (pr j y ey) λ b o hb q=>up b o hb (s3 _ _ q)
   ·rw [cA (by omega)] at ey
    have hj':j - ys.length=0:=by
     cases q:j - ys.length with
     | zero=>rfl
     | succ k=>rw [q] at ey; simp at ey
    rw [hj'] at ey;have:j=i:=by omega
    subst this;simp at ey;subst ey;exact hR j v _ _ r3 up
 ·have:i=xs.length:=by omega
  subst this;exact .inl ⟨hJ.stop _ e,hd ys H e hH len pr⟩
end
theorem Inv.turnedLaid {X:Cx} {pins:List (Addr×Obj)} {σ:St} {H:Hp} {s:Shared} {h':Heap} {fp:List Addr} {T:Addr} {xs:List V} {its:List Value} (I:Inv X pins σ H s) (hf:∀ b∈fp,U1 X pins H b)
  (k:∀ b o,b ∉ fp->s.heap.get? b=some o->h'.get? b=some o) (ho:∀ b∈fp,∃ o,h'.get? b=some o) (hT:s.heap.objs.size<=T) (hz:xs.length<=sizeLine) (hv:Vals xs its) (ht:IsTup h' T its.toArray) :
  Inv X pins σ (upd H T (.tup xs)) { s with heap:=h' }:=by
 have hTn:H T=none:=I.hok.fresh hT;have neT:∀ b o,s.heap.get? b=some o->b≠T:=λ b o e=>bI (aO (Heap.lt_size e) hT);refine I.step (g':=s.gens) (t':=s.toks) (d':=s.drawn) (ch:=fp) (λ b hb=>⟨(hf b hb).2.2.2.1,(hf b hb).2.1,(hf b hb).2.2.2.2.1,(hf b hb).2.2.2.2.2⟩) (λ b o _ _ hc e _=>k b o hc e) (λ b o _ _ hc e _=>⟨o.slots,k b o hc e⟩)
  (λ b o hc e n=>by rw [c9 (neT b o e)]; exact n) (λ b o hc e=>⟨o,k b o hc e⟩) (λ b ys e=>by rw [c9 (d9 e hTn)]; exact e) (λ b o u e=>by rw [c9 (d9 e hTn)]; exact e) (λ b ps e=>⟨#[],by rw [c9 (d9 e hTn),e]; simp⟩)
  (λ m hm=>?_) (λ b u e=>?_) I.bare
 ·obtain ⟨o,es,ep,e1,r⟩:=hm
  exact ⟨o,es,ep,k _ o (λ z=>(hf _ z).2.1 rfl) e1,r⟩
 ·by_cases hb:b=T
  ·subst hb; rw [upd_same] at e; cases e
   exact ⟨hz,its,hv,ht⟩
  ·rw [c9 hb] at e
   have nit:∀ c u,H c=some u->c ∉ fp:=λ c u q z=>by rw [(hf c z).1] at q; cases q
   refine (I.hok b u e).stay (λ c v hc q=>k c v ?_ q) (λ c q=>by rw [c9 (d9 q hTn)]; exact q) λ c ys q=>by rw [c9 (d9 q hTn)]; exact q
   rcases hc with z | z
   ·rw [z]; exact nit b u e
   ·exact nit c _ z
theorem Inv.turnedAll {X:Cx} {pins:List (Addr×Obj)} {σ:St} {H:Hp} {s:Shared} {h':Heap} {fp:List Addr} (I:Inv X pins σ H s) (hf:∀ b∈fp,U1 X pins H b)
  (k:∀ b o,b ∉ fp->s.heap.get? b=some o->h'.get? b=some o):Inv X pins σ H { s with heap:=h' }:=by
 refine I.step (g':=s.gens) (t':=s.toks) (d':=s.drawn) (ch:=fp) (λ b hb=>⟨(hf b hb).2.2.2.1,(hf b hb).2.1,(hf b hb).2.2.2.2.1,(hf b hb).2.2.2.2.2⟩) (λ b o _ _ hc e _=>k b o hc e) (λ b o _ _ hc e _=>⟨o.slots,k b o hc e⟩)
  (λ b o hc e n=>n) (λ b o hc e=>⟨o,k b o hc e⟩) (λ b ys e=>e) (λ b o u e=>e) (λ b ps e=>⟨#[],by rw [e]; simp⟩)
  (λ m hm=>?_) (λ b u e=>?_) I.bare
 ·obtain ⟨o,es,ep,e1,r⟩:=hm
  exact ⟨o,es,ep,k _ o (λ z=>(hf _ z).2.1 rfl) e1,r⟩
 ·have nit:∀ c u,H c=some u->c ∉ fp:=λ c u q z=>by rw [(hf c z).1] at q; cases q
  refine (I.hok b u e).stay (λ c v hc q=>k c v ?_ q) (λ c q=>q) λ c ys q=>q;rcases hc with z | z
  ·rw [z]; exact nit b u e
  ·exact nit c _ z
theorem a8Z (n l1 l2:Nat) (h1:l1<n) (h2:l2<n):ZipApart (n+4) (n+2) (n+3) n (n+1) l1 l2 where
 TIz:=(by omega:(n+2:Nat)≠n+4)
 TOz:=(by omega:(n+3:Nat)≠n+4)
 i1z:=(by omega:(n:Nat)≠n+4)
 i2z:=(by omega:(n+1:Nat)≠n+4)
 TITO:=(by omega:(n+2:Nat)≠n+3)
 TIi1:=(by omega:(n+2:Nat)≠n)
 TIi2:=(by omega:(n+2:Nat)≠n+1)
 TOi1:=(by omega:(n+3:Nat)≠n)
 TOi2:=(by omega:(n+3:Nat)≠n+1)
 i12:=(by omega:(n:Nat)≠n+1)
 l1z:=(by omega:(l1:Nat)≠n+4)
 l1TO:=(by omega:(l1:Nat)≠n+3)
 l1i1:=(by omega:(l1:Nat)≠n)
 l1i2:=(by omega:(l1:Nat)≠n+1)
 l2z:=(by omega:(l2:Nat)≠n+4)
 l2TO:=(by omega:(l2:Nat)≠n+3)
 l2i1:=(by omega:(l2:Nat)≠n)
 l2i2:=(by omega:(l2:Nat)≠n+1)
section
variable {X:Cx}
def b4B (i j:Int):Prop:=0<j/\j<2 ^ 8000
theorem log2_lt {y:Nat} (h:y<2 ^ 8000):y.log2<9000:=by
 by_cases h0:y=0
 ·subst h0; decide
 ·exact aO ((iC h0).mpr h) (by decide)
theorem a2A:OpR X (binaryOp .FloorDiv) (rI b4B λ i j=>.int (i / j)):=opI λ i j _ _ _ _ _ hc q=>by
 have h0:j≠0:=by have:=hc.1; omega
 have e:i.fdiv j=i / j:=iT i (bG hc.1);refine floordiv_int h0 (by rw [e]; exact q) (.inl (PyProof.noPylong_of_log2 (log2_lt ?_)));have:=hc.1;have:=hc.2;omega
def Big (n:Nat) (i:Int):Prop:=i.natAbs<2 ^ n
def b4f (i j:Int):Prop:=Big 1000000 i/\Big 1000000 j
theorem a7d {i:Int} (h:Big 1000000 i):Builtin.Int.intBits i<=2 ^ 20:=by
 unfold Builtin.Int.intBits
 split
 ·exact bU _
 ·rename_i h0
  have h0':i.natAbs≠0:=by
   intro z;exact h0 (by rw [Int.natAbs_eq_zero.mp z]; rfl)
  have:=(iC h0').mpr h;omega
theorem a1J:OpR X (binaryOp .Mult) (rI b4f λ i j=>.int (i*j)):=opI λ _ _ _ _ _ _ _ hc q=>mul_int q (IntMulOk.of_bits (a7d hc.1) (a7d hc.2))
end
theorem Same.write {H H':Hp} {p:Addr} {o:HO} (e:Same H H') (hp:H p=none):Same H (upd H' p o):=λ b u q=>by rw [c9 (d9 q hp)]; exact e b u q
section
variable {xs:List V} {J:It} {fr:List Nat} {tc:TT} {σ:St} {H1:Hp} {p:Addr} {D:Hp->Prop}
end
end L2
namespace L2
open PySem PySem.W
theorem X2:typeOf (.builtin "object.__class__")=pure (.type "getset_descriptor"):=by kernel_rfl
theorem a3P:(".".intercalate ("object.__class__".cutAt '.').dropLast)="object":=by
 have e0:"object.__class__".cutAt '.'=["object","__class__"]:=by decide +kernel
 rw [e0];decide +kernel
section
variable {prog:Program} {w:World} {A:Around} {E:Value->Shared->Prop} {s:Shared} {K:Frag} {x C D:Addr} {ox:Obj}
theorem b0g {R:Result->Shared->Prop} (X:K.In s.heap) (hx:s.heap.get? x=some ox) (hc:ox.cls=.ref D) (hm:mroIn K D (.type "object")=some true) (hq:R (.ok (.ret (.ref D))) s) :
  codeAny (model prog w) A (.call (.builtin "getset_descriptor.__get__") ⟨[.builtin "object.__class__",.ref x,.ref D],[]⟩) R s:=by
 obtain ⟨h,g,d,t,os⟩:=s;have L1:=looks_mroIn (M:=model prog w) X hm;have hT5:(⟨h,g,d,t,os⟩:Shared).TypeIs (.builtin "object.__class__") "getset_descriptor":=X2;refine codeAny_call_builtin F.slot_gs_get.plain F.entry_gs_get (F.slot_gs_get.check _ _ _ _ _ _ _ _ hT5 (F.args_gs_get _ _ _) ?_)
 repeat (any_goals (first | assumption | (with_reducible refine wpAny_loadPart_at hx ?_; rw [hc]) | with_reducible refine L1.at ?_ | wp_step))
 rw [a3P];refine L1.at ?_
 repeat (any_goals (first | assumption | wp_step))
 refine ⟨Code.quiet_builtin _ (by decide +kernel),codeAny_builtin KF.entry_class ?_⟩;unfold Builtin.«object.__class__»
 repeat (any_goals (first | assumption | (with_reducible refine wpAny_loadPart_at hx ?_; rw [hc]) | wp_step))
theorem a7W {tk:Tok} {Q:fV->Shared->Prop} (X:K.In s.heap) (hx:s.heap.get? x=some ox) (hc:ox.cls=.ref D) (ha:findIn K (.ref D) "__class__"=some (some (.builtin "object.__class__")))
  (hm:mroIn K D (.type "object")=some true)
  (hq:Q (.done (.ret (.ref D))) s) :
  wpAny (model prog w) A (Builtin.«object.__getattribute__» ⟨[.ref x,.str "__class__" tk],[]⟩) Q E s:=by
 obtain ⟨h,g,d,t,os⟩:=s;have L1:=looks_findIn (M:=model prog w) X ha;have hT5:(⟨h,g,d,t,os⟩:Shared).TypeIs (.builtin "object.__class__") "getset_descriptor":=X2;have f5:=X2;have f6:=F.slot_gs_get.lookup;have f7:=F.slot_gs_set.lookup;unfold Builtin.«object.__getattribute__»
 repeat (any_goals (first | assumption | (with_reducible refine wpAny_loadPart_at hx ?_; rw [hc]) | with_reducible refine L1.at ?_ | wp_step))
 refine b0g X hx hc hm ?_
 repeat (any_goals (first | assumption | wp_step))
theorem a7D {nv:Value} {Q:Unit->Shared->Prop} (X:K.In s.heap) (hx:s.heap.get? x=some ox) (hc:ox.cls=.ref D) (hb:mroIn K D (.type "BaseException")=some true) (hq:Q () s) :
  wpAny (model prog w) A (checkBuiltinCall "BaseException.__getattribute__" ⟨[.ref x,nv],[]⟩) Q E s:=by
 have hk:builtinKind "BaseException.__getattribute__"=some .slot:=by decide +kernel
 have hsplit:splitId "BaseException.__getattribute__"=some ("BaseException","__getattribute__"):=by decide +kernel
 have ag:=F.args_bexc_ga (.ref x) nv;obtain ⟨h,g,d,t,os⟩:=s;have L1:=looks_mroIn (M:=model prog w) X hb;simp only [checkBuiltinCall,hk,hsplit];refine wpAny_bind ?_;unfold isInstance
 repeat (first | (with_reducible refine wpAny_loadPart_at hx ?_; rw [hc]) | with_reducible refine L1.at ?_ | wp_step)
 exact hq
theorem a9O {tk:Tok} {R:Result->Shared->Prop} (X:K.In s.heap) (hx:s.heap.get? x=some ox) (hc:ox.cls=.ref D) (ha:findIn K (.ref D) "__class__"=some (some (.builtin "object.__class__")))
  (hm:mroIn K D (.type "object")=some true) (hb:mroIn K D (.type "BaseException")=some true) (hq:R (.ok (.ret (.ref D))) s) :
  codeAny (model prog w) A (.call (.builtin "BaseException.__getattribute__") ⟨[.ref x,.str "__class__" tk],[]⟩) R s :=
 codeAny_call_builtin F.excAttr_ValueError.ga.plain F.entry_bexc_ga (a7D X hx hc hb (a7W X hx hc ha hm hq))
theorem a7q {Q:Option Value->Shared->Prop} (X:K.In s.heap) (hx:s.heap.get? x=some ox) (hc:ox.cls=.ref D) (hga:findIn K (.ref D) "__getattribute__"=some (some (.builtin "BaseException.__getattribute__")))
  (hgn:findIn K (.ref D) "__getattr__"=some none) (ha:findIn K (.ref D) "__class__"=some (some (.builtin "object.__class__")))
  (hm:mroIn K D (.type "object")=some true) (hb:mroIn K D (.type "BaseException")=some true) (hq:Q (some (.ref D)) { s with toks:=s.toks+1 }) :
  wpAny (model prog w) A (getAttr? (.ref x) "__class__") Q E s:=by
 obtain ⟨h,g,d,t,os⟩:=s;have L1:=looks_findIn (M:=model prog w) X hga;have L2:=looks_findIn (M:=model prog w) X hgn;have f3:=F.excAttr_ValueError.ga.bind (.ref x);have hx2:(Value.builtin "BaseException.__getattribute__"==Value.builtin "object.__getattribute__")=false:=by decide +kernel
 have hx1:(onTheHeap (Value.ref D)&&Value.builtin "BaseException.__getattribute__"==Value.builtin "object.__getattribute__")=false:=by rw [hx2]; rfl
 have hx0:(false&&onTheHeap (Value.builtin "BaseException.__getattribute__"))=false:=rfl;unfold getAttr?
 repeat (any_goals (first | assumption | (with_reducible refine wpAny_loadPart_at hx ?_; rw [hc]) | with_reducible refine L1.at ?_ | with_reducible refine L2.at ?_ | wp_step))
 refine a9O X hx hc ha hm hb ?_
 repeat (any_goals (first | assumption | wp_step))
end
structure U7 (K:Frag) (D:Addr):Prop where
 ob:∃ nm q N bs bm hdct sn sub ab col dd k0 k1 k2 k3 k5,K.lookup D=some (excClassObj nm q D N bs bm hdct sn sub ab col dd k0 k1 k2 k3 k5 "ValueError.__new__")/\nsOkIn K N=true/\nsIn K N "__init__"=some none ∧
  tailIn K [.type "ValueError",.type "Exception",.type "BaseException",.type "object"] bm=true
 ga:findIn K (.ref D) "__getattribute__"=some (some (.builtin "BaseException.__getattribute__"))
 gn:findIn K (.ref D) "__getattr__"=some none
 ca:findIn K (.ref D) "__class__"=some (some (.builtin "object.__class__"))
 mo:mroIn K D (.type "object")=some true
 mb:mroIn K D (.type "BaseException")=some true
def a6u (ea D:Addr) (h:Heap):Prop:=∃ o,h.get? ea=some o/\o.cls=.ref D
theorem a9l {K:Frag} {D ea:Addr} (k:U7 K D):KitX K (.ref ea) (.ref D) (a6u ea D) where
 ty:=λ M h X p=>by
  obtain ⟨o,h1,h2⟩:=p;exact h2 ▸ (Looks.ld h1).andThen .now
 it:=λ M h X p=>by
  obtain ⟨_,_,_,_,_,_,_,_,_,_,_,_,_,_,_,_,lk,_⟩:=k.ob;intro A' Q' E' s' kk q;unfold isType loadHead;exact wpAny_bind (wpAny_loadPart (kk _ _ (X _ _ lk)) (wpAny_pure q))
 ne:=λ h tp dd its n sl X htp=>eH.mpr λ q=>by
  obtain ⟨_,_,_,_,_,_,_,_,_,_,_,_,_,_,_,_,lk,_⟩:=k.ob;have e:D=tp:=Value.ref.inj (beq_iff_eq.mp q);subst e;have z:=(X _ _ lk).symm.trans htp;exact absurd (Value.type.inj (congrArg Obj.cls (aN z))) (by decide)
 ca:=λ {prog w A E Q s} X p kk=>by
  obtain ⟨o,h1,h2⟩:=p;exact a7q X h1 h2 k.ga k.gn k.ca k.mo k.mb kk
def a7J (ea D:Addr):HO:=.ext (a6u ea D)
theorem b0k {P:Program} {w:World} {H:Hp} {h:Heap} {ea D:Addr} (e:a6u ea D h):ObjOk P w H h ea (a7J ea D) :=
 ⟨e,let ⟨o,h1,_⟩:=e; ⟨o,h1⟩,λ h1 h2 ⟨o,a,b⟩ k=>⟨o,k o a,b⟩⟩
theorem C9 {X:Cx}:G4 X (.builtin "isinstance") (λ vs H Q=>∃ (ea D:Addr) (c:V) (b:Bool),vs=[.ref ea,c]/\H ea=some (a7J ea D)/\U7 X.K D/\(∀ u,RelV c u->kitOne X.K (.ref D) u=some b)/\Q (.bl b) H):=by
 intro pins s σ H vs us Q I r h;obtain ⟨ea,D,c,b,rfl,he,k,e,q⟩:=h;obtain ⟨u,v,rfl,ru,rv⟩:=a1x r
 cases (show u=Value.ref ea from ru);have ho:ObjOk X.prog X.w H s.heap ea (a7J ea D):=I.hok ea _ he;exact kia_one (a9l k) I.kIn ho.1 (e v rv) (λ z=>nomatch z) λ tk=>⟨.bl b,H,I.tok _,rfl,q⟩
theorem a7o {prog:Program} {w:World} {A:Around} {E:Value->Shared->Prop} {s:Shared} {K:Frag} {ea D R:Addr} {oe:Obj} {Q:Bool->Shared->Prop} (X:K.In s.heap) (hx:s.heap.get? ea=some oe) (hc:oe.cls=.ref D)
  (hs:mroIn K D (.ref R)=some true) (kR:U7 K R) (hq:Q true s):wpAny (model prog w) A (excMatches (.ref ea) (.ref R)) Q E s:=by
 obtain ⟨h,g,d,t,os⟩:=s;obtain ⟨_,_,_,_,_,_,_,_,_,_,_,_,_,_,_,_,lk,_⟩:=kR.ob;have hR:=X _ _ lk;have L1:=looks_mroIn (M:=model prog w) X hs;have L2:=looks_mroIn (M:=model prog w) X kR.mb;have f:=tc_notTuple;unfold excMatches
 repeat (first | with_reducible refine L1.at ?_ | with_reducible refine L2.at ?_ | (with_reducible refine wpAny_loadPart_at hx ?_; rw [hc]) | with_reducible refine wpAny_loadPart_at hR ?_ | wp_step)
 exact hq
end L2
namespace L2
open PySem PySem.Spec PyProof.Rows
theorem ObjOk.got {P:Program} {w:World} {H:Hp} {h:Heap} {a:Addr} {o:HO} (x:ObjOk P w H h a o):∃ ob,h.get? a=some ob:=by
 cases o with
 | lst xs=>obtain ⟨_,_,_,_,e⟩:=x; exact ⟨_,e⟩
 | tup xs=>obtain ⟨_,_,_,ob,e,_⟩:=x; exact ⟨ob,e⟩
 | dK kvs=>obtain ⟨_,_,_,_,ob,_,_,e,_⟩:=x; exact ⟨ob,e⟩
 | dT kvs=>obtain ⟨_,_,_,_,ob,_,_,e,_⟩:=x; exact ⟨ob,e⟩
 | set S n=>obtain ⟨ob,_,_,_,e,_⟩:=x; exact ⟨ob,e⟩
 | ins C dx fs=>obtain ⟨_,_,_,e,_⟩:=x; exact ⟨_,e⟩
 | own y=>exact x
 | xd fs=>obtain ⟨_,⟨ob,_,_,e,_⟩,_⟩:=x; exact ⟨ob,e⟩
 | rng lo hi=>obtain ⟨_,_,_,e⟩:=x; exact ⟨_,e⟩
 | frz ob u=>obtain ⟨e,_⟩:=x; exact ⟨_,e⟩
 | tbl ps=>exact ⟨_,(show h.get? a=some _ from x)⟩
 | met f y=>exact ⟨_,(show h.get? a=some _ from x)⟩
 | ext φ=>obtain ⟨_,e,_⟩:=x; exact e
theorem Un.slots {fs ex:List Addr} {H0 H':Hp} {h0 h1 h2:Heap} (u:Un fs ex H0 H' h0 h1) (hb:∀ b o,h1.get? b=some o->(∃ o0,h0.get? b=some o0)->b ∉ fs->h2.get? b=some o)
  (hf:∀ b∈fs,∀ o,h1.get? b=some o->∃ sl,h2.get? b=some { o with slots:=sl }):Un fs ex H0 H' h0 h2 where
 keep:=λ b o q n hfs hx=>hb b o (u.keep b o q n hfs hx) ⟨o,q⟩ hfs
 slot:=λ b o q n hfs hx=>by
  obtain ⟨sl,e⟩:=u.slot b o q n hfs hx;obtain ⟨sl',e'⟩:=hf b hfs _ e;exact ⟨sl',e'⟩
 free:=u.free
 there:=λ b o q hx=>by
  obtain ⟨o',e⟩:=u.there b o q hx
  by_cases hm:b∈fs
  ·obtain ⟨sl,e'⟩:=hf b hm _ e; exact ⟨_,e'⟩
  ·exact ⟨_,hb b o' e ⟨o,q⟩ hm⟩
 tups:=u.tups
 frzs:=u.frzs
 tbls:=u.tbls
theorem HOk.slots {P:Program} {w:World} {H:Hp} {h h':Heap} (x:HOk P w H h) (k:∀ b u o,H b=some u->h.get? b=some o->h'.get? b=some o):HOk P w H h':=λ a o e =>
 (x a o e).stay (λ b u hb q=>by
  rcases hb with rfl | hb
  ·exact k b o u e q
  ·exact k b _ u hb q) (λ _ q=>q) λ _ _ q=>q
structure Fly (P:Program) (w:World) (l:List Env) (H:Hp) (s:Shared) (ea t D:Addr) (B:Heap) (H':Hp) (s':Shared):Prop where
 os:s'.os=s.os
 bare:AllBare s'.gens
 un:Un (frs l) [] H H' s.heap s'.heap
 hok:HOk P w H' s'.heap
 fly:Heap.FlyingW B l ea (.ref D) (.ref t) s'.heap
 inb:∀ b o,s'.heap.get? b=some o->((∃ o0,s.heap.get? b=some o0)/\b ∉ frs l)\/H' b≠none->B.get? b=some o
def V8 (P:Program) (w:World):CXT:=λ l H s E e s'=>∃ (ea t D:Addr) (B:Heap) (H':Hp),e=.ref ea/\Fly P w l H s ea t D B H' s'/\E (.ref D) none H'
section
variable {P:Program} {w:World} {l:List Env} {H:Hp} {s s':Shared} {ea t D:Addr} {B h':Heap} {H':Hp}
theorem Fly.slots (F:Fly P w l H s ea t D B H' s') (fl:Heap.FlyingW B l ea (.ref D) (.ref t) h') (up:s'.heap.UpToSlots h'):Fly P w l H s ea t D B H' { s' with heap:=h' }:=by
 have st:∀ b o,B.get? b=some o->h'.get? b=some o:=fl.1;refine ⟨F.os,F.bare,F.un.slots (λ b o q z hn=>st b o (F.inb b o q (.inl ⟨z,hn⟩))) (λ b hb o q=>?_),F.hok.slots (λ b u o e q=>st b o (F.inb b o q (.inr (by rw [e]; simp)))),fl,λ b o q z=>?_⟩
 ·obtain ⟨_,o',ho',hd⟩:=F.fly.2.2.1.mem hb
  rw [q] at ho'; cases ho';exact up b o q hd
 ·have:∃ o1,s'.heap.get? b=some o1:=by
   rcases z with ⟨⟨o0,z⟩,_⟩ | z
   ·exact F.un.there b o0 z (by simp)
   ·cases e:H' b with
    | none=>exact absurd e z
    | some u=>exact (F.hok b u e).got
  obtain ⟨o1,q1⟩:=this;have b1:=F.inb b o1 q1 z;have:=st b o1 b1;rw [show h'.get? b=some o from q] at this
  cases this;exact b1
theorem Fly.new (F:Fly P w l H s ea t D B H' s'):s.heap.get? ea=none/\H' ea=none:=by
 obtain ⟨_,hb,hfr,oe,vs,T,oT,ts,he,hc,hd,_⟩:=F.fly;have nb:∀ o,B.get? ea≠some o:=λ o z=>by rw [hb] at z; cases z
 constructor
 ·cases q:s.heap.get? ea with
  | none=>rfl
  | some o0 =>
   refine absurd (F.inb ea oe he (.inl ⟨⟨o0,q⟩,λ hm=>?_⟩)) (nb _);obtain ⟨_,o,ho,hnf⟩:=hfr.mem hm;rw [he] at ho; cases ho;exact hnf vs hd
 ·cases q:H' ea with
  | none=>rfl
  | some u=>exact absurd (F.inb ea oe he (.inr (by rw [q]; simp))) (nb _)
theorem Fly.at (F:Fly P w l H s ea t D B H' s'):a6u ea D s'.heap:=by
 obtain ⟨o,h1,h2⟩:=F.fly.there;exact ⟨o,h1,h2⟩
theorem Fly.inv {X:Cx} {pins:List (Addr×Obj)} {σ:St} (I:Inv X pins σ H s) (F:Fly X.prog X.w X.stack H s ea t D B H' s'):Inv X pins σ H' s' :=
 I.call' F.os F.un F.hok F.bare (λ b z=>absurd z (by simp))
theorem Fly.track {X:Cx} {pins:List (Addr×Obj)} {σ:St} (I:Inv X pins σ H s) (F:Fly X.prog X.w X.stack H s ea t D B H' s'):Inv X pins σ (upd H' ea (a7J ea D)) s':=by
 obtain ⟨n1,n2⟩:=F.new;have u:=F.un;refine I.call' F.os (ch:=[]) ⟨u.keep,u.slot,λ b o q n hx=>?_,u.there,λ b xs q=>?_,λ b o xs q=>?_,λ b ps q=>?_⟩ (λ a o e=>?_) F.bare (λ b z=>absurd z (by simp))
 ·rw [c9 (λ z=>by rw [z,n1] at q; cases q)]; exact u.free b o q n hx
 ·have:=u.tups b xs q
  rw [c9 (d9 this n2)]; exact this
 ·have:=u.frzs b o xs q
  rw [c9 (d9 this n2)]; exact this
 ·obtain ⟨m,e⟩:=u.tbls b ps q
  exact ⟨m,by rw [c9 (d9 e n2)]; exact e⟩
 ·by_cases ha:a=ea
  ·subst ha; rw [upd_same] at e; cases e
   exact b0k F.at
  ·rw [c9 ha] at e
   exact (F.hok a o e).stay (λ _ _ _ q=>q) (λ c q=>by rw [c9 (d9 q n2)]; exact q) λ c xs q=>by rw [c9 (d9 q n2)]; exact q
end
section
variable {P:Program} {w:World} {K:W.Frag} {mg:Str->Option Value} {base:Heap} {N:List Str} {qual:Str} {scope:Scope} {f:Addr} {cd:Value} {A:Around} {outer:List Env} {s₀:Shared} {H₀:Hp} {E:XK}
theorem a1m {b:Addr} {o:Obj} {X:Cx} {pins:List (Addr×Obj)} {σ:St} {H:Hp} {s:Shared} (I:Inv X pins σ H s) (e:X.s₀.heap.get? b=some o) (hb:b ∉ frs X.outer):b ∉ frs X.stack:=λ z=>by
 rcases aH.mp (I.stkSub b z) with q | q
 ·have:=aO (Heap.lt_size e) I.ok.above
  rw [q] at this;exact bJ _ this
 ·exact hb q
theorem a0C:V3 (V8 P w) (J1 (V8 P w) P w K mg base N qual scope f cd A outer s₀ H₀ E) E:=by
 intro pins σ H s e s' I h;obtain ⟨ea,t,D,B,H',rfl,F,hE⟩:=h;have I':=F.inv I;refine wpAny_leaves_onW I.ok.frames rfl F.fly λ h' fl up=>?_;have st:∀ b o,B.get? b=some o->h'.get? b=some o:=fl.1;have bin:∀ b o,s'.heap.get? b=some o->(∃ o0,s₀.heap.get? b=some o0)->b ∉ frs outer->B.get? b=some o:=λ b o q ⟨o0,z⟩ hn=>by
  obtain ⟨o1,q1⟩:=I.base.there b o0 z (by show b ∉ ([]:List Addr); simp);exact F.inb b o q (.inl ⟨⟨o1,q1⟩,a1m I z hn⟩)
 refine ⟨ea,t,D,B,H',rfl,⟨I'.os,F.bare,I'.base.slots (λ b o q z hn=>st b o (bin b o q z hn)) (λ b hb o q=>?_),F.hok.slots (λ b u o e q=>st b o (F.inb b o q (.inr (by rw [e]; simp)))),fl,λ b o q z=>?_⟩,hE⟩
 ·obtain ⟨_,o',ho',hd⟩:=F.fly.2.2.1.2.2.mem hb
  rw [q] at ho'; cases ho';exact up b o q hd
 ·have:∃ o1,s'.heap.get? b=some o1/\B.get? b=some o1:=by
   rcases z with ⟨⟨o0,z⟩,hn⟩ | z
   ·obtain ⟨o1,q1⟩:=I'.base.there b o0 z (by show b ∉ ([]:List Addr); simp)
    exact ⟨o1,q1,bin b o1 q1 ⟨o0,z⟩ hn⟩
   ·cases e:H' b with
    | none=>exact absurd e z
    | some u =>
     obtain ⟨o1,q1⟩:=(F.hok b u e).got;exact ⟨o1,q1,F.inb b o1 q1 (.inr z)⟩
  obtain ⟨o1,_,b1⟩:=this;have:=st b o1 b1;rw [show h'.get? b=some o from q] at this
  cases this;exact b1
theorem b3Z {pins:List (Addr×Obj)} {σ:St} {H:Hp} {s:Shared} {h1:Heap} {ea D:Addr} {vs:List Value} (I:Inv (J1 (V8 P w) P w K mg base N qual scope f cd A outer s₀ H₀ E) pins σ H s) (hx:Heap.MadeExcOf s.heap h1 ea (.ref D) vs)
  (hE:E (.ref D) none H):(J1 (V8 P w) P w K mg base N qual scope f cd A outer s₀ H₀ E).xe (.ref ea) { s with heap:=h1 }:=by
 have hin:∀ env∈(envOfC qual scope s₀.heap.objs.size f cd::outer),∀ b,env.frame=some b->b∈frs (envOfC qual scope s₀.heap.objs.size f cd::outer):=λ env he b hb=>gW.mpr ⟨env,he,hb⟩;refine wpAny_leaves_madeW (base:=W.hideAll s.heap (frs (envOfC qual scope s₀.heap.objs.size f cd::outer))) (h:=s.heap) I.ok.frames rfl (λ b o q=>W.of_hideAll _ q) (W.funFrames_hide I.stack hin) hx λ h' t fl _ _ up=>?_;have st:∀ b o,s.heap.get? b=some o->b ∉ frs (envOfC qual scope s₀.heap.objs.size f cd::outer)->h'.get? b=some o:=λ b o q hn=>fl.1 b o (W.hideAll_get _ q hn);have trn:∀ b u,H b=some u->b ∉ frs (envOfC qual scope s₀.heap.objs.size f cd::outer):=λ b u e z=>by
  have:=I.stkFree b z;rw [e] at this; cases this
 refine ⟨ea,t,D,_,H,rfl,⟨I.os,I.bare,I.base.slots (λ b o q ⟨o0,z⟩ hn=>st b o q (a1m I z hn)) (λ b hb o q=>?_),I.hok.slots (λ b u o e q=>st b o q (trn b u e)),fl,λ b o q z=>?_⟩,hE⟩
 ·obtain ⟨_,o',ho',hd⟩:=I.funs.mem hb
  rw [q] at ho'; cases ho';exact up b o (hx.keeps b o q) hd
 ·have:∃ o1,s.heap.get? b=some o1/\b ∉ frs (envOfC qual scope s₀.heap.objs.size f cd::outer):=by
   rcases z with ⟨⟨o0,z⟩,hn⟩ | z
   ·obtain ⟨o1,q1⟩:=I.base.there b o0 z (by show b ∉ ([]:List Addr); simp)
    exact ⟨o1,q1,a1m I z hn⟩
   ·cases e:H b with
    | none=>exact absurd e z
    | some u =>
     obtain ⟨o1,q1⟩:=(I.hok b u e).got;exact ⟨o1,q1,trn b u e⟩
  obtain ⟨o1,q1,hn⟩:=this;have:=st b o1 q1 hn;rw [show h'.get? b=some o from q] at this
  cases this;exact W.hideAll_get _ q1 hn
end
section
variable {X:Cx} {e:Expr} {te:TE} {a:Str} {j:Nat} {p1 p2 p3:Pos}
def tFs (te:TE):TE:=λ σ H Q=>te σ H λ v H1=>∃ i:Int,v=.int i/\i.natAbs.log2<1920/\∀ x,Q (.str x) H1
theorem b1n (he:PE X e te) (ha:a.length<=1000):PE X (.JoinedStr [.Constant (.str a) j p1,.FormattedValue e (-1) none p2] p3) (tFs te):=by
 intro pins s σ H Q I h;refine JoinedStr_many (joinParts_cons ?_);refine y9 (u9 pins s σ H (λ v H'=>v=.str a/\H'=H) I ⟨rfl,rfl⟩) λ u s1 ⟨v,H1,I1,r,hv,hH⟩=>?_;subst hv; subst hH;obtain ⟨tk,rfl⟩:=r;have e0:(Str.empty++a).length=a.length:=by rw [strLen_append]; show 0+a.length=a.length; omega
 refine ⟨by rw [e0]; exact aZ ha (by decide),joinParts_cons (FormattedValue_plain ?_)⟩;refine y9 (he pins s1 σ H1 _ I1 h) λ u s2 ⟨v,H2,I2,r,i,hv,hi,q⟩=>?_;subst hv;obtain ⟨tk2,rfl⟩:=r;refine formatField_int_small hi ?_;have hl:(Str.empty++a++Str.ofString (toString i)).length<=sizeLine:=by
  rw [strLen_append,e0];have h1:=int_text_length_le (a:=i) (k:=1920) (by decide) hi;rw [jF,sizeLine_eq];omega
 refine ⟨hl,joinParts_nil ?_ hl⟩;exact ⟨.str _,H2,(I2.tok _).tok _,⟨_,rfl⟩,q _⟩
end
section
variable {P:Program} {w:World} {K:W.Frag} {mg:Str->Option Value} {base:Heap} {N:List Str} {qual:Str} {scope:Scope} {f:Addr} {cd:Value} {A:Around} {outer:List Env} {s₀:Shared} {H₀:Hp} {E:XK}
 {x:Str} {D:Addr} {e:Expr} {t:TA} {np cpos pos:Pos}
def a8M (t:TA) (D:Addr) (E:XK):TS:=λ _ σ H=>t σ H λ vs H1=>vs.length<=1000/\E (.ref D) none H1
theorem a0A (k:U7 K D) (hg:Gl (J1 (V8 P w) P w K mg base N qual scope f cd A outer s₀ H₀ E) x) (hm:mg x=some (.ref D)) (hh:A.handled=none)
  (ha:PA (J1 (V8 P w) P w K mg base N qual scope f cd A outer s₀ H₀ E) [e] t)
  (he:starEach [e] (envOfC qual scope s₀.heap.objs.size f cd)=[(false,eval e (envOfC qual scope s₀.heap.objs.size f cd))]:=by rfl) (hdb:(x==("__debug__":Str))=false:=by decide) :
  PS (J1 (V8 P w) P w K mg base N qual scope f cd A outer s₀ H₀ E) (.Raise (some (.Call (.Name x np) [e] [] cpos)) none pos) (a8M t D E):=by
 intro pins s σ H Dn I h;obtain ⟨nm,q,Na,bs,bm,hdct,sn,sub,ab,col,dd,k0,k1,k2,k3,k5,lk,ok,ni,tl⟩:=k.ob;have tb:∀ h:Heap,K.In h->OwnTail h [.type "ValueError",.type "Exception",.type "BaseException",.type "object"] bm:=λ h X=>W.tail_of_in X tl;have nsf:∀ h:Heap,K.In h->h.Ns Na (h.nsMap Na)/\h.nsMap Na "__init__"=none:=λ h X=>⟨.of_isNs (W.isNs_of_in X ok),W.nsMap_none_of_in X ok ni⟩;have hN0:=(nsf s.heap I.kIn).1;refine wpAny_Raise_call_subT (C:=D) (nm:=nm) (q:=q) (N:=Na) (bs:=bs) (bm:=bm) (hdct:=hdct) (sn:=sn) (sub:=sub) (ab:=ab) (col:=col) (dd:=dd) (k0:=k0) (k1:=k1) (k2:=k2) (k3:=k3) (k5:=k5) (newId:="ValueError.__new__")
  F.excBase_ValueError (mN:=base.nsMap Na) ((tb base I.mod.kin).hasType (by decide +kernel)) (by show (A.deeper _).handled=none; exact hh) (by rw [show starEach [e] (J1 (V8 P w) P w K mg base N qual scope f cd A outer s₀ H₀ E).env=_ from he]; rfl)
  (nsf base I.mod.kin).2 (Z6 I hg hm ⟨rfl,?_⟩ hdb)
 have h2:=ha cpos pins s σ H _ I h;rw [show starEach [e] (J1 (V8 P w) P w K mg base N qual scope f cd A outer s₀ H₀ E).env=_ from he] at h2 ⊢;refine Calls.evalArgs_plain (wpAny_mono h2 (λ us s2 ⟨vs,H2,I2,r,hl,hE⟩=>⟨rfl,by rw [<- r.length]; exact dA (j9 hl),I2.kIn _ _ lk,(nsf base I.mod.kin).1.keeps I2.bk,tb _ I2.kIn,λ h' ea hx=>b3Z I2 hx hE⟩) λ _ _ z=>z)
end
def a0S (CX:CXT) (X:Cx) (EX:St->XK):Prop:=∀ (pins:List (Addr×Obj)) (σ:St) (H:Hp) (s:Shared) (e:Value) (s':Shared),Inv X pins σ H s->CX X.stack H s (EX σ) e s'->X.xe e s'
section
variable {X:Cx} {CX:CXT} {k:Nat} {f:Addr} {fd:FuncData} {ps:List Str} {sp:Sp} {EX:St->XK} {x:Str} {p pos:Pos} {e:Expr} {es:List Expr} {t:TA}
end
abbrev Cx.held (X:Cx) (ea:Addr):Cx:={ X with A:=X.A.mark (some (.ref ea)),calm:=false,xe:=λ _ _=>False }
abbrev Cx.tried (X:Cx) (pn:List (Addr×Obj)) (E:Value->Shared->Prop):Cx:={ X with pn:=pn,xe:=E }
section
variable {X:Cx} {pins:List (Addr×Obj)} {σ:St} {H:Hp} {s:Shared} {ea:Addr}
theorem Cx.Ok.held (ok:X.Ok):(X.held ea).Ok :=
 ⟨ok.mod,ok.kind,ok.glob,ok.blt,ok.above,ok.inj,ok.has,ok.cab,(λ z=>jG z),ok.frames,ok.stk,ok.exf,ok.bs,ok.bsz,ok.noex,ok.exfs,ok.funs,ok.frf⟩
theorem Inv.held (I:Inv X pins σ H s) (ea:Addr):Inv (X.held ea) pins σ H s:=⟨I.ok.held,I.os,I.bare,I.base,I.loc,I.cell,I.free,I.freeC,I.pin,I.hok,I.len⟩
theorem Inv.unheld (ok:X.Ok) (I:Inv (X.held ea) pins σ H s):Inv X pins σ H s:=⟨ok,I.os,I.bare,I.base,I.loc,I.cell,I.free,I.freeC,I.pin,I.hok,I.len⟩
theorem Cx.Ok.tried (ok:X.Ok) {pn:List (Addr×Obj)} {E:Value->Shared->Prop}:(X.tried pn E).Ok :=
 ⟨ok.mod,ok.kind,ok.glob,ok.blt,ok.above,ok.inj,ok.has,ok.cab,ok.hd,ok.frames,ok.stk,ok.exf,ok.bs,ok.bsz,ok.noex,ok.exfs,ok.funs,ok.frf⟩
theorem Inv.tried (I:Inv X pins σ H s) {E:Value->Shared->Prop}:Inv (X.tried (X.pn++pins) E) [] σ H s:=⟨I.ok.tried,I.os,I.bare,I.base,I.loc,I.cell,I.free,I.freeC,by rw [dX]; exact I.pin,I.hok,I.len⟩
theorem Inv.untried (ok:X.Ok) {E:Value->Shared->Prop} {pins':List (Addr×Obj)} (I:Inv (X.tried (X.pn++pins) E) pins' σ H s):Inv X pins σ H s :=
 ⟨ok,I.os,I.bare,I.base,I.loc,I.cell,I.free,I.freeC,λ p hp=>I.pin p (dJ _ hp),I.hok,I.len⟩
theorem Z4 {M:Model} {A:Around} {E:Value->Shared->Prop} {i:Nat} {n:Str} {pos:Pos} {Q:Unit->Shared->Prop} (I:Inv X pins σ H s) (hN:X.N.Nodup) (hi:X.N[i]?=some n) (hk:X.env.scope.names.lookup n=some .local)
  (h:∀ s',Inv X pins (σ.set i none) H s'->Q () s'):wpAny M A (do bindName X.env n .none; unbindBehindTheSuite X.env n pos) Q E s:=by
 obtain ⟨m,hn,hl⟩:=id I.loc;have hcls:(X.env.scope.kind==.class || (X.env.scope.kind==.module&&X.env.locals != X.env.globals))=false:=by rw [I.ok.kind]; rfl
 have hiσ:i<σ.length:=by rw [I.len]; exact (bN.mp hi).1
 have cne:=I.cne;refine wpAny_nameGoes_keeps hk hn hcls λ h' v hn' hs=>?_;obtain ⟨oL,_,_,hoL,_⟩:=id hn;have far:∀ b o,X.s₀.heap.get? b=some o->b≠X.env.locals:=λ b o e=>bI (aO (Heap.lt_size e) I.ok.above);refine h _ ⟨I.ok,I.os,I.bare,⟨λ b o e n hb hx=>?_,λ b o e n hb hx=>?_,I.base.free,λ b o e hx=>?_,I.base.tups,I.base.frzs,I.base.tbls⟩,⟨_,hn',λ j y v' e1 e2 e3=>?_⟩,λ y c e=>?_,I.free,I.freeC,λ p hp=>?_,λ b ob e=>?_,by simpa using I.len⟩
 ·exact (hs.2 b (far b o e)).trans (I.base.keep b o e n hb hx)
 ·obtain ⟨sl,e1⟩:=I.base.slot b o e n hb hx
  exact ⟨sl,(hs.2 b (far b o e)).trans e1⟩
 ·obtain ⟨o',e1⟩:=I.base.there b o e hx
  exact ⟨o',(hs.2 b (far b o e)).trans e1⟩
 ·by_cases hj:j=i
  ·subst hj
   rw [bR hiσ] at e2
   cases e2
  ·rw [bC (aQ hj)] at e2
   obtain ⟨u',r',q⟩:=hl j y v' e1 e2 e3;refine ⟨u',r',?_⟩;rcases q with ⟨k,e⟩ | ⟨k,c,e,z⟩
   ·refine .inl ⟨k,?_⟩
    have:y≠n:=λ e=>hj (a2c hN e1 (e ▸ hi));simp [this,e]
   ·exact .inr ⟨k,c,e,z.sameBut hs (cne y c e)⟩
 ·obtain ⟨w',z⟩:=I.cell y c e
  exact ⟨w',z.sameBut hs (cne y c e)⟩
 ·obtain ⟨e,n,ne,nf,d⟩:=I.pin p hp
  exact ⟨(hs.2 p.1 ne).trans e,n,ne,nf,d⟩
 ·refine (I.hok b ob e).stay (λ c w' hc q=>(hs.2 c ?_).trans q) (λ _ q=>q) λ _ _ q=>q
  rintro rfl;rcases hc with z | hc
  ·rw [<- z,I.free] at e; cases e
  ·rw [I.free] at hc; cases hc
end
def Ends.less (D:Ends) (i:Nat):Ends:={ nx:=λ σ H=>D.nx (σ.set i none) H,rt:=D.rt,bk:=λ σ H=>D.bk (σ.set i none) H,ct:=λ σ H=>D.ct (σ.set i none) H }
def b5I (K:W.Frag) (R:Addr) (tb:(St->XK)->TS) (i:Nat) (ts:TS):TS:=λ D σ H=>∃ EX:St->XK,tb EX D σ H ∧
 ∀ σ' H' C ea d,EX σ' C d H'->H' ea=none->∀ Da,C=.ref Da->U7 K Da/\W.mroIn K Da (.ref R)=some true/\ts (D.less i) (σ'.set i (some (.ref ea))) (upd H' ea (a7J ea Da))
section
variable {X:Cx} {x n:Str} {R:Addr} {i:Nat} {tb:(St->XK)->TS} {ts:TS} {body suite:List Stmt} {b₀:Stmt} {np hpos pos:Pos}
theorem b2H (kR:U7 X.K R) (hN:X.N.Nodup) (hi:X.N[i]?=some n) (hk:X.env.scope.names.lookup n=some .local) (hst:X.stack=X.env::X.outer) (hgl:Gl X x) (hm:X.mg x=some (.ref R))
  (hb:∀ (EX:St->XK) (pn:List (Addr×Obj)) (E:Value->Shared->Prop),a0S (V8 X.prog X.w) (X.tried pn E) EX->PSs (X.tried pn E) body (tb EX))
  (hs:∀ ea,PSs (X.held ea) (b₀::suite) ts) (hdb:(x==("__debug__":Str))=false:=by decide) :
  PS X (.Try body [.ExceptHandler (some (.Name x np)) (some n) (b₀::suite) hpos] [] [] pos) (b5I X.K R tb i ts):=by
 intro pins s σ H D I ⟨EX,hq,hh⟩;refine wpAny_Try_except ?_;have pass:a0S (V8 X.prog X.w) (X.tried (X.pn++pins) λ e s'=>∃ σ' H0 s0,Inv X pins σ' H0 s0/\V8 X.prog X.w X.stack H0 s0 (EX σ') e s') EX:=λ pins' σ' H0 s0 e s' I0 q=>⟨σ',H0,s0,I0.untried I.ok,q⟩;refine wpAny_mono (hb EX _ _ pass [] s σ H D I.tried hq) (λ f s1 q=>?_) λ e s1 ⟨σ',H0,s0,I0,cx⟩=>?_
 ·cases f with
  | next=>obtain ⟨σ',H',J,q⟩:=q; exact wpAny_execs_nil ⟨σ',H',J.untried I.ok,q⟩
  | brk=>obtain ⟨σ',H',J,q⟩:=q; exact ⟨σ',H',J.untried I.ok,q⟩
  | cont=>obtain ⟨σ',H',J,q⟩:=q; exact ⟨σ',H',J.untried I.ok,q⟩
  | ret u=>obtain ⟨v,σ',H',J,r,q⟩:=q; exact ⟨v,σ',H',J.untried I.ok,r,q⟩
 ·obtain ⟨ea,t,Da,B,H',rfl,F,hE⟩:=cx
  have hfr:X.A.frames=some (X.env::X.outer):=by rw [I.ok.frames,hst]
  have hf:X.env.frame=some X.env.locals:=by
   rcases I.ok.stk with z | ⟨_,z⟩
   ·rw [hst] at z
    have:=congrArg gY z;simp at this
   ·exact z
  have Ffly:=F.fly;rw [hst] at Ffly;refine wpAny_looks_onW hfr hf Ffly λ h4 held4 up4=>wpAny_landsW held4 λ h5 fly5 up5=>?_;have F5:=F.slots (by rw [hst]; exact fly5) (up4.trans up5);refine wpAny_handleBy_cons (codeAny_handlers_test ?_) (by intro q; cases q);have I5:=(F5.inv I0).held ea;refine Z6 I5 hgl hm ?_ hdb;obtain ⟨kD,hsub,hts⟩:=hh σ' H' _ ea none hE F.new.2 Da rfl;obtain ⟨oe,he,hc⟩:=F5.at;refine a7o I5.kIn he hc hsub kR ?_;refine codeAny_handlers_suite_as ?_;refine lands_againW fly5 λ h6 fly6 up6=>?_;have F6:=F5.slots (by rw [hst]; exact fly6) up6;have I6:=(F6.track I0).held ea;refine X0 (X:=X.held ea) (v:=.ref ea) I6 hN hi (aC hk) (rfl:RelV (.ref ea) (.ref ea)) (λ s7 I7=>?_) (.inr hk);refine wpAny_mono (hs ea pins s7 _ _ (D.less i) I7 hts) (λ f s8 q=>?_) λ _ _ z=>z.elim
  cases f with
  | next=>obtain ⟨σ2,H2,J,q⟩:=q; exact Z4 (J.unheld I.ok) hN hi hk λ s9 J9=>⟨_,_,J9,q⟩
  | brk=>obtain ⟨σ2,H2,J,q⟩:=q; exact Z4 (J.unheld I.ok) hN hi hk λ s9 J9=>⟨_,_,J9,q⟩
  | cont=>obtain ⟨σ2,H2,J,q⟩:=q; exact Z4 (J.unheld I.ok) hN hi hk λ s9 J9=>⟨_,_,J9,q⟩
  | ret u=>obtain ⟨v,σ2,H2,J,r,q⟩:=q; exact Z4 (J.unheld I.ok) hN hi hk λ s9 J9=>⟨v,_,_,J9,r,q⟩
end
structure a4R (k:Nat) (A:Around):Prop where
 dp:A.depth+3*k+5<recursionLimit
 un:A.units+16*k+200<cLine
theorem Room.u {k:Nat} {A:Around} (r:Room k A) (e:Option Value):a4R k (A.mark e):=⟨r.dp,r.un⟩
structure FnU (P:Program) (w:World) (K:W.Frag) (mg:Str->Option Value) (base:Heap) (k:Nat) (f:Addr) (fd:FuncData) (ps:List Str) (sp:Sp):Prop where
 len:∀ vs H Q E,sp vs H Q E->vs.length=ps.length
 run:∀ (A:Around) (outer:List Env) (s:Shared) (H:Hp) (args:Args) (us:List Value) (vs:List V) (Q:VK) (E:XK),a4R k A->Env0 P w K mg base A outer s H->BindsTo s fd args (ps.zip us)->Vals vs us->sp vs H Q E →
  codeAny (model P w) A (.call (.ref f) args) (CR D7 outer P w H s Q E) s
abbrev a4w (P:Program) (w:World) (K:W.Frag) (mg:Str->Option Value) (base:Heap) (N:List Str) (qual:Str) (scope:Scope) (f:Addr) (cd:Value) (A:Around) (outer:List Env) (s:Shared) (H:Hp):Cx :=
 { J1 D7 P w K mg base N qual scope f cd A outer s H E0 with calm:=false,xe:=λ _ _=>False }
theorem a5S {P:Program} {w:World} {K:W.Frag} {mg:Str->Option Value} {base:Heap} {N ps:List Str} {qual:Str} {scope:Scope} {f:Addr} {cd:Value} {A:Around} {outer:List Env} {s s1:Shared} {H:Hp} {us:List Value} {vs:List V}
  (S:j8 N ps scope) (e0:Env0 P w K mg base A outer s H) (hl:vs.length=ps.length) (r:Vals vs us)
  (x:InCallC s s.heap.objs.size (bindL (envOfC qual scope s.heap.objs.size f cd).kindOf (ps.zip us) λ _=>none) (cellsFrom (s.heap.objs.size+1) scope.names []) (bindC (envOfC qual scope s.heap.objs.size f cd).kindOf (ps.zip us) λ _=>none) s1) :
  Inv (a4w P w K mg base N qual scope f cd A outer s H) [] (O5 N vs) H s1:=by
 have e1:Env0 P w K mg base ({ A with handled:=none }) outer s H:=⟨e0.frames,e0.mod,e0.bs,e0.bsz,e0.funs,e0.frf,e0.hok,e0.bare⟩;have I:=a3b (CX:=D7) (E:=E0) (qual:=qual) (f:=f) (cd:=cd) S (A:={ A with handled:=none }) rfl e1 hl r x;have ok:=I.ok;exact ⟨⟨ok.mod,ok.kind,ok.glob,ok.blt,ok.above,ok.inj,ok.has,ok.cab,(λ z=>jG z),Around.frames_deeper e0.frames,.inr ⟨rfl,rfl⟩,ok.exf,ok.bs,ok.bsz,ok.noex,ok.exfs,ok.funs,ok.frf⟩,I.os,I.bare,I.base,I.loc,I.cell,I.free,I.freeC,I.pin,I.hok,I.len⟩
theorem b3s {P:Program} {w:World} {K:W.Frag} {mg:Str->Option Value} {base:Heap} {k:Nat} {f:Addr} {name qual:Str} {params:Arguments} {body:List Stmt} {scope:Scope} {dV kV doc pm cdv ct oc:Value} {an od:Option Addr}
  {osl:Array (Option Value)} {N ps:List Str} {sp:Sp} (lk:K.lookup f=some ⟨oc,od,.func (W.fnOf name qual params body scope dV kV doc pm an cdv ct),osl⟩) (hcd:W.codeIn K cdv qual=true) (S:j8 N ps scope)
  (len:∀ vs H Q E,sp vs H Q E->vs.length=ps.length)
  (hbody:∀ (A:Around) (outer:List Env) (s:Shared) (H:Hp) (vs:List V) (Q:VK) (E:XK),a4R k (A.deeper (envOfC qual scope s.heap.objs.size f cdv))->sp vs H Q E →
   ∃ t,PSs (a4w P w K mg base N qual scope f cdv A outer s H) body t/\t { nx:=λ _ H'=>Q .non H',rt:=Q } (O5 N vs) H) :
  FnU P w K mg base (k+1) f (W.fnOf name qual params body scope dV kV doc pm an cdv ct) ps sp:=by
 refine ⟨len,λ A outer s H args us vs Q E hr e0 hb r hsp=>?_⟩;have hl:=len _ _ _ _ hsp;have KX:K.In s.heap:=e0.mod.kin.keeps λ b o e=>(e0.bs b o e).1;have lim:s.heap.NoLimit:=e0.mod.nolimit.keeps λ b o e=>(e0.bs b o e).1;have hkind:∀ y∈ps.zip us,scope.names.lookup y.1=some .local\/(scope.names.lookup y.1=some .cell/\((cellsFrom (s.heap.objs.size+1) scope.names []).lookup y.1).isSome=true):=λ ⟨n,v⟩ hy=>by
  rcases S.par n (gD hy).1 with q | q
  ·exact .inl q
  ·exact .inr ⟨q,W.cellsFrom_some _ _ _ (.inl q)⟩
 refine codeAny_call_function (by have:=hr.dp; omega) (KX _ _ lk) rfl S.co S.gen rfl (W.codeRec_of KX hcd) (hb _ _ _ _ ?_);refine wpAny_newFunctionEnv_cells S.kind hkind λ env he s1 x=>?_;subst he;refine ⟨lim.keeps x.toInCall.keep,codeAny_func ?_⟩;obtain ⟨t,ht,hq⟩:=hbody A outer s H vs Q E ⟨by have:=hr.dp; show A.depth+1+3*k+5<_; omega,by have:=hr.un; show A.units+3+16*k+200<_; omega⟩ hsp;have I:Inv (a4w P w K mg base N qual scope f cdv A outer s H) [] (O5 N vs) H s1:=a5S S e0 hl r x;refine wpAny_mono (ht [] s1 (O5 N vs) H _ I hq) (λ fl s' hs=>?_) λ e s' hs=>hs.elim;have fin:∀ {σ':St} {H':Hp} {v:V} {u:Value},Inv (a4w P w K mg base N qual scope f cdv A outer s H) [] σ' H' s'->RelV v u->Q v H'->CE outer P w H s Q u s' :=
  λ {σ' H' v u} J rv q=>⟨v,H',J.os,J.bare,J.base,J.hok,rv,q⟩
 cases fl with
 | ret u =>
  obtain ⟨v,σ',H',J,rv,q⟩:=hs;exact fin J rv q
 | next =>
  obtain ⟨σ',H',J,q⟩:=hs;exact fin (v:=V.non) (u:=Value.none) J rfl q
 | brk =>
  obtain ⟨_,_,_,q⟩:=hs;exact bO q
 | cont =>
  obtain ⟨_,_,_,q⟩:=hs;exact bO q
section
variable {P:Program} {w:World} {K:W.Frag} {mg:Str->Option Value} {base:Heap}
theorem Fun.okU {x qual:Str} {st:Stmt} {f:Addr} {fd:FuncData} {N ps:List Str} {k:Nat} {sp:Sp} (F:Fun K x qual st f fd) (S:j8 N ps (h8 st)) (len:∀ vs H Q E,sp vs H Q E->vs.length=ps.length)
  (hbody:∀ (cdv:Value) (A:Around) (outer:List Env) (s:Shared) (H:Hp) (vs:List V) (Q:VK) (E:XK),a4R k (A.deeper (envOfC qual (h8 st) s.heap.objs.size f cdv))->sp vs H Q E →
   ∃ t,PSs (a4w P w K mg base N qual (h8 st) f cdv A outer s H) (t0 st) t/\t { nx:=λ _ H'=>Q .non H',rt:=Q } (O5 N vs) H):FnU P w K mg base (k+1) f fd ps sp:=by
 obtain ⟨oc,od,kV,doc,pm,an,cdv,ct,osl,rfl,lk,hcd⟩:=F.ex;exact b3s lk hcd S len λ A outer s H vs Q E hr hsp=>hbody cdv A outer s H vs Q E hr hsp
theorem Fun.ok1 {x qual:Str} {st:Stmt} {f:Addr} {fd:FuncData} {N ps:List Str} {k:Nat} {sp:Sp} (F:Fun K x qual st f fd) (S:j8 N ps (h8 st)) (len:∀ vs H Q E,sp vs H Q E->vs.length=ps.length)
  (hbody:∀ (cdv:Value) (A:Around) (outer:List Env) (s:Shared) (H:Hp) (vs:List V) (Q:VK) (E:XK),Room k (A.deeper (envOfC qual (h8 st) s.heap.objs.size f cdv))->sp vs H Q E →
   ∃ t,PSs (J1 (V8 P w) P w K mg base N qual (h8 st) f cdv A outer s H E) (t0 st) t/\t { nx:=λ _ H'=>Q .non H',rt:=Q } (O5 N vs) H):FnOk P w K mg base (V8 P w) (k+1) f fd ps sp:=by
 obtain ⟨oc,od,kV,doc,pm,an,cdv,ct,osl,rfl,lk,hcd⟩:=F.ex;exact a8F lk hcd S len λ A outer s H vs Q E hr hsp=>hbody cdv A outer s H vs Q E hr hsp
end
section
variable {X:Cx} {k:Nat} {f:Addr} {fd:FuncData} {ps:List Str} {sp:Sp} {x:Str} {p pos:Pos} {e:Expr} {es:List Expr} {t:TA}
theorem a8i (F:FnU X.prog X.w X.K X.mg X.base k f fd ps sp) (hr:a4R k X.A) (hg:Gl X x) (hm:X.mg x=some (.ref f)) (hk:W.keepIn X.K (.ref f)=true) (hb:Binds X.K fd ps [])
  (ha:PA X (e::es) t) (hdb:(x==("__debug__":Str))=false:=by decide) (he:starEach (e::es) X.env=(false,eval e X.env)::starEach es X.env:=by rfl) (hpl:(backTo pos (starEach es X.env)).any (·.1)=false:=by rfl) :
  PE X (.Call (.Name x p) (e::es) [] pos) (b1H sp [] E0 t):=by
 intro pins s σ H Q I h;refine wpAny_Call_Name_kw (Z6 I hg hm ?_ hdb);refine W.callWith_K (h₀:=X.base) I.ok.mod.kin hk (y9 (ha pos pins s σ H _ I h) λ us s1 ⟨vs,H1,I1,r,q⟩=>⟨I1.kIn,?_⟩) he hpl
 replace q:sp (vs++[]) H1 Q E0:=q
 rw [dX] at q;have hl:(us++[]).length=ps.length:=by rw [dX,<- r.length]; exact F.len _ _ _ _ q
 have hb':=hb s1 us I1.kIn hl;rw [dX] at hb';refine wpAny_call (codeAny_mono (F.run X.A X.stack s1 H1 ⟨us,[]⟩ us vs Q E0 hr I1.env0 hb' r q) λ rr s' hq=>?_)
 cases rr with
 | error e=>exact bO hq
 | ok fl =>
  cases fl with
  | ret u=>exact I1.after hq
  | next=>exact bO hq
  | brk=>exact bO hq
  | cont=>exact bO hq
end
section
variable {prog:Program} {w:World} {A:Around} {E:Value->Shared->Prop} {s:Shared}
theorem b1u {j tp:Addr} {i:Nat} {vs:Array Value} {x:Value} {Q:Value->Shared->Prop} (q1:IsTupIter s.heap j tp i) (q2:IsTup s.heap tp vs) (q3:vs[i]?=some x)
  (q:∀ h',IsTupIter h' j tp (i+1)->Heap.SameBut j s.heap h'->Q x { s with heap:=h' }):wpAny (model prog w) A (Builtin.SmallTypes.nextOf (.ref j)) Q E s:=by
 obtain ⟨oj,g1,g2,g3⟩:=id q1;obtain ⟨ot,g4,_,nt,g5⟩:=q2;unfold Builtin.SmallTypes.nextOf;refine wpAny_bind (wpAny_callSpecial?_slot (name:=Str.ofString "__next__") q1.typeIs slot_tupleiter_next (wpAny_call_entry slot_tupleiter_next q1.typeIs entry_tupleiter_next ?_ (args_tupleiter_next _)))
 show wpAny _ _ (field (.ref j) 0 >>= _) _ _ s
 refine wpAny_bind (wpAny_field g1 g3 (x:=.ref tp) rfl ?_)
 show wpAny _ _ (if (Value.ref tp==Value.none)=true then _ else _) _ _ s
 rw [if_neg (λ z=>by cases z)]
 show wpAny _ _ (field (.ref j) 1 >>= _) _ _ s
 refine wpAny_bind (wpAny_field g1 g3 (x:=.int i 0) rfl ?_)
 show wpAny _ _ (seqItems? (.ref tp) >>= _) _ _ s
 refine wpAny_bind (wpAny_seqItems g4 g5 ?_);simp only [bD,q3];refine wpAny_bind (wpAny_setField g1 g3 (by simp) (wpAny_pure ⟨x,rfl,wpAny_pure (q _ ?_ (Heap.SameBut.update ..))⟩));refine ⟨_,Heap.get?_update_self _ g1 (Obj.isFreed_of_fields (Obj.data_mapFields g3 _)),(Obj.cls_mapFields ..).trans g2,?_⟩;rw [Obj.data_mapFields g3];simp [rawInt]
theorem b2G {j tp:Addr} {i:Nat} {vs:Array Value} {Q:Value->Shared->Prop} (hh:A.handled=none) (q1:IsTupIter s.heap j tp i) (q2:IsTup s.heap tp vs) (q3:vs[i]?=none)
  (q:∀ h' e,Heap.ExtBut j s.heap h'->(∃ o,h'.get? e=some o/\o.cls=.type "StopIteration")->E (.ref e) { s with heap:=h' }):wpAny (model prog w) A (Builtin.SmallTypes.nextOf (.ref j)) Q E s:=by
 obtain ⟨oj,g1,g2,g3⟩:=id q1;obtain ⟨ot,g4,_,nt,g5⟩:=q2;unfold Builtin.SmallTypes.nextOf;refine wpAny_bind (wpAny_callSpecial?_slot (name:=Str.ofString "__next__") q1.typeIs slot_tupleiter_next (wpAny_call_entry slot_tupleiter_next q1.typeIs entry_tupleiter_next ?_ (args_tupleiter_next _)))
 show wpAny _ _ (field (.ref j) 0 >>= _) _ _ s
 refine wpAny_bind (wpAny_field g1 g3 (x:=.ref tp) rfl ?_)
 show wpAny _ _ (if (Value.ref tp==Value.none)=true then _ else _) _ _ s
 rw [if_neg (λ z=>by cases z)]
 show wpAny _ _ (field (.ref j) 1 >>= _) _ _ s
 refine wpAny_bind (wpAny_field g1 g3 (x:=.int i 0) rfl ?_)
 show wpAny _ _ (seqItems? (.ref tp) >>= _) _ _ s
 refine wpAny_bind (wpAny_seqItems g4 g5 ?_);simp only [bD,q3];refine wpAny_bind (wpAny_rule (wpAny_bind (wpAny_setField g1 g3 (by simp) ?_)))
 show wpAny _ _ (do let e <- newExc (.type "StopIteration") []; _) _ _ _
 simp only [newExc,newTuple];refine wpAny_bind (wpAny_bind (wpAny_newObj_type (wpAny_bind (m:=firstArgMember _ _) (wpAny_of_eq (a:=Value.none) (by first | rfl | (simp only [firstArgMember]; rfl)) (wpAny_newObj_type ?_ (by size_fits)))) (by size_fits)));simp only [raiseNew];refine wpAny_bind (wpAny_handled ?_);rw [show A.in1.handled=none from hh];exact wpAny_bind (wpAny_pure (wpAny_throw (q _ _ (((Heap.SameBut.update ..).extBut.push _).push _) ⟨_,Heap.get?_push_size _ rfl,rfl⟩)))
theorem IsTupIter.at' {h h':Heap} {a t:Addr} {i:Nat} (x:IsTupIter h a t i) (e:∀ o,h.get? a=some o->h'.get? a=some o):IsTupIter h' a t i:=let ⟨o,ho,r⟩:=x; ⟨o,e _ ho,r⟩
end
def IsB:Bool->Heap->Addr->Array Value->Prop
 | true,h,t,xs=>h.IsList t xs
 | false,h,t,xs=>IsTup h t xs
def ItB:Bool->Heap->Addr->Addr->Nat->Prop
 | true,h,j,t,k=>h.IsListIter j t k
 | false,h,j,t,k=>IsTupIter h j t k
def SqB:Bool->W.Frag->Hp->Addr->List V->Prop
 | true,K,H,a,xs=>SqL K H a xs
 | false,K,H,a,xs=>SqT K H a xs
def itN:Bool->String
 | true=>"list_iterator"
 | false=>"tuple_iterator"
section
variable {b:Bool} {h h':Heap} {j t c:Addr} {k:Nat} {xs:Array Value}
theorem ItB.at' (x:ItB b h j t k) (e:∀ o,h.get? j=some o->h'.get? j=some o):ItB b h' j t k:=by
 cases b
 ·exact IsTupIter.at' x e
 ·exact Heap.IsListIter.at x e
theorem ItB.extBut (x:ItB b h j t k) (hs:Heap.ExtBut c h h') (n:j≠c):ItB b h' j t k:=x.at' λ o e=>hs j o n e
theorem IsB.at' (x:IsB b h t xs) (e:∀ o,h.get? t=some o->h'.get? t=some o):IsB b h' t xs:=by
 cases b
 ·obtain ⟨o,ho,r⟩:=x; exact ⟨o,e o ho,r⟩
 ·obtain ⟨o,ho,r⟩:=x; exact ⟨o,e o ho,r⟩
theorem IsB.extBut (x:IsB b h t xs) (hs:Heap.ExtBut c h h') (n:t≠c):IsB b h' t xs:=x.at' λ o e=>hs t o n e
theorem IsB.push (x:IsB b h t xs) (o:Obj):IsB b (h.push o) t xs:=x.at' λ _ e=>Heap.get?_push_of_some _ e
theorem IsB.lt (x:IsB b h t xs):t<h.objs.size:=by
 cases b
 ·obtain ⟨o,ho,_⟩:=x; exact Heap.lt_size ho
 ·obtain ⟨o,ho,_⟩:=x; exact Heap.lt_size ho
theorem ItB.mk (e:h.get? j=some { cls:=.type (itN b),data:=.fields #[.ref t,.int 0 0] }):ItB b h j t 0:=by
 cases b
 ·exact ⟨_,e,rfl,rfl⟩
 ·exact ⟨_,e,rfl,rfl⟩
theorem ItB.obj (x:ItB b h j t k):∃ o,h.get? j=some o/\∃ vs,o.data=.fields vs:=by
 cases b
 ·obtain ⟨o,ho,_,d⟩:=x; exact ⟨o,ho,_,d⟩
 ·obtain ⟨o,ho,_,d⟩:=x; exact ⟨o,ho,_,d⟩
theorem Same.sqB {K:W.Frag} {H H':Hp} {a:Addr} {ys:List V} (e:Same H H') (x:SqB b K H a ys):SqB b K H' a ys:=by
 cases b
 ·exact e.tseq x
 ·exact e.seq x
theorem Inv.sqB {X:Cx} {pins:List (Addr×Obj)} {σ:St} {H:Hp} {s:Shared} {a:Addr} {ys:List V} (I:Inv X pins σ H s) (x:SqB b X.K H a ys):∃ its:List Value,Vals ys its/\IsB b s.heap a its.toArray/\ys.length<=sizeLine:=by
 cases b
 ·exact I.tuple x
 ·obtain ⟨i,r,p,z⟩:=I.list x
  exact ⟨i,r,p.isList,z⟩
theorem Inv.sqB_inj {X:Cx} {pins:List (Addr×Obj)} {σ:St} {H:Hp} {s:Shared} {a:Addr} {ys zs:List V} (I:Inv X pins σ H s) (x:SqB b X.K H a ys) (y:SqB b X.K H a zs):ys=zs:=by
 cases b
 ·exact I.tuple_inj x y
 ·exact I.list_inj x y
end
section
variable {prog:Program} {w:World} {A:Around} {E:Value->Shared->Prop} {s:Shared}
theorem K9 {b:Bool} {j tp:Addr} {i:Nat} {vs:Array Value} {x:Value} {Q:Value->Shared->Prop} (q1:ItB b s.heap j tp i) (q2:IsB b s.heap tp vs) (q3:vs[i]?=some x)
  (q:∀ h',ItB b h' j tp (i+1)->Heap.SameBut j s.heap h'->Q x { s with heap:=h' }):wpAny (model prog w) A (Builtin.SmallTypes.nextOf (.ref j)) Q E s:=by
 cases b
 ·exact b1u q1 q2 q3 q
 ·exact wpAny_nextOf_list_item q1 q2 q3 q
theorem Z1 {b:Bool} {j tp:Addr} {i:Nat} {vs:Array Value} {Q:Value->Shared->Prop} (hh:A.handled=none) (q1:ItB b s.heap j tp i) (q2:IsB b s.heap tp vs) (q3:vs[i]?=none)
  (q:∀ h' e,Heap.ExtBut j s.heap h'->(∃ o,h'.get? e=some o/\o.cls=.type "StopIteration")->E (.ref e) { s with heap:=h' }):wpAny (model prog w) A (Builtin.SmallTypes.nextOf (.ref j)) Q E s:=by
 cases b
 ·exact b2G hh q1 q2 q3 q
 ·exact wpAny_nextOf_list_end hh q1 q2 q3 q
theorem b1O {b:Bool} {t:Addr} {xs:Array Value} {Q:Value->Shared->Prop} (m:IsB b s.heap t xs) (h:Q (.ref s.heap.objs.size) { s with heap:=s.heap.push { cls:=.type (itN b),data:=.fields #[.ref t,.int 0 0] } }):wpAny (model prog w) A (pyIter (.ref t)) Q E s:=by
 cases b
 ·exact iter_tuple m h
 ·exact wpAny_pyIter_list m h
theorem b1q {b1 b2:Bool} {z ti to j1 j2 t1 t2:Addr} {k1 k2:Nat} {xs ys:Array Value} {x y a b:Value} {Q:Value->Shared->Prop} (D:ZipApart z ti to j1 j2 t1 t2)
  (q0:IsZip s.heap z ti to .none) (p1:IsPair s.heap ti (.ref j1) (.ref j2)) (p2:IsPair s.heap to a b)
  (i1:ItB b1 s.heap j1 t1 k1) (i2:ItB b2 s.heap j2 t2 k2) (l1:IsB b1 s.heap t1 xs) (l2:IsB b2 s.heap t2 ys) (ex:xs[k1]?=some x) (ey:ys[k2]?=some y)
  (q:∀ h',IsZip h' z ti to (rawInt s.heap.objs.size)->IsPair h' to x y->ItB b1 h' j1 t1 (k1+1)->ItB b2 h' j2 t2 (k2+1)->IsPair h' s.heap.objs.size x y →
   (∀ c o,c≠z->c≠to->c≠j1->c≠j2->s.heap.get? c=some o->h'.get? c=some o)->Q (.ref s.heap.objs.size) { s with heap:=h' }) :
  wpAny (model prog w) A (Builtin.«zip.__next__» ⟨[.ref z],[]⟩) (λ fin s'=>∃ v,fin=.done (.ret v)/\Q v s') E s:=by
 show wpAny _ _ (field (.ref z) 2 >>= _) _ _ _
 refine wpAny_bind (wpAny_field q0 rfl (x:=.bool false) rfl (show wpAny _ _ (field (.ref z) 3 >>= _) _ _ _ from wpAny_bind (wpAny_field q0 rfl (x:=.ref ti) rfl (wpAny_bind (wpAny_seqItems p1 rfl ?_)))))
 show wpAny _ _ (do let free <- Builtin.SmallTypes.ownedTupleIsFree (.ref z); _) _ _ _
 unfold Builtin.SmallTypes.ownedTupleIsFree;refine wpAny_bind (wpAny_bind (wpAny_field q0 rfl (x:=.none) rfl (wpAny_pure ?_)));simp only [if_true];refine wpAny_bind (wpAny_rule (wpAny_bind (wpAny_field q0 rfl (x:=.ref to) rfl (wpAny_bind (wpAny_setField_rec q0 (by simp) λ u1 z1 s1=>?_)))));have z1':IsZip u1 z ti to .ellipsis:=z1;refine wpAny_bind ?_;simp only [gH,gJ,dY,eV];refine wpAny_bind (wpAny_bind (wpAny_onRaise (show wpAny _ _ (Builtin.SmallTypes.nextOf (.ref j1) >>= _) _ _ _ from wpAny_bind (K9 (i1.extBut s1.extBut D.i1z) (l1.extBut s1.extBut D.l1z) ex λ u2 j1' s2=>wpAny_pure ?_))));have to2:IsPair u2 to a b:=s2.extBut _ _ D.TOi1 (s1.extBut _ _ D.TOz p2);refine wpAny_bind (wpAny_seqItems to2 rfl (wpAny_bind (wpAny_updateSeq_pair to2 λ u3 to3 s3=>wpAny_bind (wpAny_letGo (wpAny_pure ?_)))));have to3':IsPair u3 to x b:=to3;refine wpAny_bind (wpAny_bind (wpAny_onRaise (show wpAny _ _ (Builtin.SmallTypes.nextOf (.ref j2) >>= _) _ _ _ from wpAny_bind (K9 (((i2.extBut s1.extBut D.i2z).extBut s2.extBut D.i12.symm).extBut s3.extBut D.TOi2.symm)
  (((l2.extBut s1.extBut D.l2z).extBut s2.extBut D.l2i1).extBut s3.extBut D.l2TO) ey λ u4 j2' s4=>wpAny_pure ?_))))
 have to4:IsPair u4 to x b:=s4.extBut _ _ D.TOi2 to3';refine wpAny_bind (wpAny_seqItems to4 rfl (wpAny_bind (wpAny_updateSeq_pair to4 λ u5 to5 s5=>wpAny_bind (wpAny_letGo (wpAny_pure (wpAny_pure ?_))))));have to5':IsPair u5 to x y:=to5;refine wpAny_bind (wpAny_seqItems to5' rfl (wpAny_bind (wpAny_newTuple ?_)));have sz:u5.objs.size=s.heap.objs.size:=by rw [s5.1,s4.1,s3.1,s2.1,s1.1]
 have z5:IsZip u5 z ti to .ellipsis:=s5.extBut _ _ D.TOz.symm (s4.extBut _ _ D.i2z.symm (s3.extBut _ _ D.TOz.symm (s2.extBut _ _ D.i1z.symm z1')));have kp:∀ c o,c≠z->c≠to->c≠j1->c≠j2->s.heap.get? c=some o->u5.get? c=some o:=λ c o n1 n2 n3 n4 e=>s5.extBut _ _ n2 (s4.extBut _ _ n4 (s3.extBut _ _ n2 (s2.extBut _ _ n3 (s1.extBut _ _ n1 e))));have a1:ItB b1 u5 j1 t1 (k1+1):=((j1'.extBut s3.extBut D.TOi1.symm).extBut s4.extBut D.i12).extBut s5.extBut D.TOi1.symm;have a2:ItB b2 u5 j2 t2 (k2+1):=j2'.extBut s5.extBut D.TOi2.symm;have zl:z<u5.objs.size:=Heap.lt_size z5
 show wpAny _ _ (do let r <- Builtin.SmallTypes.ownedTupleHandOut (.ref z) (.ref u5.objs.size); _) _ _ _
 unfold Builtin.SmallTypes.ownedTupleHandOut;have z6:IsZip (u5.push { cls:=.type "tuple",data:=.seq #[x,y] }) z ti to .ellipsis:=Heap.get?_push_of_some _ z5;refine wpAny_bind (wpAny_bind (wpAny_setField_rec z6 (by simp) λ u7 z7 s7=>?_));have z7':IsZip u7 z ti to (rawInt u5.objs.size):=z7;refine wpAny_setField_rec z7' (by simp) λ u8 z8 s8=>?_;have z8':IsZip u8 z ti to (rawInt u5.objs.size):=z8;have up:∀ c o,c≠z->u5.get? c=some o->u8.get? c=some o:=λ c o n1 e=>s8.extBut _ _ n1 (s7.extBut _ _ n1 (Heap.get?_push_of_some _ e));have nt8:IsPair u8 u5.objs.size x y:=s8.extBut _ _ (cN zl) (s7.extBut _ _ (cN zl) (Heap.get?_push_size _ rfl));rw [sz] at z8' nt8;refine wpAny_pure ⟨_,rfl,?_⟩
 show Q (.ref u5.objs.size) _
 rw [sz];exact q u8 z8' (up _ _ D.TOz to5') (ItB.at' a1 λ o e=>up _ o D.i1z e) (ItB.at' a2 λ o e=>up _ o D.i2z e) nt8 λ c o n1 n2 n3 n4 e=>up c o n1 (kp c o n1 n2 n3 n4 e)
theorem b2h {b1 b2:Bool} {z ti to j1 j2 t1 t2:Addr} {k1 k2:Nat} {xs ys:Array Value} {a b:Value} {Q:fV->Shared->Prop} (hh:A.handled=none) (D:ZipApart z ti to j1 j2 t1 t2)
  (q0:IsZip s.heap z ti to .none) (p1:IsPair s.heap ti (.ref j1) (.ref j2)) (p2:IsPair s.heap to a b)
  (i1:ItB b1 s.heap j1 t1 k1) (i2:ItB b2 s.heap j2 t2 k2) (l1:IsB b1 s.heap t1 xs) (l2:IsB b2 s.heap t2 ys) (en:xs[k1]?=none\/ys[k2]?=none)
  (q:∀ h' e,(∀ c o,c≠z->c≠to->c≠j1->c≠j2->s.heap.get? c=some o->h'.get? c=some o)->(∃ o,h'.get? e=some o/\o.cls=.type "StopIteration")->E (.ref e) { s with heap:=h' }) :
  wpAny (model prog w) A (Builtin.«zip.__next__» ⟨[.ref z],[]⟩) Q E s:=by
 show wpAny _ _ (field (.ref z) 2 >>= _) _ _ _
 refine wpAny_bind (wpAny_field q0 rfl (x:=.bool false) rfl (show wpAny _ _ (field (.ref z) 3 >>= _) _ _ _ from wpAny_bind (wpAny_field q0 rfl (x:=.ref ti) rfl (wpAny_bind (wpAny_seqItems p1 rfl ?_)))))
 show wpAny _ _ (do let free <- Builtin.SmallTypes.ownedTupleIsFree (.ref z); _) _ _ _
 unfold Builtin.SmallTypes.ownedTupleIsFree;refine wpAny_bind (wpAny_bind (wpAny_field q0 rfl (x:=.none) rfl (wpAny_pure ?_)));simp only [if_true];refine wpAny_bind (wpAny_rule (wpAny_bind (wpAny_field q0 rfl (x:=.ref to) rfl (wpAny_bind (wpAny_setField_rec q0 (by simp) λ u1 z1 s1=>?_)))));have z1':IsZip u1 z ti to .ellipsis:=z1;refine wpAny_bind ?_;simp only [gH,gJ,dY,eV]
 cases ex:xs[k1]? with
 | none =>
  refine wpAny_bind (wpAny_bind (wpAny_onRaise (show wpAny _ _ (Builtin.SmallTypes.nextOf (.ref j1) >>= _) _ _ _ from wpAny_bind (Z1 hh (i1.extBut s1.extBut D.i1z) (l1.extBut s1.extBut D.l1z) ex λ u2 e s2 ⟨oe,e1,e2⟩=>?_))));have z2:IsZip u2 z ti to .ellipsis:=s2 _ _ D.i1z.symm z1';have ne:e≠z:=λ c=>by subst c; rw [z2] at e1; cases e1; simp at e2
  exact wpAny_setField_rec z2 (by simp) λ u3 _ s3=>q u3 e (λ c o n1 _ n3 _ m=>s3.extBut _ _ n1 (s2 _ _ n3 (s1.extBut _ _ n1 m))) ⟨oe,s3.extBut _ _ ne e1,e2⟩
 | some x =>
  have ey:ys[k2]?=none:=by
   rcases en with m | m
   ·rw [ex] at m; cases m
   ·exact m
  refine wpAny_bind (wpAny_bind (wpAny_onRaise (show wpAny _ _ (Builtin.SmallTypes.nextOf (.ref j1) >>= _) _ _ _ from wpAny_bind (K9 (i1.extBut s1.extBut D.i1z) (l1.extBut s1.extBut D.l1z) ex λ u2 j1' s2=>wpAny_pure ?_))));have to2:IsPair u2 to a b:=s2.extBut _ _ D.TOi1 (s1.extBut _ _ D.TOz p2);refine wpAny_bind (wpAny_seqItems to2 rfl (wpAny_bind (wpAny_updateSeq_pair to2 λ u3 to3 s3=>wpAny_bind (wpAny_letGo (wpAny_pure ?_)))));refine wpAny_bind (wpAny_bind (wpAny_onRaise (show wpAny _ _ (Builtin.SmallTypes.nextOf (.ref j2) >>= _) _ _ _ from wpAny_bind (Z1 hh (((i2.extBut s1.extBut D.i2z).extBut s2.extBut D.i12.symm).extBut s3.extBut D.TOi2.symm)
   (((l2.extBut s1.extBut D.l2z).extBut s2.extBut D.l2i1).extBut s3.extBut D.l2TO) ey λ u4 e s4 ⟨oe,e1,e2⟩=>?_))))
  have z4:IsZip u4 z ti to .ellipsis:=s4 _ _ D.i2z.symm (s3.extBut _ _ D.TOz.symm (s2.extBut _ _ D.i1z.symm z1'));have ne:e≠z:=λ c=>by subst c; rw [z4] at e1; cases e1; simp at e2
  exact wpAny_setField_rec z4 (by simp) λ u5 _ s5=>q u5 e (λ c o n1 n2 n3 n4 m=>s5.extBut _ _ n1 (s4 _ _ n4 (s3.extBut _ _ n2 (s2.extBut _ _ n3 (s1.extBut _ _ n1 m))))) ⟨oe,s5.extBut _ _ ne e1,e2⟩
theorem b0L {b1 b2:Bool} {z ti to j1 j2 t1 t2:Addr} {k1 k2:Nat} {xs ys:Array Value} {x y a b:Value} {Q:Option Value->Shared->Prop} (D:ZipApart z ti to j1 j2 t1 t2)
  (q0:IsZip s.heap z ti to .none) (p1:IsPair s.heap ti (.ref j1) (.ref j2)) (p2:IsPair s.heap to a b)
  (i1:ItB b1 s.heap j1 t1 k1) (i2:ItB b2 s.heap j2 t2 k2) (l1:IsB b1 s.heap t1 xs) (l2:IsB b2 s.heap t2 ys) (ex:xs[k1]?=some x) (ey:ys[k2]?=some y)
  (q:∀ h',IsZip h' z ti to (rawInt s.heap.objs.size)->IsPair h' to x y->ItB b1 h' j1 t1 (k1+1)->ItB b2 h' j2 t2 (k2+1)->IsPair h' s.heap.objs.size x y →
   (∀ c o,c≠z->c≠to->c≠j1->c≠j2->s.heap.get? c=some o->h'.get? c=some o)->Q (some (.ref s.heap.objs.size)) { s with heap:=h' }) :
  wpAny (model prog w) A (pyNext (.ref z)) Q E s:=by
 have ty:s.TypeIs (.ref z) "zip":=⟨_,q0,rfl⟩;unfold pyNext;exact wpAny_bind (wpAny_attempt (wpAny_callSpecial?_slot (name:=Str.ofString "__next__") ty F.slot_zip_next (wpAny_call_entry F.slot_zip_next ty F.entry_zip_next
  (b1q D q0 p1 p2 i1 i2 l1 l2 ex ey λ h' b1 b2 b3 b4 b5 b6=>wpAny_pure (q h' b1 b2 b3 b4 b5 b6)) (F.args_zip_next_1 _))))
theorem b1t {b1 b2:Bool} {z ti to j1 j2 t1 t2:Addr} {k1 k2:Nat} {xs ys:Array Value} {a b:Value} {Q:Option Value->Shared->Prop} (hh:A.handled=none) (D:ZipApart z ti to j1 j2 t1 t2)
  (q0:IsZip s.heap z ti to .none) (p1:IsPair s.heap ti (.ref j1) (.ref j2)) (p2:IsPair s.heap to a b)
  (i1:ItB b1 s.heap j1 t1 k1) (i2:ItB b2 s.heap j2 t2 k2) (l1:IsB b1 s.heap t1 xs) (l2:IsB b2 s.heap t2 ys) (en:xs[k1]?=none\/ys[k2]?=none)
  (q:∀ h',(∀ c o,c≠z->c≠to->c≠j1->c≠j2->s.heap.get? c=some o->h'.get? c=some o)->Q none { s with heap:=h' }):wpAny (model prog w) A (pyNext (.ref z)) Q E s:=by
 have ty:s.TypeIs (.ref z) "zip":=⟨_,q0,rfl⟩;unfold pyNext;refine wpAny_bind (wpAny_attempt (wpAny_callSpecial?_slot (name:=Str.ofString "__next__") ty F.slot_zip_next (wpAny_call_entry F.slot_zip_next ty F.entry_zip_next
  (b2h hh D q0 p1 p2 i1 i2 l1 l2 en λ h' e kp ⟨o,e1,e2⟩=>wpAny_bind (wpAny_isInstance (T:="StopIteration") (b:=true) ⟨o,e1,e2⟩ isSubtype_stop (wpAny_pure (q _ kp)))) (F.args_zip_next_1 _))))
end
abbrev zg1 (b1:Bool) (h:Heap) (t1:Addr):Heap:=h.push { cls:=.type (itN b1),data:=.fields #[.ref t1,.int 0 0] }
abbrev zg2 (b1 b2:Bool) (h:Heap) (t1 t2:Addr):Heap:=(zg1 b1 h t1).push { cls:=.type (itN b2),data:=.fields #[.ref t2,.int 0 0] }
abbrev zg3 (b1 b2:Bool) (h:Heap) (t1 t2:Addr):Heap:=(zg2 b1 b2 h t1 t2).push { cls:=.type "tuple",data:=.seq #[.ref h.objs.size,.ref (zg1 b1 h t1).objs.size] }
abbrev zg4 (b1 b2:Bool) (h:Heap) (t1 t2:Addr):Heap:=(zg3 b1 b2 h t1 t2).push { cls:=.type "tuple",data:=.seq #[.none,.none] }
abbrev zg5 (b1 b2:Bool) (h:Heap) (t1 t2:Addr):Heap:=(zg4 b1 b2 h t1 t2).push { cls:=.type "zip",data:=.fields #[.none,.bool false,.bool false,.ref (zg2 b1 b2 h t1 t2).objs.size,.ref (zg3 b1 b2 h t1 t2).objs.size] }
theorem b3b (b1 b2:Bool) (t1 t2:Addr) (xs ys:Array Value) :
  Meets (Builtin.«zip.__new__» ⟨[.type "zip",.ref t1,.ref t2],[]⟩) (λ _ R s=>IsB b1 s.heap t1 xs/\IsB b2 s.heap t2 ys/\R (.ok (.ret (.ref (zg4 b1 b2 s.heap t1 t2).objs.size))) { s with heap:=zg5 b1 b2 s.heap t1 t2 }) :=
 .of_wp λ prog w A R s h=>by
  obtain ⟨hp,g,d,tk,os⟩:=s;obtain ⟨e1,e2,h⟩:=h;have hsub:=sub_zip;have m1:IsB b1 (Shared.heap ⟨hp,g,d,tk,os⟩) t1 xs:=e1;have m2:IsB b2 (Shared.heap ⟨hp.push { cls:=.type (itN b1),data:=.fields #[.ref t1,.int 0 0] },g,d,tk,os⟩) t2 ys:=IsB.push e2 _
  wp_walk using b1O m1,b1O m2
  exact ⟨_,rfl,h⟩
section
variable {prog:Program} {w:World} {A:Around} {E:Value->Shared->Prop} {s:Shared}
theorem a6t {b1 b2:Bool} {t1 t2:Addr} {xs ys:Array Value} {Q:Value->Shared->Prop} (l1:IsB b1 s.heap t1 xs) (l2:IsB b2 s.heap t2 ys)
  (q:∀ h',IsZip h' (s.heap.objs.size+4) (s.heap.objs.size+2) (s.heap.objs.size+3) .none->IsPair h' (s.heap.objs.size+2) (.ref s.heap.objs.size) (.ref (s.heap.objs.size+1))->IsPair h' (s.heap.objs.size+3) .none .none →
   ItB b1 h' s.heap.objs.size t1 0->ItB b2 h' (s.heap.objs.size+1) t2 0->(∀ c o,s.heap.get? c=some o->h'.get? c=some o)->Q (.ref (s.heap.objs.size+4)) { s with heap:=h' }) :
  wpAny (model prog w) A (call (.type "zip") [.ref t1,.ref t2]) Q E s:=by
 refine callType_new F.called_zip (by decide) (F.typeCall_zip_2 _ _) (F.newCall_zip_2 _ _) (λ ob=>F.args_object_init_3 ob _ _) F.entry_zip_new (b3b b1 b2 t1 t2 xs ys) ⟨l1,l2,?_⟩;have n1:(zg1 b1 s.heap t1).objs.size=s.heap.objs.size+1:=Heap.size_push ..;have n2:(zg2 b1 b2 s.heap t1 t2).objs.size=s.heap.objs.size+2:=by rw [Heap.size_push,n1]
 have n3:(zg3 b1 b2 s.heap t1 t2).objs.size=s.heap.objs.size+3:=by rw [Heap.size_push,n2]
 have n4:(zg4 b1 b2 s.heap t1 t2).objs.size=s.heap.objs.size+4:=by rw [Heap.size_push,n3]
 have p5:(zg5 b1 b2 s.heap t1 t2).get? (zg4 b1 b2 s.heap t1 t2).objs.size=some _:=Heap.get?_push_size _ rfl;have p4:(zg5 b1 b2 s.heap t1 t2).get? (zg3 b1 b2 s.heap t1 t2).objs.size=some _:=Heap.get?_push_of_some _ (Heap.get?_push_size _ rfl);have p3:(zg5 b1 b2 s.heap t1 t2).get? (zg2 b1 b2 s.heap t1 t2).objs.size=some _:=Heap.get?_push_of_some _ (Heap.get?_push_of_some _ (Heap.get?_push_size _ rfl));have p2:(zg5 b1 b2 s.heap t1 t2).get? (zg1 b1 s.heap t1).objs.size=some _:=Heap.get?_push_of_some _ (Heap.get?_push_of_some _ (Heap.get?_push_of_some _ (Heap.get?_push_size _ rfl)));have p1:(zg5 b1 b2 s.heap t1 t2).get? s.heap.objs.size=some _:=Heap.get?_push_of_some _ (Heap.get?_push_of_some _ (Heap.get?_push_of_some _ (Heap.get?_push_of_some _ (Heap.get?_push_size _ rfl))));rw [n2,n3,n4] at p5;rw [n1,n2] at p3;rw [n3] at p4;rw [n1] at p2
 show _/\_
 rw [n4];refine ⟨⟨_,p5,rfl⟩,q _ p5 p3 p4 (ItB.mk p1) (ItB.mk p2) λ c o m=>?_⟩;exact Heap.get?_push_of_some _ (Heap.get?_push_of_some _ (Heap.get?_push_of_some _ (Heap.get?_push_of_some _ (Heap.get?_push_of_some _ m))))
end
def Itg (b1 b2:Bool) (K:W.Frag) (l1 l2:Addr):It :=
  ⟨λ i H=>∃ xs ys x y,SqB b1 K H l1 xs/\SqB b2 K H l2 ys/\xs[i]?=some x/\ys[i]?=some y,
   λ i H x H'=>∃ p a b,H p=none/\x=.ref p/\H'=upd H p (.tup [a,b])/\∀ xs ys,SqB b1 K H l1 xs->SqB b2 K H l2 ys->xs[i]?=some a/\ys[i]?=some b,
   λ i H=>∃ xs ys,SqB b1 K H l1 xs/\SqB b2 K H l2 ys/\(xs.length<=i\/ys.length<=i)⟩
theorem b0E {b1 b2:Bool} {P:Program} {w:World} {K:W.Frag} {elts:List Expr} {x1:Nat} {pos:Pos} {z ti to j1 j2 l1 l2:Addr} (D:ZipApart z ti to j1 j2 l1 l2) :
  a5r P w K (.Tuple elts x1 pos) (Itg b1 b2 K l1 l2) [z,ti,to,j1,j2] z (λ i h=>IsZip h z ti to .none/\IsPair h ti (.ref j1) (.ref j2)/\(∃ a b,IsPair h to a b)/\ItB b1 h j1 l1 i/\ItB b2 h j2 l2 i) where
 mem:=by simp
 obj:=λ i h st b hb=>by
  obtain ⟨hz,hti,⟨a,c,hto⟩,h1,h2⟩:=st;obtain ⟨o1,e1,v1,d1⟩:=h1.obj;obtain ⟨o2,e2,v2,d2⟩:=h2.obj;simp only [aH,bA,or_false] at hb;rcases hb with rfl | rfl | rfl | rfl | rfl
  ·exact ⟨_,hz,λ v q=>by cases q⟩
  ·exact ⟨_,hti,λ v q=>by cases q⟩
  ·exact ⟨_,hto,λ v q=>by cases q⟩
  ·exact ⟨o1,e1,λ v q=>by rw [d1] at q; cases q⟩
  ·exact ⟨o2,e2,λ v q=>by rw [d2] at q; cases q⟩
 keep:=λ i h h' st k=>by
  obtain ⟨hz,hti,⟨a,c,hto⟩,h1,h2⟩:=st;exact ⟨k z (by simp) _ hz,k ti (by simp) _ hti,⟨a,c,k to (by simp) _ hto⟩,ItB.at' h1 λ o e=>k j1 (by simp) o e,ItB.at' h2 λ o e=>k j2 (by simp) o e⟩
 item:=by
  intro X hP hw hK hc i pins s σ H E I hf st hg;subst hP hw hK;obtain ⟨xs,ys,x,y,hq1,hq2,hx,hy⟩:=hg;obtain ⟨hz,hti,⟨a,c,hto⟩,h1,h2⟩:=st;obtain ⟨its1,rv1,p1,_⟩:=I.sqB hq1;obtain ⟨its2,rv2,p2,_⟩:=I.sqB hq2;obtain ⟨u1,hu1,ru1⟩:=rv1.get hx;obtain ⟨u2,hu2,ru2⟩:=rv2.get hy;refine b0L D hz hti hto h1 h2 p1 p2 (x:=u1) (y:=u2) (by simpa using hu1) (by simpa using hu2) λ h' a1 a2 a3 a4 a5 a7=>?_;refine ⟨_,rfl,wpAny_letOwnedTupleGo_zip (s:={ s with heap:=h' }) a1 λ h'' hz'' hs''=>?_⟩;have neT:∀ b∈[z,ti,to,j1,j2],b≠s.heap.objs.size:=λ b hb e=>by
   have:∃ o,s.heap.get? b=some o:=by
    obtain ⟨o1,e1,_⟩:=h1.obj;obtain ⟨o2,e2,_⟩:=h2.obj;simp only [aH,bA,or_false] at hb;rcases hb with rfl | rfl | rfl | rfl | rfl
    ·exact ⟨_,hz⟩
    ·exact ⟨_,hti⟩
    ·exact ⟨_,hto⟩
    ·exact ⟨_,e1⟩
    ·exact ⟨_,e2⟩
   obtain ⟨o,ho⟩:=this;exact absurd (Heap.lt_size ho) (by rw [e]; exact bJ _)
  have kk:∀ b o,b ∉ [z,ti,to,j1,j2]->s.heap.get? b=some o->h''.get? b=some o:=λ b o hb e=>by
   simp only [aH,bA,or_false,not_or] at hb;exact hs''.extBut b o hb.1 (a7 b o hb.1 hb.2.2.1 hb.2.2.2.1 hb.2.2.2.2 e)
  have tti:h'.get? ti=_:=a7 ti _ D.TIz D.TITO D.TIi1 D.TIi2 hti;have st':IsZip h'' z ti to .none/\IsPair h'' ti (.ref j1) (.ref j2)/\(∃ a b,IsPair h'' to a b)/\ItB b1 h'' j1 l1 (i+1)/\ItB b2 h'' j2 l2 (i+1) :=
   ⟨hz'',hs''.extBut _ _ D.TIz tti,⟨_,_,hs''.extBut _ _ D.TOz a2⟩,a3.extBut hs''.extBut D.i1z,a4.extBut hs''.extBut D.i2z⟩
  have hoF:∀ b∈[z,ti,to,j1,j2],∃ o,h''.get? b=some o:=λ b hb=>by
   obtain ⟨q1,q2,⟨_,_,q3⟩,q4,q5⟩:=st';obtain ⟨o1,e1,_⟩:=q4.obj;obtain ⟨o2,e2,_⟩:=q5.obj;simp only [aH,bA,or_false] at hb;rcases hb with rfl | rfl | rfl | rfl | rfl
   ·exact ⟨_,q1⟩
   ·exact ⟨_,q2⟩
   ·exact ⟨_,q3⟩
   ·exact ⟨_,e1⟩
   ·exact ⟨_,e2⟩
  have zs:z≠s.heap.objs.size:=neT z (by simp);have tup:IsTup h'' s.heap.objs.size [u1,u2].toArray:=⟨_,hs''.extBut _ _ (aQ zs) a5,rfl,0,rfl⟩;refine ⟨.ref s.heap.objs.size,upd H s.heap.objs.size (.tup [x,y]),I.turnedLaid (h':=h'') hf kk hoF (aE _) (by show 2<=sizeLine; decide) (.cons ru1 (.cons ru2 .nil)) tup,rfl,⟨_,x,y,I.fresh,rfl,rfl,λ xs' ys' q1 q2=>?_⟩,st',λ b hb=>?_⟩
  ·rw [I.sqB_inj q1 hq1,I.sqB_inj q2 hq2]; exact ⟨hx,hy⟩
  ·rw [c9 (neT b hb)]; exact (hf b hb).1
 done:=by
  intro X hP hw hK hc i pins s σ H E I hf st hg;subst hP hw hK;obtain ⟨xs,ys,hq1,hq2,hend⟩:=hg;obtain ⟨hz,hti,⟨a,c,hto⟩,h1,h2⟩:=st;obtain ⟨its1,rv1,p1,_⟩:=I.sqB hq1;obtain ⟨its2,rv2,p2,_⟩:=I.sqB hq2;have hl1:=rv1.length;have hl2:=rv2.length;refine b1t (I.ok.hd hc) D hz hti hto h1 h2 p1 p2 (by
   rcases hend with q | q
   ·exact .inl (by simp; omega)
   ·exact .inr (by simp; omega)) λ h' k=>⟨rfl,I.turnedAll hf λ b o hb e=>?_⟩
  simp only [aH,bA,or_false,not_or] at hb;exact k b o hb.1 hb.2.2.1 hb.2.2.2.1 hb.2.2.2.2 e
 self:=λ _ _ _ _ _ st h=>wpAny_pyIter_zip st.1 h
def iZg (b1 b2:Bool) (K:W.Frag) (ta:TA):TI:=λ σ H R=>ta σ H λ vs H1=>∃ l1 l2,vs=[.ref l1,.ref l2]/\(∃ xs,SqB b1 K H1 l1 xs)/\(∃ ys,SqB b2 K H1 l2 ys)/\R (Itg b1 b2 K l1 l2) H1
theorem a8t (b1 b2:Bool) (K:W.Frag) {X:Cx} {a b:Expr} {ta:TA} {p pos pos':Pos} {elts:List Expr} {x1:Nat} (hK:X.K=K) (hg:Gl X "zip") (hm:X.mg "zip"=none) (ha:PA X [a,b] ta) (hs:starEach [a,b] X.env=[(false,eval a X.env),(false,eval b X.env)]:=by rfl) (hs2:starEach [b] X.env=[(false,eval b X.env)]:=by rfl) :
  PI X (.Tuple elts x1 pos') (.Call (.Name "zip" p) [a,b] [] pos) (iZg b1 b2 K ta):=by
 subst hK;intro pins s σ H R I h;refine Call_ (U0 I hg hm boot_zip (fC (y9 (ha pos pins s σ H _ I h) λ us s1 ⟨vs,H1,I1,r1,q1⟩=>?_) (by rw [hs,hs2]) (by rw [hs2]; rfl)));obtain ⟨l1,l2,e,⟨xs,q1⟩,⟨ys,q2⟩,q⟩:=q1;subst e;obtain ⟨u1,u2,rfl,ru1,ru2⟩:=a1x r1
 cases ru1
 cases ru2;obtain ⟨its1,rv1,p1,_⟩:=I1.sqB q1;obtain ⟨its2,rv2,p2,_⟩:=I1.sqB q2;refine a6t p1 p2 λ h' z1 z2 z3 z4 z5 k=>?_;have I2:Inv X pins σ H1 { s1 with heap:=h' }:=I1.kept (t':=s1.toks) k;refine wpAny_pyIter_zip z1 ?_;have D:ZipApart (s1.heap.objs.size+4) (s1.heap.objs.size+2) (s1.heap.objs.size+3) s1.heap.objs.size (s1.heap.objs.size+1) l1 l2:=a8Z _ _ _ p1.lt p2.lt;refine ⟨s1.heap.objs.size+4,[s1.heap.objs.size+4,s1.heap.objs.size+2,s1.heap.objs.size+3,s1.heap.objs.size,s1.heap.objs.size+1],_,_,H1,rfl,I2,b0E D,⟨z1,z2,⟨_,_,z3⟩,z4,z5⟩,λ b hb=>?_,q⟩;have hb':s1.heap.objs.size<=b:=by
  simp only [aH,bA,or_false] at hb;rcases hb with rfl | rfl | rfl | rfl | rfl
  ·exact dM _ _
  ·exact dM _ _
  ·exact dM _ _
  ·exact aE _
  ·exact dM _ _
 exact I1.fpOk hb' (I1.hok.fresh hb')
section
variable {b1 b2:Bool} {xs ys:List V} {K:W.Frag} {l1 l2:Addr} {fr:List Nat} {te:TE} {σ:St} {H1:Hp} {p:Addr} {D:Hp->Prop}
theorem a5Y (h1:SqB b1 K H1 l1 xs) (h2:SqB b2 K H1 l2 ys) (hp:H1 p=none) (hz:xs.length<sizeLine) (R:Nat->V->Hp->Prop) (hR:∀ i y H H',R i y H->(∀ b o,b≠p->H b=some o->H' b=some o)->R i y H')
  (step:∀ (i:Nat) x y H zs (N:VK),xs[i]?=some x->ys[i]?=some y->Same H1 H->H p=some (.lst zs)->(∀ v H3,Same H H3->R i v H3->N v H3)->te (((blkσ 2 fr σ).set 0 (some x)).set 1 (some y)) H N)
  (hd:∀ zs H,Same H1 H->H p=some (.lst zs)->zs.length=min xs.length ys.length->(∀ i z,zs[i]?=some z->R i z H)->D H):lcW 2 fr (a5k K 2 (Y2 (M7 0) (Y2 (M7 1) a8a))) te σ (Itg b1 b2 K l1 l2) H1 p D:=by
 refine ⟨λ i m zs H=>m=min xs.length ys.length - i/\i<=min xs.length ys.length/\Same H1 H/\H p=some (.lst zs)/\zs.length=i/\∀ j y,zs[j]?=some y->R j y H,⟨_,rfl,bU _,Same.new hp _,upd_same,rfl,λ j y e=>by simp at e⟩,?_⟩;rintro i m zs H ⟨rfl,hi,e,hH,len,pr⟩
 by_cases hlt:i<min xs.length ys.length
 ·have hx:i<xs.length:=by omega
  have hy:i<ys.length:=by omega
  refine .inr ⟨⟨xs,ys,xs[i],ys[i],e.sqB h1,e.sqB h2,aG hx,aG hy⟩,λ u H' y=>?_⟩;obtain ⟨q,a,b,hq,rfl,rfl,hab⟩:=y;obtain ⟨ha,hb⟩:=hab xs ys (e.sqB h1) (e.sqB h2);have s1:=Same.new hq (.tup [a,b]);refine ⟨q,_,rfl,SqT.of upd_same,rfl,_,_,rfl,_,_,rfl,rfl,?_,?_⟩
  ·refine ⟨by simp,λ k w ek=>?_⟩
   have:¬ k<2:=λ hk=>by
    unfold blkσ at ek;rw [bQ (by simpa using hk),dG] at ek
    split at ek <;> cases ek
   rw [bC (by omega),bC (by omega)]; exact ek
  ·refine step i a b _ zs _ ha hb (e.trans s1) (s1 _ _ hH) λ v H3 s3 r3=>⟨s3 _ _ (s1 _ _ hH),by omega,min xs.length ys.length - (i+1),by omega,rfl,hlt,λ b' o q'=>?_,upd_same,by rw [aM,len]; rfl,λ j y ey=>?_⟩
   ·rw [c9 (d9 q' hp)]; exact s3 _ _ (s1 _ _ (e _ _ q'))
   ·have up:∀ b o,b≠p->H3 b=some o->upd H3 p (.lst (zs++[v])) b=some o:=λ b o hb q=>by rw [c9 hb]; exact q
    by_cases hj:j<zs.length
    ·rw [bQ hj] at ey
     exact hR j y _ _ (pr j y ey) λ b o hb q=>up b o hb (s3 _ _ (s1 _ _ q))
    ·rw [cA (by omega)] at ey
     have hj':j - zs.length=0:=by
      cases q:j - zs.length with
      | zero=>rfl
      | succ k=>rw [q] at ey; simp at ey
     rw [hj'] at ey;have:j=i:=by omega
     subst this;simp at ey;subst ey;exact hR j v _ _ r3 up
 ·have:i=min xs.length ys.length:=by omega
  subst this;exact .inl ⟨⟨xs,ys,e.sqB h1,e.sqB h2,by omega⟩,hd zs H e hH len pr⟩
theorem b4D (h1:SqB b1 K H1 l1 xs) (h2:SqB b2 K H1 l2 ys) (hp:H1 p=none) (hz:xs.length<sizeLine) (F:V->V->V)
  (step:∀ (i:Nat) x y H (N:VK),xs[i]?=some x->ys[i]?=some y->Same H1 H->N (F x y) H->te (((blkσ 2 fr σ).set 0 (some x)).set 1 (some y)) H N)
  (hd:∀ H,Same H1 H->H p=some (.lst (cD F xs ys))->D H):lcW 2 fr (a5k K 2 (Y2 (M7 0) (Y2 (M7 1) a8a))) te σ (Itg b1 b2 K l1 l2) H1 p D:=by
 refine a5Y h1 h2 hp hz (λ i v _=>∀ x y,xs[i]?=some x->ys[i]?=some y->v=F x y) (λ _ _ _ _ r _=>r) (λ i x y H zs N hx hy e _ hN=>step i x y H N hx hy e (hN _ _ (Same.refl _) λ x' y' ex ey=>?_)) λ zs H e hH hl hr=>hd H e ?_
 ·rw [hx] at ex; rw [hy] at ey; cases ex; cases ey; rfl
 ·rw [hH]
  congr 2
  refine cJ λ i=>?_
  by_cases hi:i<min xs.length ys.length
  ·have a1:i<zs.length:=by omega
   have a2:i<xs.length:=by omega
   have a3:i<ys.length:=by omega
   rw [aG a1,aG (by rw [fF]; exact hi),List.getElem_zipWith,hr i _ (aG a1) _ _ (aG a2) (aG a3)]
  ·rw [bL (by omega),bL (by rw [fF]; omega)]
end
def Ite (K:W.Frag) (l:Addr):It :=
  ⟨λ i H=>∃ xs x,SqL K H l xs/\xs[i]?=some x,
   λ i H x H'=>∃ p a,H p=none/\x=.ref p/\H'=upd H p (.tup [.int (i:Int),a])/\∀ xs,SqL K H l xs->xs[i]?=some a,
   λ i H=>∃ xs,SqL K H l xs/\xs.length<=i⟩
theorem a7E {P:Program} {w:World} {K:W.Frag} {elts:List Expr} {x1:Nat} {pos:Pos} {e it l:Addr} (hne:e≠it) (hle:l≠e) (hli:l≠it) :
  a5r P w K (.Tuple elts x1 pos) (Ite K l) [e,it] e (λ i h=>(∃ old,IsEnum h e it (i:Int) old)/\h.IsListIter it l i) where
 mem:=by simp
 obj:=λ i h st b hb=>by
  obtain ⟨⟨old,he⟩,⟨o1,e1,c1,d1⟩⟩:=st;simp only [aH,bA,or_false] at hb;rcases hb with rfl | rfl
  ·exact ⟨_,he,λ v q=>by cases q⟩
  ·exact ⟨o1,e1,λ v q=>by rw [d1] at q; cases q⟩
 keep:=λ i h h' st k=>by
  obtain ⟨⟨old,he⟩,h1⟩:=st;exact ⟨⟨old,k e (by simp) _ he⟩,h1.at λ o q=>k it (by simp) o q⟩
 item:=by
  intro X hP hw hK hc i pins s σ H E I hf st hg;subst hP hw hK;obtain ⟨xs,x,hq,hx⟩:=hg;obtain ⟨⟨old,he⟩,h1⟩:=st;obtain ⟨its,rv,p,_⟩:=I.list hq;obtain ⟨u,hu,ru⟩:=rv.get hx;refine wpAny_pyNext_enum_item he h1 p.isList (x:=u) (by simpa using hu) hne λ h' a1 a2 a3 a4 a5=>?_;refine ⟨_,rfl,wpAny_letOwnedTupleGo_enum (s:={ s with heap:=h',toks:=s.toks+1 }) a1 λ h'' he'' hs''=>?_⟩;have ie:s.heap.get? e=_:=he;obtain ⟨o1,ei,_⟩:=id h1;have neT:∀ b∈[e,it],b≠s.heap.objs.size:=λ b hb q=>by
   have:∃ o,s.heap.get? b=some o:=by
    simp only [aH,bA,or_false] at hb;rcases hb with rfl | rfl
    ·exact ⟨_,ie⟩
    ·exact ⟨_,ei⟩
   obtain ⟨o,ho⟩:=this;exact absurd (Heap.lt_size ho) (by rw [q]; exact bJ _)
  have kk:∀ b o,b ∉ [e,it]->s.heap.get? b=some o->h''.get? b=some o:=λ b o hb q=>by
   simp only [aH,bA,or_false,not_or] at hb;exact hs''.extBut b o hb.1 (a5 b o hb.1 hb.2 q)
  have it'':h''.IsListIter it l (i+1):=a2.extBut hs''.extBut (aQ hne);have hoF:∀ b∈[e,it],∃ o,h''.get? b=some o:=λ b hb=>by
   obtain ⟨o2,e2,_⟩:=it'';simp only [aH,bA,or_false] at hb;rcases hb with rfl | rfl
   ·exact ⟨_,he''⟩
   ·exact ⟨_,e2⟩
  have es:e≠s.heap.objs.size:=neT e (by simp);have tup:IsTup h'' s.heap.objs.size [Value.int (i:Int) s.toks,u].toArray:=⟨_,hs''.extBut _ _ (aQ es) a3,rfl,0,rfl⟩;refine ⟨.ref s.heap.objs.size,upd H s.heap.objs.size (.tup [.int (i:Int),x]),(I.turnedLaid (h':=h'') hf kk hoF (aE _) (by show 2<=sizeLine; decide) (show Vals [.int (i:Int),x] [Value.int (i:Int) s.toks,u] from .cons ⟨_,rfl⟩ (.cons ru .nil)) tup).tok _,rfl,⟨_,x,I.fresh,rfl,rfl,λ xs' q1=>?_⟩,⟨⟨_,he''⟩,it''⟩,λ b hb=>?_⟩
  ·rw [I.list_inj q1 hq]; exact hx
  ·rw [c9 (neT b hb)]; exact (hf b hb).1
 done:=by
  intro X hP hw hK hc i pins s σ H E I hf st hg;subst hP hw hK;obtain ⟨xs,hq,hend⟩:=hg;obtain ⟨⟨old,he⟩,h1⟩:=st;obtain ⟨its,rv,p,_⟩:=I.list hq;have hl:=rv.length;refine wpAny_pyNext_enum_end (I.ok.hd hc) he h1 p.isList (by simp; omega) λ h' k=>⟨rfl,I.turnedAll hf λ b o hb q=>?_⟩;simp only [aH,bA,or_false,not_or] at hb;exact k b o hb.2 q
 self:=λ _ _ _ _ _ st h=>by
  obtain ⟨⟨old,he⟩,_⟩:=st;exact wpAny_pyIter_enum he h
def b4c (K:W.Frag) (ta:TA):TI:=λ σ H R=>ta σ H λ vs H1=>∃ l,vs=[.ref l]/\(∃ xs,SqL K H1 l xs)/\R (Ite K l) H1
theorem a6B (K:W.Frag) {X:Cx} {a:Expr} {ta:TA} {p pos pos':Pos} {elts:List Expr} {x1:Nat} (hK:X.K=K) (hg:Gl X "enumerate") (hm:X.mg "enumerate"=none) (ha:PA X [a] ta) (hs:starEach [a] X.env=[(false,eval a X.env)]:=by rfl) (hs2:starEach ([]:List Expr) X.env=[]:=by rfl) :
  PI X (.Tuple elts x1 pos') (.Call (.Name "enumerate" p) [a] [] pos) (b4c K ta):=by
 subst hK;intro pins s σ H R I h;refine Call_ (U0 I hg hm boot_enumerate (fC (y9 (ha pos pins s σ H _ I h) λ us s1 ⟨vs,H1,I1,r1,q1⟩=>?_) (by rw [hs,hs2]) (by rw [hs2]; rfl)));obtain ⟨l,e,⟨xs,q1⟩,q⟩:=q1;subst e;obtain ⟨u,rfl,ru⟩:=P6 r1
 cases ru;obtain ⟨its,rv,p,_⟩:=I1.list q1;have lt1:l<s1.heap.objs.size:=by obtain ⟨_,e,_⟩:=p.isList; exact Heap.lt_size e
 refine call_enumerate_list p.isList λ h' z1 z2 z3 k=>?_;have I2:Inv X pins σ H1 { s1 with heap:=h' }:=I1.kept (t':=s1.toks) k;refine wpAny_pyIter_enum z1 ?_;refine ⟨s1.heap.objs.size+1,[s1.heap.objs.size+1,s1.heap.objs.size],_,_,H1,rfl,I2,a7E (l:=l) (e:=s1.heap.objs.size+1) (it:=s1.heap.objs.size) (Nat.succ_ne_self _) (bI (fU lt1)) (bI lt1),⟨⟨_,z1⟩,z2⟩,λ b hb=>?_,q⟩;have hb':s1.heap.objs.size<=b:=by
  simp only [aH,bA,or_false] at hb;rcases hb with rfl | rfl
  ·exact gX _
  ·exact aE _
 exact I1.fpOk hb' (I1.hok.fresh hb')
section
variable {xs ys:List V} {K:W.Frag} {l1 l2:Addr} {fr:List Nat} {te:TE} {σ:St} {H1:Hp} {p:Addr} {D:Hp->Prop}
theorem a4O {i1 i2:Nat} {tb:TS} {D:Ends} {H:Hp} (Pv:Nat->St->Hp->Prop) (h0:Pv 0 σ H) (hl:∀ i σ H,Pv i σ H->SqL K H l1 xs)
  (hs:∀ i x σ H q,xs[i]?=some x->Pv i σ H->H q=none->tb { D with nx:=Pv (i+1),ct:=Pv (i+1),bk:=D.nx } ((σ.set i1 (some (.int (i:Int)))).set i2 (some x)) (upd H q (.tup [.int (i:Int),x]))) (hd:∀ σ H,Pv xs.length σ H->D.nx σ H) :
  ∃ W:Nat->Nat->St->Hp->Prop,(∃ m,W 0 m σ H)/\∀ i m σ H,W i m σ H →
   ((Ite K l1).stop i H/\D.nx σ H)\/((Ite K l1).go i H/\∃ N:St->Hp->Prop,(∀ σ' H',N σ' H'->∃ m',m'<m/\W (i+1) m' σ' H')/\∀ x H',(Ite K l1).yld i H x H'->a5k K 2 (Y2 (M7 i1) (Y2 (M7 i2) a8a)) x σ H' λ σ2 H2=>tb { D with nx:=N,ct:=N,bk:=D.nx } σ2 H2):=by
 refine ⟨λ i m σ H=>m=xs.length - i/\i<=xs.length/\Pv i σ H,⟨_,rfl,bU _,h0⟩,?_⟩;rintro i m σ H ⟨rfl,hi,p⟩;have q1:=hl i σ H p
 by_cases hlt:i<xs.length
 ·refine .inr ⟨⟨xs,xs[i],q1,aG hlt⟩,Pv (i+1),λ σ' H' p'=>⟨xs.length - (i+1),by omega,rfl,hlt,p'⟩,λ u H' y=>?_⟩
  obtain ⟨q,a,hq,rfl,rfl,hab⟩:=y;have ha:=hab xs q1;exact ⟨q,_,rfl,SqT.of upd_same,rfl,_,_,rfl,_,_,rfl,rfl,hs i a σ H q ha p hq⟩
 ·have:i=xs.length:=by omega
  subst this;exact .inl ⟨⟨xs,q1,by omega⟩,hd σ H p⟩
end
end L2
namespace Fr
abbrev Q2:=Int×Int
def gI (a b:Int):Int:=(iD a b:Int)
def low (t b:Int):Q2:=(t / gI t b,b / gI t b)
def a9a (f:Q2):Prop:=0<f.2/\iD f.1 f.2=1
theorem Z9 (a b:Int):0<=gI a b:=Int.natCast_nonneg _
theorem N1 (a b:Int):gI a b∣a:=Int.gcd_dvd_left ..
theorem A9 (a b:Int):gI a b∣b:=Int.gcd_dvd_right ..
theorem a5e {a b:Int} (hb:0<b):0<gI a b:=by
 have h0:=Z9 a b
 by_cases z:gI a b=0
 ·have:=A9 a b
  rw [z,Int.zero_dvd] at this;omega
 ·omega
theorem b3F {a b:Int} (hb:0<b):gI a b<=b:=Int.le_of_dvd hb (A9 a b)
theorem a5B {c a b:Int} (h1:c∣a) (h2:c∣b):c∣gI a b:=Int.dvd_coe_gcd h1 h2
theorem a1a {a b:Int} (ha:0<=a) (hb:0<=b) (h1:a∣b) (h2:b∣a):a=b:=Int.dvd_antisymm ha hb h1 h2
theorem b0O (a b:Int):gI b (a % b)=gI a b:=by
 refine a1a (Z9 _ _) (Z9 _ _) (a5B ?_ (N1 _ _)) (a5B (A9 _ _) ?_)
 ·have h1:=N1 b (a % b)
  have h2:=A9 b (a % b);have:=Int.dvd_add (jH (c:=a / b) h1) h2;rw [Int.mul_ediv_add_emod] at this;exact this
 ·have h1:=N1 a b
  have h2:=A9 a b;have:=Int.dvd_sub h1 (jH (c:=a / b) h2);rw [Int.emod_def];exact this
theorem b1p (a:Int):gI a 0=a.natAbs:=by unfold gI; rw [Int.gcd_zero_right]
theorem b0J {t b:Int} (hb:0<b):0<(low t b).2:=by
 have h:=a5e (a:=t) hb;obtain ⟨k,hk⟩:=A9 t b
 show 0<b / gI t b
 have e:b / gI t b=k:=by
  have:b / gI t b=(gI t b*k) / gI t b:=by rw [<- hk]
  rw [this,jI _ (by omega)]
 rw [e]
 by_cases z:0<k
 ·exact z
 ·have:=cK (bG h) (show 0 <= -k by omega)
  rw [dB] at this;omega
theorem a2W {t b:Int} (hb:0<b):t=gI t b*(low t b).1/\b=gI t b*(low t b).2 :=
 ⟨(jJ (N1 t b)).symm,(jJ (A9 t b)).symm⟩
theorem a3l {t b:Int} (hb:0<b):(low t b).1*b=t*(low t b).2:=by
 obtain ⟨h1,h2⟩:=a2W (t:=t) hb;generalize gI t b=g at h1 h2;generalize low t b=f at h1 h2;rw [h1,h2]
 ac_rfl
theorem a2R {t b:Int} (hb:0<b):a9a (low t b):=by
 refine ⟨b0J hb,?_⟩;obtain ⟨h1,h2⟩:=a2W (t:=t) hb;have hg:=a5e (a:=t) hb;have q:gI t b*gI (low t b).1 (low t b).2∣gI t b*1:=by
  rw [eP];refine a5B ?_ ?_
  ·have:=jK (gI t b) (N1 (low t b).1 (low t b).2)
   rw [<- h1] at this;exact this
  ·have:=jK (gI t b) (A9 (low t b).1 (low t b).2)
   rw [<- h2] at this;exact this
 have q2:gI (low t b).1 (low t b).2∣1:=Int.dvd_of_mul_dvd_mul_left (by omega) q;have q3:gI (low t b).1 (low t b).2=1:=a1a (Z9 _ _) (by decide) q2 (Int.one_dvd _);unfold gI at q3;omega
theorem a1r {a b c:Int} (h:iD a b=1) (d:b∣a*c):b∣c:=by
 have h':Nat.Coprime b.natAbs a.natAbs:=by
  rw [Nat.coprime_comm]; exact h
 have d':b.natAbs∣a.natAbs*c.natAbs:=by rw [<- iE]; exact jL.mpr d
 exact jL.mp (h'.dvd_of_dvd_mul_left d')
theorem a4c {f g:Q2} (hf:a9a f) (hg:a9a g) (h:f.1*g.2=g.1*f.2):f=g:=by
 have d1:f.2∣g.2:=a1r hf.2 ⟨g.1,by rw [h,aR]⟩;have d2:g.2∣f.2:=a1r hg.2 ⟨f.1,by rw [<- h,aR]⟩;have e2:f.2=g.2:=a1a (bG hf.1) (bG hg.1) d1 d2;have e1:f.1=g.1:=by
  rw [e2] at h;exact iF (by have:=hg.1; omega) h
 exact Prod.ext e1 e2
theorem b3c {t b t' b':Int} (hb:0<b) (hb':0<b') (h:t*b'=t'*b):low t b=low t' b':=by
 refine a4c (a2R hb) (a2R hb') ?_;have c1:=a3l (t:=t) hb;have c2:=a3l (t:=t') hb';generalize low t b=x at c1 ⊢;generalize low t' b'=y at c2 ⊢;refine iF (a:=b*b') (by have:=eI hb hb'; omega) ?_
 calc x.1*y.2*(b*b')=(x.1*b)*(y.2*b'):=by ac_rfl
  _=(t*b')*(x.2*y.2):=by rw [c1]; ac_rfl
  _=(t'*y.2)*(b*x.2):=by rw [h]; ac_rfl
  _=(y.1*b')*(b*x.2):=by rw [c2]
  _=y.1*x.2*(b*b'):=by ac_rfl
end Fr
namespace L2
open PySem PySem.Spec PyProof.Rows
abbrev a5q (X:Cx) (qual:Str) (scope:Scope) (f:Addr) (cd:Value) (C:Addr):Env:=W.envX qual scope C f cd (clo X.env scope.names [])
def a6R (X:Cx) (col:Str) (fr:List Nat) (qual:Str) (scope:Scope) (f:Addr) (cd:Value) (A':Around) (s₀:Shared) (H₀:Hp):Cx :=
  { X with N:=col::fr.map (λ j=>X.N.getD j ""),s₀:=s₀,H₀:=H₀,A:=A'.deeper (a5q X qual scope f cd s₀.heap.objs.size),env:=a5q X qual scope f cd s₀.heap.objs.size,outer:=X.stack,
           stack:=a5q X qual scope f cd s₀.heap.objs.size::X.stack,ex:=[],fn:=λ _=>false,pn:=[],xe:=λ _ _=>False }
section
variable {X:Cx} {pins:List (Addr×Obj)} {σ:St} {H:Hp} {s:Shared} {fr:List Nat} {scope:Scope} {col:Str} {qual:Str} {f:Addr} {cd:Value} {A':Around}
theorem W9 {env:Env} {l:List (Str×NameKind)} {x:Str} {c:Addr} (e:(clo env l []).lookup x=some c):env.cells.lookup x=some c:=a0M (cs:=[]) (λ _ _ z=>by simp at z) e
theorem Inv.lam {h₁:Heap} {t':Nat} {v:V} {u:Value} (I:Inv X pins σ H s) (hA:A'.frames=some X.stack) (hh:A'.handled=X.A.handled) (hk:scope.kind=.function) (h:a0z X.env.scope scope X.N fr=true)
  (hcell:∀ x∈scope.names,x.2≠.cell) (hcol:scope.names.lookup col=some .local) (hns:h₁.Ns s.heap.objs.size λ x=>[(col,u)].reverse.lookup x) (hkeep:∀ b o,s.heap.get? b=some o->h₁.get? b=some o) (r:RelV v u) :
  Inv (a6R X col fr qual scope f cd A' s H) [] (some v::frv fr σ) H { s with heap:=h₁,toks:=t' } where
 ok:={
  mod:=I.ok.mod
  kind:=hk
  glob:=rfl
  blt:=rfl
  above:=aE _
  inj:=λ x y c e1 e2=>I.ok.inj x y c (W9 e1) (W9 e2)
  has:=λ x hx=>by
   have hx':scope.names.lookup x=some .cell\/scope.names.lookup x=some .free:=hx;rcases hx' with e | e
   ·exact absurd rfl (hcell _ (J5 e))
   ·exact Z5 (U9 I h x (J5 e)) (J5 e)
  cab:=λ x c hx=>by cases (show false=true from hx)
  hd:=λ z=>by
   show A'.handled=none
   rw [hh];exact I.ok.hd z
  frames:=Around.frames_deeper hA
  stk:=.inr ⟨rfl,rfl⟩
  exf:=λ b hb=>by cases (show b∈([]:List Addr) from hb)
  bs:=I.bs
  bsz:=aZ I.ok.bsz I.sz
  noex:=λ b o _ hb=>by cases (show b∈([]:List Addr) from hb)
  exfs:=λ b hb=>by cases (show b∈([]:List Addr) from hb)
  funs:=I.stack
  frf:=I.stkFree }
 os:=rfl
 bare:=I.bare
 base:=Un.kept hkeep
 loc:=by
  refine ⟨_,hns,λ i x w e1 e2 _=>?_⟩
  cases i with
  | zero =>
   have hx:col=x:=aN e1;have hv:v=w:=aN (aN e2);subst hx;subst hv;exact ⟨u,r,.inl ⟨hcol,by simp [dW]⟩⟩
  | succ i =>
   have e1':(fr.map λ j=>X.N.getD j "")[i]?=some x:=e1;have e2':(fr.map λ j=>(σ[j]?).join)[i]?=some (some w):=e2;rw [aD] at e1' e2'
   cases q:fr[i]? with
   | none=>rw [q] at e1'; cases e1'
   | some j =>
    rw [q] at e1' e2';have hj:j∈fr:=bV q;obtain ⟨hjl,hjc,hjf⟩:=b2d h j hj;have ex:X.N.getD j ""=x:=aN e1';have ev:(σ[j]?).join=some w:=aN e2';have hN:X.N[j]?=some x:=by
     rw [<- ex,aI,aG hjl]; rfl
    have hσ:σ[j]?=some (some w):=by
     cases r:σ[j]? with
     | none=>rw [r] at ev; cases ev
     | some y=>rw [r] at ev; exact congrArg some ev
    rw [ex] at hjc hjf;obtain ⟨m,_,hl⟩:=I.loc;obtain ⟨u',r',lk⟩:=hl j x w hN hσ (.inr (.inl hjc));refine ⟨u',r',?_⟩;have kc:Env.kindOf X.env x=some .cell:=hjc;rcases lk with ⟨k1,_⟩ | ⟨_,c,ec,o,ho',hd⟩
    ·rw [kc] at k1; cases k1
    ·obtain ⟨c',hc'⟩:=Z5 (env:=X.env) (cs:=[]) ⟨c,ec⟩ (J5 hjf)
     have e3:=W9 hc';rw [ec] at e3
     cases e3;exact .inr ⟨.inr hjf,c,hc',o,hkeep _ _ ho',hd⟩
 cell:=λ x c e=>by
  obtain ⟨v,o,ho',hd⟩:=I.cell x c (W9 e);exact ⟨v,o,hkeep _ _ ho',hd⟩
 free:=I.hok.fresh (aE _)
 freeC:=λ x c e=>I.freeC x c (W9 e)
 pin:=λ p hp=>by cases (show p∈([]:List (Addr×Obj)) from hp)
 hok:=I.hok.kept hkeep
 len:=by simp [frv,a6R]
def Quiet (X:Cx) (H:Hp) (s s':Shared):Prop:=∀ b o,s.heap.get? b=some o->H b=none->b≠X.env.locals->b ∉ X.fs->s'.heap.get? b=some o
theorem a8J {params:Arguments} {body:Expr} {pm ctv:Value} {c':Addr} {v k:V} {u:Value} {t:TE} {Q:Value->Shared->Prop} {E:Value->Shared->Prop} (I:Inv X pins σ H s) (hA:A'.frames=some X.stack) (hh:A'.handled=X.A.handled)
  (hroom:A'.depth<recursionLimit) (hk:scope.kind=.function) (h:a0z X.env.scope scope X.N fr=true)
  (hcell:∀ x∈scope.names,x.2≠.cell) (hcol:scope.names.lookup col=some .local) (hco:scope.isCoroutine=false) (hgen:scope.isGenerator=false)
  (hf:s.heap.get? f=some (W.kla_obj "<lambda>" qual params body scope (clo X.env scope.names []) pm c' ctv)) (hcd:s.heap.CodeRec (.ref c') qual)
  (hb:∀ u:Value,bindArgs (W.kla_fn "<lambda>" qual params body scope (clo X.env scope.names []) pm (.ref c') ctv) ⟨[u],[]⟩=pure [(col,u)])
  (hbody:PE (a6R X col fr qual scope f (.ref c') A' s H) body t) (r:RelV v u) (ht:t (some v::frv fr σ) H λ y H'=>y=k/\H'=H)
  (q:∀ y s',RelV k y->Inv X pins σ H s'->Quiet X H s s'->Q y s'):wpAny (model X.prog X.w) A' (call (.ref f) [u]) Q E s:=by
 refine wpAny_call (W.kla_callFunE hroom hf rfl hco hgen rfl hcd ?_);rw [hb u];refine wpAny_pure (wpAny_newFunctionEnv hcell (λ y hy=>?_) (λ h₁ hns hsb=>?_) hk)
 ·rw [aY.mp hy]; exact hcol
 ·have hk₁:∀ b o,s.heap.get? b=some o->h₁.get? b=some o:=λ b o e=>hsb.extBut b o (bI (Heap.lt_size e)) (Heap.get?_push_of_some _ e)
  refine ⟨I.nolimit.keeps hk₁,W.kla_codeExpr ?_⟩;have J:=I.lam (qual:=qual) (f:=f) (cd:=.ref c') (t':=s.toks+[(col,u)].length) hA hh hk h hcell hcol hns hk₁ r;refine wpAny_mono (hbody [] _ _ _ _ J ht) (λ y s' hy=>?_) λ e s' z=>bO z;obtain ⟨w,H',J',rw',rfl,rfl⟩:=hy;have J2:Inv X pins σ H' s':=I.call' (ch:=[]) J'.os J'.base J'.hok J'.bare λ b hb=>by cases hb
  refine q y s' rw' J2 λ b o e n n1 n2=>?_;refine J'.base.keep b o e n (λ z=>?_) (by intro z; cases z);rcases aH.mp (I.stkSub b z) with w | w
  ·exact n1 w
  ·exact n2 w
end
def T3 (mg:Str->Option Value) (base:Heap):Prop:=∃ bm ob,mg "__builtins__"=some (.ref bm)/\bm≠builtinsNs/\base.get? bm=some ob/\ob.cls=.type "module"/\ob.dict=some builtinsNs/\ob.data=.plain
abbrev a3p (c:Addr) (qual:Str):HO:=.ext λ h=>h.CodeRec (.ref c) qual
def LamTab (P:Addr) (pos:Pos) (qual:Str) (H:Hp):Prop :=
 H P=some (.tbl #[])\/∃ c',H P=some (.tbl #[rawInt pos.line,rawInt pos.col,.ref c'])/\H c'=some (a3p c' qual)
def Same1 (P:Addr) (H H':Hp):Prop:=∀ b o,b≠P->H b=some o->H' b=some o
theorem LamTab.same {P:Addr} {pos:Pos} {qual:Str} {H H':Hp} (T:LamTab P pos qual H) (h:∀ b o,H b=some o->H' b=some o):LamTab P pos qual H':=by
 rcases T with e | ⟨c,e1,e2⟩
 ·exact .inl (h _ _ e)
 ·exact .inr ⟨c,h _ _ e1,h _ _ e2⟩
section
variable {X:Cx} {pins:List (Addr×Obj)} {σ:St} {H:Hp} {s:Shared} {fr:List Nat} {scope:Scope} {qual:Str} {c P:Addr} {params:Arguments} {body:Expr} {pos:Pos}
theorem a8v {K:Program} {w:World} {H:Hp} {h:Heap} {c:Addr} {o:Obj} (e:h.get? c=some o) (r:h.CodeRec (.ref c) qual):ObjOk K w H h c (a3p c qual) :=
 ⟨r,⟨o,e⟩,λ h1 h2 ⟨c',o',vs,t,z,g,q⟩ k=>by
  have z':c=c':=Value.ref.inj z;subst z';exact ⟨c,o',vs,t,rfl,k _ g,q⟩⟩
theorem Inv.grown {h':Heap} {t':Nat} {ps more:Array Value} {c':Addr} (I:Inv X pins σ H s) (hP:H P=some (.tbl ps)) (hx:Heap.ExtBut P s.heap h') (hge:s.heap.objs.size<=c') (hcr:h'.CodeRec (.ref c') qual)
  (htb:h'.get? P=some { cls:=.none,data:=.fields (ps++more) }):Inv X pins σ (upd (upd H P (.tbl (ps++more))) c' (a3p c' qual)) { s with heap:=h',toks:=t' }:=by
 have hPl:P<s.heap.objs.size:=I.hok.lt hP;have hPc:P≠c':=bI (aO hPl hge);have hcn:H c'=none:=I.hok.fresh hge;have atP:upd (upd H P (.tbl (ps++more))) c' (a3p c' qual) P=some (.tbl (ps++more)):=by rw [c9 hPc,upd_same]
 have nP:∀ b o,H b=some o->(∀ qs,o≠.tbl qs)->upd (upd H P (.tbl (ps++more))) c' (a3p c' qual) b=some o:=λ b o e n=>by
  rw [c9 (d9 e hcn),c9 (λ z=>by subst z; rw [e] at hP; exact n _ (aN hP))];exact e
 have neP:∀ b,H b=none->b≠P:=λ b n z=>by subst z; rw [hP] at n; cases n
 obtain ⟨cc,oc,vs,tt,z,gc,gr⟩:=id hcr;have z':c'=cc:=Value.ref.inj z;subst z';refine I.un ⟨λ b o e n _ _=>hx b o (neP b n) e,λ b o e n _ _=>⟨o.slots,hx b o (neP b n) e⟩,λ b o e n _=>?_,λ b o e _=>?_,λ b xs e=>nP b _ e (λ _=>nofun),λ b o u e=>nP b _ e (λ _=>nofun),λ b qs e=>?_⟩ λ b u e=>?_
 ·rw [c9 (bI (aO (Heap.lt_size e) hge)),c9 (neP b n)]; exact n
 ·by_cases hb:b=P
  ·subst hb; exact ⟨_,htb⟩
  ·exact ⟨o,hx b o hb e⟩
 ·by_cases hb:b=P
  ·subst hb
   rw [e] at hP
   cases hP;exact ⟨more,atP⟩
  ·refine ⟨#[],?_⟩
   rw [c9 (d9 e hcn),c9 hb,e]; simp
 ·by_cases hb:b=c'
  ·subst hb
   rw [upd_same] at e
   cases e;exact a8v gc hcr
  ·rw [c9 hb] at e
   by_cases hb2:b=P
   ·subst hb2
    rw [upd_same] at e
    cases e;exact htb
   ·rw [c9 hb2] at e
    refine (I.hok b u e).stay (λ d v hd g=>hx d v (λ z=>?_) g) (λ d g=>nP d _ g λ _=>nofun) λ d xs g=>nP d _ g λ _=>nofun;subst z;rcases hd with w | w
    ·exact hb2 w.symm
    ·rw [hP] at w; cases w
theorem a9N {Q:Value->Shared->Prop} {E:Value->Shared->Prop} (I:Inv X pins σ H s) (hcode:X.env.code=.ref c) (C:W.CodeHd X.base c P) (B:T3 X.mg X.base) (T:LamTab P pos (X.env.qual++"<lambda>") H)
  (h:a0z X.env.scope scope X.N fr=true) (hdef:defaultsOf params X.env=([],[]))
  (q:∀ f c' ctv pm H' s',Inv X ((f,W.kla_obj "<lambda>" (X.env.qual++"<lambda>") params body scope (clo X.env scope.names []) pm c' ctv)::pins) σ H' s'->LamTab P pos (X.env.qual++"<lambda>") H'->Same1 P H H' →
   H' c'=some (a3p c' (X.env.qual++"<lambda>"))->(∀ b,b<s.heap.objs.size->H b=none->H' b=none)->Q (.ref f) s') :
  wpAny (model X.prog X.w) X.A (eval (.Lambda params body scope pos) X.env) Q E s:=by
 have hcl:=E5 (U9 I h);have hg:s.heap.Ns mainGlobals X.mg:=I.mod.glob.keeps I.bk;obtain ⟨bm,ob,b1,b2,b3,b4,b5,b6⟩:=B;have Pg:∀ ps,s.heap.get? P=some (W.tabObj ps)->mainGlobals≠P:=λ ps e z=>by
  obtain ⟨o,es,ep,e1,hd,_⟩:=hg;rw [z,e] at e1; cases e1; cases hd
 have Pb:∀ ps,s.heap.get? P=some (W.tabObj ps)->bm≠P:=λ ps e z=>by
  have e1:=I.bk _ _ b3;rw [z,e] at e1; cases e1; cases b4
 have bg:bm≠mainGlobals:=λ z=>by
  obtain ⟨o,es,ep,e1,hd,_⟩:=I.mod.glob;rw [z,e1] at b3; cases b3; rw [hd] at b6; cases b6
 refine W.kla_eval hdef ?_;rcases T with T | ⟨c',T,Tc⟩
 ·have hP:s.heap.get? P=some (W.tabObj #[]):=I.hok P _ T
  refine W.kla_makeFunction (mg:=X.mg) hcl I.ok.glob hg hcode (C.keeps I.bk) hP trivial rfl (Pg _ hP) ⟨bm,ob,b1,b2,bg,Pb _ hP,I.bk _ _ b3,b4,b5,b6⟩ λ c' ctv h' tk hx hge hlt hrec htb=>?_;have J:=I.grown (t':=tk) (more:=#[rawInt pos.line,rawInt pos.col,.ref c']) T hx hge hrec htb;have hsz:s.heap.objs.size<=h'.objs.size:=aZ hge (dA hlt);have hPl:P<s.heap.objs.size:=I.hok.lt T;have J2:=J.kept (h':=h'.push (W.kla_obj "<lambda>" (X.env.qual++"<lambda>") params body scope (clo X.env scope.names []) ((X.mg "__name__").getD .none) c' ctv)) (t':=tk) λ b u e=>Heap.get?_push_of_some _ e;have hPc:P≠c':=bI (aO hPl hge);refine q _ c' ctv ((X.mg "__name__").getD .none) _ _ (J2.pins_of λ p hp=>?_) (.inr ⟨c',?_,upd_same⟩) (λ b o hb e=>?_) upd_same λ b hb e=>?_
  ·rcases aH.mp hp with rfl | hp
   ·refine ⟨Heap.get?_push_size _ rfl,J.hok.fresh (aE _),cN (aO I.lt hsz),I.nofs hsz,λ v=>nofun⟩
   ·exact J2.pin p (bS _ hp)
  ·rw [c9 hPc,upd_same]; rfl
  ·rw [c9 (d9 e (I.hok.fresh hge)),c9 hb]; exact e
  ·rw [c9 (bI (aO hb hge)),c9 (λ z=>by rw [z,T] at e; cases e)]; exact e
 ·have hP:s.heap.get? P=some (W.tabObj #[rawInt pos.line,rawInt pos.col,.ref c']):=I.hok P _ T
  have hf:codeAmong pos (#[rawInt pos.line,rawInt pos.col,Value.ref c']).toList=some (.ref c'):=by
   show codeAmong pos ([]++[rawInt pos.line,rawInt pos.col,Value.ref c'])=_
   exact codeAmong_snoc [] trivial rfl
  refine W.kla_makeFunctionHit (mg:=X.mg) hcl I.ok.glob hg hcode (C.keeps I.bk) hP trivial hf ⟨bm,ob,b1,b2,bg,Pb _ hP,I.bk _ _ b3,b4,b5,b6⟩ λ ctv h' tk hk hsz=>?_;have J:=I.kept (h':=h') (t':=tk) hk;have J2:=J.kept (h':=h'.push (W.kla_obj "<lambda>" (X.env.qual++"<lambda>") params body scope (clo X.env scope.names []) ((X.mg "__name__").getD .none) c' ctv)) (t':=tk) λ b u e=>Heap.get?_push_of_some _ e;refine q _ c' ctv ((X.mg "__name__").getD .none) _ _ (J2.pins_of λ p hp=>?_) (.inr ⟨c',T,Tc⟩) (λ b o hb e=>e) Tc λ b hb e=>e;rcases aH.mp hp with rfl | hp
  ·exact ⟨Heap.get?_push_size _ rfl,J.hok.fresh (aE _),cN (aO I.lt hsz),I.nofs hsz,λ v=>nofun⟩
  ·exact J2.pin p (bS _ hp)
end
section
variable {X:Cx} {pins:List (Addr×Obj)} {σ:St} {H:Hp} {l It S fq:Addr} {ns:List Int} {g:Int->Int} {R:Result->Shared->Prop}
theorem Quiet.fp {s s':Shared} {b:Addr} {o:Obj} (k:Quiet X H s s') (f:U1 X pins H b) (e:s.heap.get? b=some o):s'.heap.get? b=some o:=k b o e f.1 f.2.1 f.2.2.1
theorem Inv.fpTurn {s:Shared} {h':Heap} {t':Nat} {b:Addr} (I:Inv X pins σ H s) (f:U1 X pins H b) (k:∀ c o,c≠b->s.heap.get? c=some o->h'.get? c=some o):Inv X pins σ H { s with heap:=h',toks:=t' } :=
 I.turned k f.1 f.2.1 f.2.2.2.1 f.2.2.2.2.1 f.2.2.2.2.2
def b3t (ns:List Int) (g:Int->Int) (j:Nat) (cont:List Value):Prop :=
 (cont=[]/\j=0)\/∃ M vb kb,cont=[vb,kb]/\M∈ns/\RelV (.int M) vb/\RelV (.int (g M)) kb/\∀ a∈ns.take j,g M<=g a
abbrev a8T (X:Cx) (pins:List (Addr×Obj)) (σ:St) (H:Hp) (fq:Addr) (ns:List Int) (g:Int->Int):Prop :=
 ∀ n∈ns,∀ (u:Value) (s:Shared) (Q:Value->Shared->Prop) (E:Value->Shared->Prop),Inv X pins σ H s->RelV (.int n) u →
  (∀ y s',RelV (.int (g n)) y->Inv X pins σ H s'->Quiet X H s s'->Q y s')->wpAny (model X.prog X.w) X.A.in1 (call (.ref fq) [u]) Q E s
theorem b0S (hc:X.calm=true) (hl:SqL X.K H l (ns.map V.int)) (turn:a8T X pins σ H fq ns g) (fI:U1 X pins H It) (fS:U1 X pins H S) (hIS:It≠S) (hIl:l≠It)
  (hN:ns=[]->∀ s',Inv X pins σ H s'->R (.ok (.ret .none)) s') (hR:∀ M∈ns,(∀ a∈ns,g M<=g a)->∀ y s',RelV (.int M) y->Inv X pins σ H s'->R (.ok (.ret y)) s') :
  ∀ (r j:Nat) (s:Shared) (cont:List Value) (cn:Nat),ns.length - j=r->j<=ns.length->Inv X pins σ H s->s.heap.IsListIter It l j->s.heap.get? S=some (seqObj "list" cont.toArray cn)->b3t ns g j cont →
   codeAny (model X.prog X.w) X.A (.builtin "min.loop" ⟨[.ref It,.ref fq,.ref S],[("default",.none)]⟩) R s:=by
 have nm:(toString "min"++toString ".loop":String)="min.loop":=by decide
 have hh:∀ {s:Shared},Inv X pins σ H s->X.A.in1.handled=none:=λ I=>I.ok.hd hc;intro r
 induction r with
 | zero =>
  intro j s cont cn hr hj I hit hS hb;have hjn:j=ns.length:=by omega
  obtain ⟨its,rv,pl,hz⟩:=I.list hl;have W:=Walks.list (prog:=X.prog) (w:=X.w) (A:=X.A.in1) (hh I) It l hIl its.toArray;have hsz:its.toArray.size=ns.length:=by rw [aU,<- rv.length,aA]
  refine codeAny_builtin F.entry_min_loop ?_; rw [Around.under_plainId F.plain_min_loop _];refine wpAny_bind (wpAny_seqItems hS rfl ?_);rcases hb with ⟨rfl,rfl⟩ | ⟨M,vb,kb,rfl,hM,rM,rK,best⟩
  ·show wpAny _ X.A.in1 (tryCatch (pyNext (.ref It)) _ >>= _) _ _ _
   refine wpAny_bind (wpAny_tryCatch (W.done _ _ _ ⟨by rw [hsz,<- hjn]; exact hit,pl.isList⟩ λ h' tk' hk'=>?_));have J:=I.fpTurn (h':=h') (t':=tk') fI λ c o n e=>hk' c o (by simpa using n) e
   show wpAny _ X.A.in1 (rule _ >>= _) _ _ _
   exact wpAny_bind (wpAny_rule (wpAny_pure (hN (jM.mp hjn.symm) _ J)))
  ·show wpAny _ X.A.in1 (tryCatch (pyNext (.ref It)) _ >>= _) _ _ _
   refine wpAny_bind (wpAny_tryCatch (W.done _ _ _ ⟨by rw [hsz,<- hjn]; exact hit,pl.isList⟩ λ h' tk' hk'=>?_));have J:=I.fpTurn (h':=h') (t':=tk') fI λ c o n e=>hk' c o (by simpa using n) e;have hS':=hk' S _ (by simpa using hIS.symm) hS;have s1:=Heap.SameBut.update h' S (Obj.mapSeq λ _=>(#[]:Array Value))
   show wpAny _ X.A.in1 (updateSeq S (λ _=>#[]) >>= _) _ _ _
   refine wpAny_bind (wpAny_updateSeq hS' rfl (wpAny_bind (wpAny_letGo (wpAny_pure ?_))));exact hR M hM (λ a ha=>best a (by rw [hjn,List.take_length]; exact ha)) vb _ rM (J.fpTurn fS λ c o n e=>(s1.2 c n).trans e)
 | succ r ih =>
  intro j s cont cn hr hj I hit hS hb;have hlt:j<ns.length:=by omega
  obtain ⟨its,rv,pl,hz⟩:=I.list hl;have W:=Walks.list (prog:=X.prog) (w:=X.w) (A:=X.A.in1) (hh I) It l hIl its.toArray;have hsz:its.toArray.size=ns.length:=by rw [aU,<- rv.length,aA]
  refine codeAny_builtin F.entry_min_loop ?_; rw [Around.under_plainId F.plain_min_loop _];refine wpAny_bind (wpAny_seqItems hS rfl ?_);have go:∀ (old:List Value) (kx:Value->Sem (Option Value)) (B:Option Value->Sem fV) (Q:fV->Shared->Prop) (E:Value->Shared->Prop),
    (∀ v h' tk',RelV (.int ns[j]) v->Inv X pins σ H { s with heap:=h',toks:=tk' }->h'.IsListIter It l (j+1)->h'.get? S=some (seqObj "list" cont.toArray cn)->wpAny (model X.prog X.w) X.A.in1 (B (some v)) Q E { s with heap:=h',toks:=tk' }) →
    wpAny (model X.prog X.w) X.A.in1 (tryCatch (pyNext (.ref It)) kx >>= B) Q E s:=by
   intro old kx B Q E hB;refine wpAny_bind (wpAny_tryCatch (W.item j _ _ _ (by rw [hsz]; exact hlt) ⟨hit,pl.isList⟩ λ v h' tk' hP hst' hk'=>?_));have hv:(ns.map V.int)[j]?=some (V.int ns[j]):=by rw [aD,aG hlt]; rfl
   obtain ⟨u,hu,ru⟩:=rv.get hv;have hP':its[j]?=some v:=by simpa using hP
   rw [hu] at hP'
   cases hP';exact hB _ h' tk' ru (I.fpTurn fI λ c o n e=>hk' c o (by simpa using n) e) hst'.1 (hk' S _ (by simpa using hIS.symm) hS)
  have hn:ns[j]∈ns:=cP hlt;have tk1:∀ a∈ns.take (j+1),a∈ns.take j\/a=ns[j]:=λ a ha=>by
   rw [jD hlt] at ha;rcases aS.mp ha with z | z
   ·exact .inl z
   ·exact .inr (aY.mp z)
  rcases hb with ⟨rfl,rfl⟩ | ⟨M,vb,kb,rfl,hM,rM,rK,best⟩
  ·show wpAny _ X.A.in1 (tryCatch (pyNext (.ref It)) _ >>= _) _ _ _
   refine go [] _ _ _ _ λ v h' tk' rv' J hit' hS'=>?_
   show wpAny _ X.A.in1 (tryCatch (holding [v] (call (.ref fq) [v])) _ >>= _) _ _ _
   refine wpAny_bind (wpAny_tryCatch (wpAny_holding (turn _ hn v _ _ _ J rv' λ y s2 ry J2 qu=>?_)));have hS2:=qu.fp fS hS';obtain ⟨oI,hoI,hoc,hod⟩:=hit';have hI2:=qu.fp fI hoI;have s1:=Heap.SameBut.update s2.heap S (Obj.mapSeq λ _=>#[v,y]);obtain ⟨c2,hc2⟩:∃ c2,(s2.heap.update S (Obj.mapSeq λ _=>#[v,y])).get? S=some (seqObj "list" #[v,y] c2):=⟨_,get?_update_seq hS2 λ _=>#[v,y]⟩
   show wpAny _ X.A.in1 (updateSeq S (λ _=>#[v,y]) >>= _) _ _ _
   refine wpAny_bind (wpAny_updateSeq hS2 rfl ?_);rw [nm];refine wpAny_pure ⟨plainId_quiet F.plain_min_loop _,ih (0+1) _ [v,y] c2 (by omega) hlt (J2.fpTurn fS λ c o n e=>(s1.2 c n).trans e) ⟨oI,(s1.2 It hIS).trans hI2,hoc,hod⟩ hc2 (.inr ⟨ns[0],v,y,rfl,hn,rv',ry,λ a ha=>?_⟩)⟩;rcases tk1 a ha with z | z
   ·simp at z
   ·rw [z]; exact cC _
  ·show wpAny _ X.A.in1 (tryCatch (pyNext (.ref It)) _ >>= _) _ _ _
   refine go [] _ _ _ _ λ v h' tk' rv' J hit' hS'=>?_
   show wpAny _ X.A.in1 (tryCatch (holding [v] (call (.ref fq) [v])) _ >>= _) _ _ _
   refine wpAny_bind (wpAny_tryCatch (wpAny_holding (turn _ hn v _ _ _ J rv' λ y s2 ry J2 qu=>?_)));have hS2:=qu.fp fS hS';obtain ⟨oI,hoI,hoc,hod⟩:=hit';have hI2:=qu.fp fI hoI;obtain ⟨t2,rfl⟩:=ry;obtain ⟨tb,rfl⟩:=rK
   show wpAny _ X.A.in1 (tryCatch (holding [v,.int (g ns[j]) t2] (richCompare .Lt (.int (g ns[j]) t2) (.int (g M) tb) >>= _)) _ >>= _) _ _ _
   refine wpAny_bind (wpAny_tryCatch (wpAny_holding (wpAny_bind (CmpOf.ints_lt (prog:=X.prog) (w:=X.w) (A:=X.A.in1) (P:=λ i v=>∃ t,v=.int ([g ns[j],g M].getD i 0) t) (λ i=>[g ns[j],g M].getD i 0) (λ i v h=>h) 0 1 _ _ _ _ _ ⟨t2,rfl⟩ ⟨tb,rfl⟩ ?_))));refine wpAny_bind (wpAny_holding (wpAny_truthy_bool (wpAny_bind (wpAny_letGo (wpAny_pure ?_)))));have e01:(λ i j_1=>decide ([g ns[j],g M].getD i 0<[g ns[j],g M].getD j_1 0)) 0 1=decide (g ns[j]<g M):=rfl;rw [e01]
   by_cases hb':g ns[j]<g M
   ·have s1:=Heap.SameBut.update s2.heap S (Obj.mapSeq λ _=>#[v,.int (g ns[j]) t2])
    obtain ⟨c2,hc2⟩:∃ c2,(s2.heap.update S (Obj.mapSeq λ _=>#[v,.int (g ns[j]) t2])).get? S=some (seqObj "list" #[v,.int (g ns[j]) t2] c2):=⟨_,get?_update_seq hS2 λ _=>#[v,.int (g ns[j]) t2]⟩;simp only [hb',decide_true,if_true];refine wpAny_bind (wpAny_updateSeq hS2 rfl (wpAny_bind (wpAny_letGo ?_)));rw [nm];refine wpAny_pure ⟨plainId_quiet F.plain_min_loop _,ih (j+1) _ [v,.int (g ns[j]) t2] c2 (by omega) hlt (J2.fpTurn fS λ c o n e=>(s1.2 c n).trans e) ⟨oI,(s1.2 It hIS).trans hI2,hoc,hod⟩ hc2 (.inr ⟨ns[j],v,_,rfl,hn,rv',⟨t2,rfl⟩,λ a ha=>?_⟩)⟩;rcases tk1 a ha with z | z
    ·have:=best a z; omega
    ·rw [z]; exact cC _
   ·simp only [hb',decide_false,gF,if_false]
    refine wpAny_bind (wpAny_letGo ?_);rw [nm];refine wpAny_pure ⟨plainId_quiet F.plain_min_loop _,ih (j+1) _ [vb,.int (g M) tb] cn (by omega) hlt J2 ⟨oI,hI2,hoc,hod⟩ hS2 (.inr ⟨M,vb,_,rfl,hM,rM,⟨tb,rfl⟩,λ a ha=>?_⟩)⟩;rcases tk1 a ha with z | z
    ·exact best a z
    ·rw [z]; omega
theorem b1r {s:Shared} {Q:Value->Shared->Prop} {E:Value->Shared->Prop} (hc:X.calm=true) (I:Inv X pins σ H s) (hl:SqL X.K H l (ns.map V.int)) (turn:a8T X pins σ H fq ns g)
  (hN:ns=[]->∀ s',Inv X pins σ H s'->Q .none s') (hR:∀ M∈ns,(∀ a∈ns,g M<=g a)->∀ y s',RelV (.int M) y->Inv X pins σ H s'->Q y s') :
  wpAny (model X.prog X.w) X.A (call (.builtin "min") [.ref l] [("key",.ref fq),("default",.none)]) Q E s:=by
 have nm:(toString "min"++toString ".loop":String)="min.loop":=by decide
 have ha:argsOk "min" ⟨[.ref l],[("key",.ref fq),("default",.none)]⟩:=by unfold argsOk; rfl
 obtain ⟨its,rv,pl,hz⟩:=I.list hl;have hlt:l<s.heap.objs.size:=by obtain ⟨_,e,_⟩:=pl.isList; exact Heap.lt_size e
 refine kmk_tree F.kind_min F.plain_min F.entry_min ha ?_
 show wpAny _ X.A.in1 (Builtin.Builtins.bindParams "min" ["key","default"] 0 ⟨[],[("key",.ref fq),("default",.none)]⟩ >>= _) _ _ s
 refine wpAny_bind (wpAny_of_eq (show Builtin.Builtins.bindParams "min" ["key","default"] 0 ⟨[],[("key",.ref fq),("default",.none)]⟩=pure [some (.ref fq),some .none] from rfl) (wpAny_bind (wpAny_pure ?_)));refine wpAny_bind (wpAny_pyIter_list pl.isList (wpAny_bind (wpAny_newList ?_ (bU _))));rw [nm];have I1:=I.kept (h':=s.heap.push { cls:=.type "list_iterator",data:=.fields #[.ref l,.int 0 0] }) (t':=s.toks) λ b u e=>Heap.get?_push_of_some _ e;have I2:=I1.kept (h':=(s.heap.push { cls:=.type "list_iterator",data:=.fields #[.ref l,.int 0 0] }).push (seqObj "list" #[] 0)) (t':=s.toks) λ b u e=>Heap.get?_push_of_some _ e;have hS:(s.heap.push { cls:=.type "list_iterator",data:=.fields #[.ref l,.int 0 0] }).objs.size=s.heap.objs.size+1:=size_push' ..;have fI:U1 X pins H s.heap.objs.size:=I.fpOk (aE _) (I.hok.fresh (aE _));have fS:U1 X pins H (s.heap.push { cls:=.type "list_iterator",data:=.fields #[.ref l,.int 0 0] }).objs.size:=I.fpOk (by rw [hS]; omega) (I.hok.fresh (by rw [hS]; omega));refine wpAny_pure ⟨plainId_quiet F.plain_min_loop _,b0S hc hl turn fI fS (bI (by rw [hS]; exact eR _)) (bI hlt) hN hR _ 0 _ [] 0 rfl (bU _) I2 ⟨_,Heap.get?_push_of_some _ (Heap.get?_push_size _ rfl),rfl,rfl⟩ (Heap.get?_push_size _ rfl) (.inl ⟨rfl,rfl⟩)⟩
end
theorem SqL.same1 {K:W.Frag} {P:Addr} {pos:Pos} {qual:Str} {H H':Hp} {a:Addr} {xs:List V} (T:LamTab P pos qual H) (e:Same1 P H H') (h:SqL K H a xs):SqL K H' a xs:=by
 have ne:∀ o,H a=some o->(∀ ps,o≠.tbl ps)->a≠P:=λ o q n z=>by
  subst z;rcases T with t | ⟨c,t,_⟩
  ·rw [q] at t; exact n _ (aN t)
  ·rw [q] at t; exact n _ (aN t)
 rcases h with (h | ⟨o,h⟩) | h
 ·exact .inl (.inl (e _ _ (ne _ h λ _=>nofun) h))
 ·exact .inl (.inr ⟨o,e _ _ (ne _ h λ _=>nofun) h⟩)
 ·exact .inr h
def b1A (K:W.Frag) (P:Addr) (lpos:Pos) (qual:Str) (fr:List Nat) (t:TA) (tb:TE):TE:=λ σ H Q=>t σ H λ vs H1=>∃ (l:Addr) (ns:List Int) (g:Int->Int),vs=[.ref l]/\SqL K H1 l (ns.map V.int)/\LamTab P lpos qual H1 ∧
 ∀ H2,Same1 P H1 H2->LamTab P lpos qual H2->(∀ n∈ns,tb (some (.int n)::frv fr σ) H2 λ y H'=>y=.int (g n)/\H'=H2)/\(ns=[]->Q .non H2)/\∀ M∈ns,(∀ a∈ns,g M<=g a)->Q (.int M) H2
section
variable {X:Cx} {e body:Expr} {es:List Expr} {t:TA} {tb:TE} {fr:List Nat} {scope:Scope} {col:Str} {c P:Addr} {params:Arguments} {p pos lpos kp1 kp2 cp:Pos} {cj:Nat}
theorem a8b (hc:X.calm=true) (hr:Room 2 X.A) (hg:Gl X "min") (hm:X.mg "min"=none) (hcode:X.env.code=.ref c) (C:W.CodeHd X.base c P) (B:T3 X.mg X.base) (hlc:a0z X.env.scope scope X.N fr=true) (hk:scope.kind=.function)
  (hcell:∀ x∈scope.names,x.2≠.cell) (hcol:scope.names.lookup col=some .local) (hco:scope.isCoroutine=false) (hgen:scope.isGenerator=false)
  (hb:∀ (pm ctv:Value) (c':Addr) (u:Value),bindArgs (W.kla_fn "<lambda>" (X.env.qual++"<lambda>") params body scope (clo X.env scope.names []) pm (.ref c') ctv) ⟨[u],[]⟩=pure [(col,u)])
  (ha:PA X [e] t) (hbody:∀ (f:Addr) (cd:Value) (s:Shared) (H:Hp),PE (a6R X col fr (X.env.qual++"<lambda>") scope f cd X.A.in1 s H) body tb) (hdef:defaultsOf params X.env=([],[]):=by rfl)
  (he:backTo pos (starEach [e] X.env)=(false,eval e X.env)::backTo pos (starEach [] X.env):=by rfl) (hpl:(backTo pos (starEach [e] X.env)).any (·.1)=false:=by rfl) :
  PE X (.Call (.Name "min" p) [e] [⟨some "key",.Lambda params body scope lpos,kp1⟩,⟨some "default",.Constant .none cj cp,kp2⟩] pos) (b1A X.K P lpos (X.env.qual++"<lambda>") fr t tb):=by
 intro pins s σ H Q I h;refine wpAny_Call_Name_kw (U0 I hg hm (u:=.builtin "min") rfl ?_);refine lY (y9 (ha pos pins s σ H _ I h) λ us s1 ⟨vs,H1,I1,r,l,ns,g,ev,hl,T,q⟩=>?_) he hpl;subst ev;obtain ⟨u,rfl,ru⟩:=P6 r
 cases ru
 show wpAny _ _ (evalAll [(do let v <- eval (.Lambda params body scope lpos) X.env; standAt pos; pure v),(do let v <- eval (.Constant .none cj cp) X.env; standAt pos; pure v)]) _ _ s1
 refine wpAny_evalAll_cons (wpAny_bind (a9N I1 hcode C B T hlc hdef λ f c' ctv pm H2 s2 I2 T2 e2 Hc' _=>wpAny_bind (wpAny_standAt (wpAny_pure ?_))));refine wpAny_evalAll_cons (wpAny_bind (Constant_none (wpAny_bind (wpAny_standAt (wpAny_pure (wpAny_evalAll_nil ?_))))));obtain ⟨q1,q2,q3⟩:=q H2 e2 T2;have hl2:=hl.same1 T e2;have drop:∀ {po:Addr×Obj} {s'},Inv X (po::pins) σ H2 s'->Inv X pins σ H2 s':=λ J=>J.pins_of λ p hp=>J.pin p (bS _ (bM _ hp));have hd':X.A.in1.depth<recursionLimit:=by
  have z:X.A.in1.depth+3*1+5<recursionLimit:=hr.in1.dp;omega
 refine b1r (g:=g) hc I2 hl2 (λ n hn u s3 Q3 E3 I3 ru k3=>?_) (λ en s3 I3=>⟨.non,H2,drop I3,rfl,q2 en⟩) λ M hM hmin y s3 ry I3=>⟨.int M,H2,drop I3,ry,q3 M hM hmin⟩;obtain ⟨cr,_,_⟩:=I3.hok c' _ Hc';exact a8J (k:=.int (g n)) I3 I3.ok.frames rfl hd' hk hlc hcell hcol hco hgen (I3.pin _ (bS _ cF)).1 cr (hb pm ctv c') (hbody f (.ref c') s3 H2) ru (q1 n hn) k3
end
section
variable {X:Cx} {os:List Str} {fr:List Nat} {scope:Scope} {elt tg iter:Expr} {pos:Pos} {wi:TI} {g:TG} {te:TE}
theorem b3p {c:Expr} {tc:TT} {i:Nat} {x:Str} {pos' spos:Pos} (os:List Str) (fr:List Nat) (hN:X.N.Nodup) (hi':X.N[i]?=some x) (hx:X.env.scope.names.lookup x=some .local)
  (hc:X.calm=true) (hi:PI X tg iter wi) (hg:∀ C fp s₀ H₀,PG (blk X os fr scope C fp s₀ H₀) tg g) (ht:∀ C fp s₀ H₀,PT (blk X os fr scope C fp s₀ H₀) c tc) (he:∀ C fp s₀ H₀,PE (blk X os fr scope C fp s₀ H₀) elt te)
  (hsw:swapsWith (.ListComp elt [⟨tg,iter,[c],0⟩] scope pos) (some (.Name x pos')) spos.line X.env=pure true:=by rfl)
  (hk:scope.kind=.function:=by rfl) (hok:a0z X.env.scope scope X.N fr=true:=by rfl) (hs:∀ x,foldedSetIterable iter X.env x=pure x:=by intro _; rfl) :
  PS X (.Assign [.Name x pos'] (.ListComp elt [⟨tg,iter,[c],0⟩] scope pos) spos) (a7i (b3X os.length fr wi g tc te) (M7 i)):=by
 intro pins s σ H D I h;unfold a7i at h;rw [exec_Assign_Name_used _ _ _ _ hsw];refine wpAny_bind (wpAny_standAt (wpAny_bind ?_))
 show wpAny _ X.A (do let _ <- comprehension (.ListComp elt [⟨tg,iter,[c],0⟩] scope pos) scope X.env _ (newList []) false (eval iter X.env) (some (assign (.Name x pos') X.env))) _ _ s
 refine wpAny_bind (wpAny_mono (wpAny_comprehension_free (use:=some (assign (.Name x pos') X.env)) (Q:=λ _ s'=>SP X pins D .next s') rfl hs (E5 (U9 I hok)) hk (λ x hx hl=>by have:=(Q4 hok x hx).1; rw [hl] at this; exact this)
  (y9 (hi pins s σ H _ I h) λ v s1 h1=>y9 h1 λ itv s2 h2=>?_)) (λ _ s' hq=>wpAny_pure (wpAny_pure hq)) λ _ _ e=>e)
 refine a0y (os:=os) (D:=λ p H'=>D.nx (σ.set i (some (.ref p))) H') (RR:=λ acc C=>compPost (model X.prog X.w) X.A X.xe (some (assign (.Name x pos') X.env)) (λ _ s'=>SP X pins D .next s') acc C) hc hg (λ _ _ _ _=>a4P (ht _ _ _ _)) he hk hok h2 ?_;intro p C s3 H3 s' H' I3 eC hn I' ⟨m,hm⟩ q
 show wpAny _ X.A (assign (.Name x pos') X.env (.ref p)) _ _ _
 refine wpAny_assign_Name (a1k (v:=.ref p) I' hN hi' (.inl hx) rfl (λ s'' I'' ⟨a,hsa,ha⟩=>?_) (.inr hx));have hCa:C≠a:=by
  rcases ha with e | e
  ·rw [e]; exact cN (by rw [<- eC]; exact I3.lt)
  ·obtain ⟨v,z⟩:=I3.cell x a e
   exact cN (by rw [<- eC]; exact z.lt)
 exact ⟨m,hm.sameBut hsa hCa,λ h' hs'=>⟨_,H',I3.letgo I'' hn (by omega) hs',q⟩⟩
theorem a1F (K:W.Frag) {e:Expr} {f:Str} {ta:TE} (h:X.K=K) (he:PE X e ta) (hb:attributeBase e f X.env (eval e X.env)=eval e X.env):PE X (.Attribute e f pos) (b3V K ta f):=by subst h; exact m7 he hb
end
section
variable {fr:List Nat} {tc:TT} {σ:St} {J:It} {H1:Hp} {p:Addr} {D:Hp->Prop} {xs:List V}
theorem b1v (hJ:a7V J H1 xs) (hp:H1 p=none) (hz:xs.length<sizeLine) (F:V->Bool)
  (step:∀ (i:Nat) x H (N:Bool->Hp->Prop),xs[i]?=some x->Same H1 H->N (F x) H->tc ((blkσ 1 fr σ).set 0 (some x)) H N)
  (hd:D (upd H1 p (.lst (xs.filter F)))):lcI 1 fr (M7 0) tc (a4G 0) σ J H1 p D:=by
 refine ⟨λ i m ys H=>m=xs.length - i/\i<=xs.length/\ys=(xs.take i).filter F/\H=upd H1 p (.lst ys),⟨xs.length,by simp,bU _,by simp,rfl⟩,?_⟩;rintro i m ys H ⟨rfl,hi,rfl,rfl⟩;have e:=Same.new (o:=.lst ((xs.take i).filter F)) hp
 by_cases hlt:i<xs.length
 ·refine .inr ⟨hJ.go i _ e hlt,λ x H' y=>?_⟩
  obtain ⟨rfl,hx⟩:=hJ.yld i _ x H' e hlt y;have tk:(xs.take (i+1)).filter F=(xs.take i).filter F++[x].filter F:=by rw [jE,hx,gK]; rfl
  refine ⟨Wk.set (by decide),step i x _ _ hx e ?_⟩
  cases hq:F x with
  | false =>
   rw [if_neg bY];refine ⟨xs.length - (i+1),by omega,rfl,hlt,?_,rfl⟩;rw [tk]; simp [hq]
  | true =>
   rw [if_pos rfl];refine ⟨x,?_,upd_same,?_,xs.length - (i+1),by omega,rfl,hlt,?_,R0⟩
   ·show ((blkσ 1 fr σ).set 0 (some x))[0]?=some (some x)
    rw [bR (by simp [blkσ])]
   ·have h1:=fW F (xs.take i)
    rw [bP] at h1;omega
   ·rw [tk]; simp [hq]
 ·have:i=xs.length:=by omega
  subst this;refine .inl ⟨hJ.stop _ e,?_⟩;rw [eW (aE _)]; exact hd
end
section
variable {P:Program} {w:World} {K:W.Frag} {mg:Str->Option Value} {base:Heap}
theorem Fun.okC {x qual:Str} {st:Stmt} {f c:Addr} {fd:FuncData} {N ps:List Str} {k:Nat} {sp:Sp} (F:Fun K x qual st f fd) (hc:fd.code=.ref c) (S:j8 N ps (h8 st)) (len:∀ vs H Q E,sp vs H Q E->vs.length=ps.length)
  (hbody:∀ (A:Around) (outer:List Env) (s:Shared) (H:Hp) (vs:List V) (Q:VK) (E:XK),Room k (A.deeper (envOfC qual (h8 st) s.heap.objs.size f (.ref c)))->sp vs H Q E →
   ∃ t,PSs (J1 D7 P w K mg base N qual (h8 st) f (.ref c) A outer s H E).nox (t0 st) t/\t { nx:=λ _ H'=>Q .non H',rt:=Q } (O5 N vs) H):FnOk P w K mg base D7 (k+1) f fd ps sp:=by
 obtain ⟨oc,od,kV,doc,pm,an,cdv,ct,osl,rfl,lk,hcd⟩:=F.ex;have e:cdv=.ref c:=hc;subst e;refine a8F lk hcd S len λ A outer s H vs Q E hr hsp=>?_;obtain ⟨t,h,q⟩:=hbody A outer s H vs Q E hr hsp;exact ⟨t,h.nox,q⟩
end
end L2
namespace L2
open PySem
section
variable {xs ys:List V} {K:W.Frag} {l1 l2:Addr} {fr:List Nat} {te:TE} {σ:St} {H1:Hp} {p:Addr} {D:Hp->Prop}
end
theorem C6 {G0:St->Hp->Prop} {σ:St} {H:Hp} (h:∀ G:St->Hp->Prop,G=G0->G σ H):G0 σ H:=h G0 rfl
section
variable {X:Cx} {st:Stmt} {rest:List Stmt} {t u:TS}
def b4Z (t u:TS):TS:=λ D σ H=>∃ M:St->Hp->Prop,t { D with nx:=M } σ H/\∀ σ' H',M σ' H'->u D σ' H'
theorem p7 (h1:PS X st t) (h2:PSs X rest u):PSs X (st::rest) (b4Z t u):=by
 intro pins s σ H D I ⟨M,h,hM⟩;refine wpAny_execs_cons (y9 (h1 pins s σ H { D with nx:=M } I h) λ f s1 q=>?_)
 cases f with
 | next =>
  obtain ⟨σ',H',I',q⟩:=q;exact h2 pins s1 σ' H' D I' (hM _ _ q)
 | ret v=>exact q
 | brk=>exact q
 | cont=>exact q
end
end L2
namespace Rim
open PySem L2
theorem X6 (xs:List V) (k:Nat) (h:k<=xs.length):A7 xs none (some (k:Int))=xs.take k:=by
 unfold A7;rw [HT.sIx_none,HT.sIx_nat,jN]
 congr 1
 omega
theorem T0 (xs:List V) (k:Nat) (h:k<=xs.length):A7 xs (some (k:Int)) none=xs.drop k:=by
 unfold A7;rw [HT.sIx_none,HT.sIx_nat,gL h];exact eW (by rw [cW]; exact aE _)
end Rim
namespace L2
open PySem PySem.Spec PyProof.Rows
section
variable {X:Cx}
theorem a7t:G4 X (.type "range") (λ vs H Q=>∃ j:Int,vs=[.int j]/\∀ p,H p=none->Q (.ref p) (upd H p (.rng 0 j))):=by
 intro pins s σ H vs us Q I r h;obtain ⟨j,rfl,q⟩:=h;obtain ⟨u,rfl,t,rfl⟩:=P6 r;refine call_range_1 ⟨.ref s.heap.objs.size,_,I.laid (o:=.rng 0 j) (λ b u e=>Heap.get?_push_of_some _ e) (aE _) ⟨_,_,_,Heap.get?_push_size _ rfl⟩,rfl,q _ (I.hok.fresh (aE _))⟩
theorem a7R:G4 X (.type "range") (λ vs H Q=>∃ i j:Int,vs=[.int i,.int j]/\∀ p,H p=none->Q (.ref p) (upd H p (.rng i j))):=by
 intro pins s σ H vs us Q I r h;obtain ⟨i,j,rfl,q⟩:=h;obtain ⟨u,v,rfl,⟨t,rfl⟩,t',rfl⟩:=a1x r;refine call_range_2 ⟨.ref s.heap.objs.size,_,I.laid (o:=.rng i j) (λ b u e=>Heap.get?_push_of_some _ e) (aE _) ⟨_,_,_,Heap.get?_push_size _ rfl⟩,rfl,q _ (I.hok.fresh (aE _))⟩
theorem a2l:∀ (n:Nat) (acc:List Value) (F:Nat->Int),acc.length=n->(∀ j v,acc[j]?=some v->∃ t,v=Value.int (F j) t)->Vals ((aF n).map λ i=>V.int (F i)) acc
 | 0,[],_,_,_=>.nil
 | n+1,a::acc,F,hl,h=>by
  rw [jO,aV,aT];refine .cons (h 0 a rfl) ?_;exact a2l n acc (λ i=>F (i+1)) (by simpa using hl) λ j v e=>h (j+1) v (by simpa using e)
theorem a0e (hc:X.calm=true):G4 X (.type "list") (λ vs H Q=>∃ (p:Addr) (lo:Int) (n:Nat),vs=[.ref p]/\H p=some (.rng lo (lo+n))/\-(2 ^ 60)<=lo/\lo<2 ^ 60/\n<=1000/\∀ l,H l=none->Q (.ref l) (upd H l (.lst ((aF n).map λ (i:Nat)=>V.int (lo+(i:Int)))))):=by
 intro pins s σ H vs us Q I r h;obtain ⟨p,lo,n,rfl,hp,h1,h2,hn,q⟩:=h;obtain ⟨u,rfl,ru⟩:=P6 r
 cases ru;obtain ⟨t,u,v,e⟩:=I.hok p _ hp;have hsz:Builtin.Range.rangeSize lo (lo+n) 1=n:=by rw [rangeSize_one]; split <;> omega
 refine call_list_range (I.ok.hd hc) e (small_one (by omega) (by omega) (by omega) (by omega)) hsz (by omega) λ h' tk acc' c' hk hS hacc=>?_;have hv:Vals ((aF n).map λ (i:Nat)=>V.int (lo+(i:Int))) acc'.toList:=a2l n acc'.toList (λ i=>lo+(i:Int)) (by simpa using hacc.1) λ j v e=>by
  obtain ⟨t,et⟩:=hacc.2 j v (by simpa using e);exact ⟨t,by rw [et,eP]⟩
 have h9:n<=sizeLine:=aZ hn (by decide);refine ⟨.ref s.heap.objs.size,_,I.laid (o:=.lst ((aF n).map λ (i:Nat)=>V.int (lo+(i:Int)))) (t':=tk) hk (aE _) ⟨by simpa using h9,acc'.toList,c',hv,by simpa using hS⟩,rfl,q _ (I.hok.fresh (aE _))⟩
end
end L2
namespace Lp
abbrev B1:=Nat->Int
def tl (v:B1):B1:=λ i=>v (i+1)
def U8 (a:Int) (u:B1) (b:Int) (v:B1):B1:=λ i=>a*u i+b*v i
def N0 (D:List B1->Int):List B1->List B1->Int
 | _,[]=>0
 | pre,c::rest=>c 0*D ((pre++rest).map tl) - N0 D (pre++[c]) rest
def A5:Nat->List B1->Int
 | 0,_=>1
 | n+1,cols=>N0 (A5 n) [] cols
def Lin (n:Nat) (D:List B1->Int):Prop:=∀ (a:Int) (u:B1) (b:Int) (v:B1) (xs ys:List B1),xs.length+ys.length+1=n->D (xs++U8 a u b v::ys)=a*D (xs++u::ys)+b*D (xs++v::ys)
theorem a6a (a:Int) (u:B1) (b:Int) (v:B1):tl (U8 a u b v)=U8 a (tl u) b (tl v):=rfl
theorem b3C (a b x y p q:Int) (c:Int):c*(a*x+b*y) - (a*p+b*q)=a*(c*x - p)+b*(c*y - q):=by
 rw [fG,fH,fH];have e1:c*(a*x)=a*(c*x):=by rw [<- aX,aR c a,aX]
 have e2:c*(b*y)=b*(c*y):=by rw [<- aX,aR c b,aX]
 rw [e1,e2];lia
theorem a6n {n:Nat} {D:List B1->Int} (h:Lin n D) (a:Int) (u:B1) (b:Int) (v:B1):∀ (rest p1 p2:List B1),p1.length+p2.length+rest.length=n →
  N0 D (p1++U8 a u b v::p2) rest=a*N0 D (p1++u::p2) rest+b*N0 D (p1++v::p2) rest
 | [],p1,p2,_=>by simp [N0]
 | c::rest,p1,p2,hl=>by
  have hl':p1.length+p2.length+(rest.length+1)=n:=hl;have ih:=a6n h a u b v rest p1 (p2++[c]) (by rw [aM,cX]; lia);have h0:=h a (tl u) b (tl v) (p1.map tl) ((p2++rest).map tl) (by rw [aA,aA,aM]; lia);unfold N0;simp only [dI,bZ,aW,aV,a6a] at h0 ih ⊢;rw [h0,ih];exact b3C ..
theorem b5F (a b x y p q D:Int):(a*x+b*y)*D - (a*p+b*q)=a*(x*D - p)+b*(y*D - q):=by
 rw [cQ,fH,fH,aX,aX];lia
theorem a4s {n:Nat} {D:List B1->Int} (h:Lin n D) (a:Int) (u:B1) (b:Int) (v:B1):∀ (r1 pre r2:List B1),pre.length+r1.length+r2.length=n →
  N0 D pre (r1++U8 a u b v::r2)=a*N0 D pre (r1++u::r2)+b*N0 D pre (r1++v::r2)
 | [],pre,r2,hl=>by
  have hp:=a6n h a u b v r2 pre [] (by simp only [fX] at hl ⊢; lia);simp only [cY];unfold N0;rw [hp];exact b5F ..
 | c::r1,pre,r2,hl=>by
  have hl':pre.length+(r1.length+1)+r2.length=n:=hl;have ih:=a4s h a u b v r1 (pre++[c]) r2 (by rw [aM,cX]; lia);have h0:=h a (tl u) b (tl v) ((pre++r1).map tl) (r2.map tl) (by rw [aA,aA,aM]; lia);simp only [bZ];unfold N0;simp only [dI,bZ,aW,aV,a6a] at h0 ih ⊢;rw [h0,ih];exact b3C ..
theorem a3H:∀ n,Lin n (A5 n)
 | 0=>λ a u b v xs ys h=>by lia
 | n+1=>λ a u b v xs ys h=>a4s (a3H n) a u b v xs [] ys (by simp only [fX]; lia)
def Adj (n:Nat) (D:List B1->Int):Prop:=∀ (u:B1) (xs ys:List B1),xs.length+ys.length+2=n->D (xs++u::u::ys)=0
theorem a6S {n:Nat} {D:List B1->Int} (h:Adj n D) (u:B1):∀ (rest p1 p2:List B1),p1.length+p2.length+rest.length+1=n->N0 D (p1++u::u::p2) rest=0
 | [],_,_,_=>rfl
 | c::rest,p1,p2,hl=>by
  have hl':p1.length+p2.length+(rest.length+1)+1=n:=hl;have ih:=a6S h u rest p1 (p2++[c]) (by rw [aM,cX]; lia);have h0:=h (tl u) (p1.map tl) ((p2++rest).map tl) (by rw [aA,aA,aM]; lia);unfold N0;simp only [dI,bZ,aW,aV] at h0 ih ⊢;rw [h0,ih];lia
theorem a4M {n:Nat} {D:List B1->Int} (h:Adj n D) (u:B1):∀ (r1 pre r2:List B1),pre.length+r1.length+r2.length+1=n->N0 D pre (r1++u::u::r2)=0
 | [],pre,r2,hl=>by
  have hp:=a6S h u r2 pre [] (by simp only [fX] at hl ⊢; lia);simp only [cY];unfold N0;unfold N0;simp only [dI,bZ,cY] at hp ⊢;rw [hp];lia
 | c::r1,pre,r2,hl=>by
  have hl':pre.length+(r1.length+1)+r2.length+1=n:=hl;have ih:=a4M h u r1 (pre++[c]) r2 (by rw [aM,cX]; lia);have h0:=h (tl u) ((pre++r1).map tl) (r2.map tl) (by rw [aA,aA,aM]; lia);simp only [bZ];unfold N0;simp only [dI,bZ,aW,aV] at h0 ih ⊢;rw [h0,ih];lia
theorem a3w:∀ n,Adj n (A5 n)
 | 0=>λ u xs ys h=>by lia
 | n+1=>λ u xs ys h=>a4M (a3w n) u xs [] ys (by simp only [fX]; lia)
def R6 (k:Nat):B1:=λ i=>if i=k then 1 else 0
theorem b0a {D:List B1->Int}:∀ (rest pre:List B1),(∀ c∈rest,c 0=0)->N0 D pre rest=0
 | [],_,_=>rfl
 | c::rest,pre,h=>by
  unfold N0;rw [h c cF,b0a rest (pre++[c]) λ x hx=>h x (bM _ hx)];lia
theorem a0P:∀ n,A5 n ((aF n).map R6)=1
 | 0=>rfl
 | n+1=>by
  show N0 (A5 n) [] ((aF (n+1)).map R6)=1
  rw [jO,aV,aT];unfold N0;rw [b0a _ _ (λ c hc=>by
   obtain ⟨k,_,rfl⟩:=bH.mp hc;rfl)]
  have e:([]++(aF n).map (R6 ∘ Nat.succ)).map tl=(aF n).map R6:=by
   rw [cY,aT];refine cS λ k _=>?_
   funext i
   show (if i+1=k+1 then (1:Int) else 0)=if i=k then 1 else 0
   by_cases c:i=k
   ·rw [if_pos (by lia),if_pos c]
   ·rw [if_neg (by lia),if_neg c]
  rw [e,a0P n];rfl
def bnd (M:Nat):Nat->Nat
 | 0=>1
 | n+1=>(n+1)*(M*bnd M n)
def Fits (M n:Nat) (v:B1):Prop:=∀ i,i<n->(v i).natAbs<=M
theorem a6c {D:List B1->Int} {M n B:Nat} (hD:∀ cols,cols.length=n->(∀ c∈cols,Fits M n c)->(D cols).natAbs<=B):∀ (rest pre:List B1),pre.length+rest.length=n+1->(∀ c∈pre,Fits M (n+1) c)->(∀ c∈rest,Fits M (n+1) c)->(N0 D pre rest).natAbs<=rest.length*(M*B)
 | [],_,_,_,_=>by simp [N0]
 | c::rest,pre,hl,hp,hr=>by
  have hl':pre.length+(rest.length+1)=n+1:=hl;have h1:=a6c hD rest (pre++[c]) (by rw [aM,cX]; lia) (λ x hx=>(aS.mp hx).elim (hp x) λ z=>by rw [aY.mp z]; exact hr c cF) λ x hx=>hr x (bM _ hx);have h2:=hD ((pre++rest).map tl) (by rw [aA,aM]; lia) λ x hx=>by
   obtain ⟨y,hy,rfl⟩:=bH.mp hx;intro i hi;rcases aS.mp hy with z | z
   ·exact hp y z (i+1) (by lia)
   ·exact hr y (bM _ z) (i+1) (by lia)
  have h3:=hr c cF 0 (by lia);unfold N0;rw [cV,gE];have h4:(c 0*D ((pre++rest).map tl)).natAbs<=M*B:=by rw [iE]; exact Nat.mul_le_mul h3 h2
  have h5:=Int.natAbs_sub_le (c 0*D ((pre++rest).map tl)) (N0 D (pre++[c]) rest);lia
theorem a4a {M:Nat}:∀ (n:Nat) (cols:List B1),cols.length=n->(∀ c∈cols,Fits M n c)->(A5 n cols).natAbs<=bnd M n
 | 0,_,_,_=>aE 1
 | n+1,cols,hl,hf=>by
  have:=a6c (a4a (M:=M) n) cols [] (by simpa using hl) (λ c hc=>by cases hc) hf;rw [hl] at this;exact this
theorem a4L {α:Type} {C:List α} {i:Nat} {u:α} (h:C[i]?=some u):C=C.take i++u::C.drop (i+1):=by
 obtain ⟨hi,rfl⟩:=bN.mp h;rw [<- List.drop_eq_getElem_cons hi,List.take_append_drop]
theorem a9W (n:Nat) (u v:B1) (xs ys:List B1) (hl:xs.length+ys.length+2=n):A5 n (xs++u::v::ys) = - A5 n (xs++v::u::ys):=by
 have L:=a3H n;have A:=a3w n;have h0:=A (U8 1 u 1 v) xs ys hl;have h1:=L 1 u 1 v xs (U8 1 u 1 v::ys) (by simp only [cV]; lia);have h2:=L 1 u 1 v (xs++[u]) ys (by simp only [aM,cX]; lia);have h3:=L 1 u 1 v (xs++[v]) ys (by simp only [aM,cX]; lia);have h4:=A u xs ys hl;have h5:=A v xs ys hl;simp only [dI,bZ,cY] at h2 h3;lia
theorem a6D (n:Nat) (u:B1):∀ (zs xs ys:List B1),xs.length+zs.length+ys.length+2=n->A5 n (xs++u::(zs++u::ys))=0
 | [],xs,ys,hl=>a3w n u xs ys (by simp only [fX] at hl; lia)
 | z::zs,xs,ys,hl=>by
  have hl':xs.length+(zs.length+1)+ys.length+2=n:=hl;rw [bZ,a9W n u z xs (zs++u::ys) (by simp only [aM,cV]; lia)];have:=a6D n u zs (xs++[z]) ys (by rw [aM,cX]; lia);simp only [dI,bZ,cY] at this;lia
theorem a6I {n:Nat} {C:List B1} {i k:Nat} {u:B1} (hl:C.length=n) (hik:i<k) (h1:C[i]?=some u) (h2:C[k]?=some u):A5 n C=0:=by
 have e1:=a4L h1;have hk:k<C.length:=(bN.mp h2).1;have h3:(C.drop (i+1))[k - (i+1)]?=some u:=by rw [jP,show i+1+(k - (i+1))=k by lia]; exact h2
 have e2:=a4L h3;rw [e1,e2];refine a6D n u _ _ _ ?_;simp only [bP,cW];lia
theorem X3 {n:Nat} {C:List B1} {i k:Nat} {u:B1} (hl:C.length=n) (hik:i≠k) (h1:C[i]?=some u) (h2:C[k]?=some u):A5 n C=0:=by
 rcases Nat.lt_or_gt_of_ne hik with h | h
 ·exact a6I hl h h1 h2
 ·exact a6I hl h h2 h1
theorem a1d {α:Type} {C:List α} {k:Nat} (h:k<C.length) (u:α):C.set k u=C.take k++u::C.drop (k+1):=by
 rw [List.set_eq_take_append_cons_drop,if_pos h]
theorem T6 {n:Nat} {C:List B1} {k:Nat} (hl:C.length=n) (hk:k<n) (a:Int) (u:B1) (b:Int) (v:B1):A5 n (C.set k (U8 a u b v))=a*A5 n (C.set k u)+b*A5 n (C.set k v):=by
 have hk':k<C.length:=by lia
 rw [a1d hk',a1d hk',a1d hk'];refine a3H n a u b v _ _ ?_;simp only [bP,cW];lia
theorem a4d {n:Nat} {C:List B1} {i k:Nat} (hl:C.length=n) (hi:i<n) (hk:k<n) (hik:i≠k) (u:B1):A5 n ((C.set i u).set k u)=0:=by
 refine X3 (i:=i) (k:=k) (u:=u) (by rw [bW,bW]; exact hl) hik ?_ ?_
 ·rw [bC (aQ hik),bR (by lia)]
 ·rw [bR (by rw [bW]; lia)]
theorem a4E {n:Nat} {C:List B1} {i k:Nat} (hl:C.length=n) (hi:i<n) (hk:k<n) (hik:i≠k) (u v:B1):A5 n ((C.set i u).set k v) = - A5 n ((C.set i v).set k u):=by
 have h0:=a4d hl hi hk hik (U8 1 u 1 v);have h1:=T6 (C:=C.set i (U8 1 u 1 v)) (by rw [bW]; exact hl) hk 1 u 1 v;have h2:=T6 (C:=C.set k u) (by rw [bW]; exact hl) hi 1 u 1 v;have h3:=T6 (C:=C.set k v) (by rw [bW]; exact hl) hi 1 u 1 v;have h4:=a4d hl hi hk hik u;have h5:=a4d hl hi hk hik v;rw [fB _ _ (aQ hik),fB _ _ (aQ hik),fB _ _ (aQ hik)] at h2 h3;lia
def sumTo (g:Nat->Int):Nat->Int
 | 0=>0
 | n+1=>sumTo g n+g n
theorem sum_congr {g h:Nat->Int}:∀ {n:Nat},(∀ k,k<n->g k=h k)->sumTo g n=sumTo h n
 | 0,_=>rfl
 | n+1,e=>by
  show sumTo g n+g n=sumTo h n+h n
  rw [sum_congr λ k hk=>e k (by lia),e n (by lia)]
theorem sum_zero {g:Nat->Int} {n:Nat} (h:∀ k,k<n->g k=0):sumTo g n=0:=by
 induction n with
 | zero=>rfl
 | succ n ih =>
  show sumTo g n+g n=0
  rw [ih λ k hk=>h k (by lia),h n (by lia)];rfl
theorem sum_one {g:Nat->Int} {n r:Nat} (hr:r<n) (h:∀ k,k<n->k≠r->g k=0):sumTo g n=g r:=by
 induction n with
 | zero=>lia
 | succ n ih =>
  show sumTo g n+g n=g r
  by_cases c:r=n
  ·subst c
   rw [sum_zero λ k hk=>h k (by lia) (by lia)];lia
  ·rw [ih (by lia) λ k hk hn=>h k (by lia) hn,h n (by lia) (by lia)]
   lia
theorem R3 {g h:Nat->Int}:∀ n:Nat,sumTo (λ k=>g k+h k) n=sumTo g n+sumTo h n
 | 0=>rfl
 | n+1=>by
  show sumTo (λ k=>g k+h k) n+(g n+h n)=sumTo g n+g n+(sumTo h n+h n)
  rw [R3 n];lia
theorem x8 {g:Nat->Int} (a:Int):∀ n:Nat,sumTo (λ k=>a*g k) n=a*sumTo g n
 | 0=>(bB a).symm
 | n+1=>by
  show sumTo (λ k=>a*g k) n+a*g n=a*(sumTo g n+g n)
  rw [x8 a n,fG]
theorem b0G {g:Nat->Int} {n r i:Nat} (hr:r<n) (hi:i<n) (hne:r≠i) (h:∀ k,k<n->k≠r->k≠i->g k=0):sumTo g n=g r+g i:=by
 have e:sumTo g n=sumTo (λ k=>(if k=r then g k else 0)+(if k=i then g k else 0)) n:=sum_congr λ k hk=>by
  by_cases c1:k=r
  ·rw [if_pos c1,if_neg (by lia)]; lia
  ·by_cases c2:k=i
   ·rw [if_neg c1,if_pos c2]; lia
   ·rw [if_neg c1,if_neg c2,h k hk c1 c2]; lia
 rw [e,R3,sum_one hr λ k _ hn=>if_neg hn,sum_one hi λ k _ hn=>if_neg hn,if_pos rfl,if_pos rfl]
theorem a1D {n:Nat} {C:List B1} {k:Nat} (hl:C.length=n) (hk:k<n) (t:Nat->Int) (W:Nat->B1):∀ m:Nat,A5 n (C.set k (λ x=>sumTo (λ j=>t j*W j x) m))=sumTo (λ j=>t j*A5 n (C.set k (W j))) m
 | 0=>by
  have h:=T6 hl hk 0 (λ _=>0) 0 (λ _=>0);have e:U8 0 (λ _=>0) 0 (λ _=>0)=(λ x:Nat=>sumTo (λ j=>t j*W j x) 0):=by funext x; simp [U8,sumTo]
  rw [e] at h;rw [h];simp [sumTo]
 | m+1=>by
  have h:=T6 hl hk 1 (λ x=>sumTo (λ j=>t j*W j x) m) (t m) (W m);have e:U8 1 (λ x=>sumTo (λ j=>t j*W j x) m) (t m) (W m)=(λ x:Nat=>sumTo (λ j=>t j*W j x) (m+1)):=by funext x; simp [U8,sumTo]
  rw [e,a1D hl hk t W m] at h;rw [h]
  show 1*sumTo _ m+_=sumTo _ m+_
  rw [fY]
def zv:B1:=λ _=>0
def a4S (n:Nat) (B:List B1) (u:B1):Prop:=∀ x,A5 n B*u x=sumTo (λ k=>A5 n (B.set k u)*(B.getD k zv) x) n
theorem a3v {B:List B1} {k:Nat} (h:k<B.length):B[k]?=some (B.getD k zv):=by rw [aI,aG h]; rfl
theorem Q7 {B:List B1} {k:Nat} (h:k<B.length):B.set k (B.getD k zv)=B:=by
 have e:B.getD k zv=B[k]:=by rw [aI,aG h]; rfl
 rw [e,List.set_getElem_self]
theorem plu {n:Nat} {B:List B1} {r i:Nat} (hl:B.length=n) (hr:r<n) (hi:i<n) (hne:i≠r) {u:B1} (v:B1) (hc:a4S n B u) :
  A5 n B*A5 n ((B.set r u).set i v)=A5 n (B.set r u)*A5 n (B.set i v) - A5 n (B.set i u)*A5 n (B.set r v):=by
 have hl':(B.set i v).length=n:=by rw [bW]; exact hl
 have e1:A5 n ((B.set i v).set r (U8 (A5 n B) u 0 u))=A5 n B*A5 n ((B.set i v).set r u):=by
  rw [T6 hl' hr]; lia
 have e2:U8 (A5 n B) u 0 u=(λ x:Nat=>sumTo (λ k=>A5 n (B.set k u)*(B.getD k zv) x) n):=by
  funext x
  rw [<- hc x];unfold U8;lia
 rw [e2,a1D hl' hr (λ k=>A5 n (B.set k u)) (λ k=>B.getD k zv) n] at e1;rw [fB _ _ (aQ hne),<- e1];rw [b0G hr hi (aQ hne) λ k hk n1 n2=>?_]
 ·have a1:(B.set i v).set r (B.getD r zv)=B.set i v:=by rw [fB _ _ hne,Q7 (by lia)]
  have a2:A5 n ((B.set i v).set r (B.getD i zv)) = - A5 n (B.set r v):=by
   rw [a4E hl hi hr hne,Q7 (by lia)]
  show A5 n (B.set r u)*A5 n ((B.set i v).set r (B.getD r zv))+A5 n (B.set i u)*A5 n ((B.set i v).set r (B.getD i zv))=_
  rw [a1,a2,dB];lia
 ·have:A5 n ((B.set i v).set r (B.getD k zv))=0:=by
   refine X3 (i:=k) (k:=r) (u:=B.getD k zv) (by rw [bW,bW]; exact hl) n1 ?_ ?_
   ·rw [bC (aQ n1),bC (aQ n2)]; exact a3v (by lia)
   ·rw [bR (by rw [bW]; lia)]
  show A5 n (B.set k u)*A5 n ((B.set i v).set r (B.getD k zv))=0
  rw [this,bB]
theorem b2O {d a b:Int} (hd:d≠0) (h:d*a=d*b):a=b:=Int.eq_of_mul_eq_mul_left hd h
theorem a2S {n:Nat} {B:List B1} {r:Nat} (hl:B.length=n) (hr:r<n) {u v:B1} (hd:A5 n B≠0) (hu:a4S n B u) (hv:a4S n B v):a4S n (B.set r u) v:=by
 intro x;refine b2O hd ?_;have e:∀ k,k<n->A5 n B*(A5 n ((B.set r u).set k v)*((B.set r u).getD k zv) x) =
   A5 n (B.set r u)*(A5 n (B.set k v)*(B.getD k zv) x)+(if k=r then A5 n B*(A5 n (B.set r v)*u x) else 0) - A5 n (B.set r v)*(A5 n (B.set k u)*(B.getD k zv) x):=λ k hk=>by
  by_cases c:k=r
  ·subst c
   rw [if_pos rfl,jQ];have g:(B.set k u).getD k zv=u:=by rw [aI,bR (by lia)]; rfl
   rw [g];have:A5 n (B.set k u)*(A5 n (B.set k v)*B.getD k zv x)=A5 n (B.set k v)*(A5 n (B.set k u)*B.getD k zv x):=by rw [<- aX,<- aX,aR (A5 n (B.set k u))]
   lia
  ·rw [if_neg c]
   have g:(B.set r u).getD k zv=B.getD k zv:=by rw [aI,bC (aQ c),<- aI]
   rw [g,<- aX,plu hl hr hk c v hu,jR,aX,aX];have:A5 n (B.set k u)*(A5 n (B.set r v)*B.getD k zv x)=A5 n (B.set r v)*(A5 n (B.set k u)*B.getD k zv x):=by rw [<- aX,<- aX,aR (A5 n (B.set k u))]
   lia
 have s1:A5 n B*sumTo (λ k=>A5 n ((B.set r u).set k v)*((B.set r u).getD k zv) x) n =
   sumTo (λ k=>A5 n (B.set r u)*(A5 n (B.set k v)*(B.getD k zv) x)+(if k=r then A5 n B*(A5 n (B.set r v)*u x) else 0)+(- A5 n (B.set r v))*(A5 n (B.set k u)*(B.getD k zv) x)) n:=by
  rw [<- x8];refine sum_congr λ k hk=>?_;rw [e k hk,eJ];lia
 rw [s1,R3,R3,x8,x8,<- hv x,<- hu x,sum_one hr λ k _ hn=>if_neg hn,if_pos rfl,eJ];have a1:A5 n B*(A5 n (B.set r u)*v x)=A5 n (B.set r u)*(A5 n B*v x):=by rw [<- aX,<- aX,aR (A5 n B)]
 have a2:A5 n B*(A5 n (B.set r v)*u x)=A5 n (B.set r v)*(A5 n B*u x):=by rw [<- aX,<- aX,aR (A5 n B)]
 lia
theorem a7Y {n:Nat} {B:List B1} {r:Nat} (hl:B.length=n) (hr:r<n):a4S n B (B.getD r zv):=by
 intro x;rw [sum_one hr λ k hk hn=>?_]
 ·rw [Q7 (by lia)]
 ·have:A5 n (B.set k (B.getD r zv))=0:=by
   refine X3 (i:=r) (k:=k) (u:=B.getD r zv) (by rw [bW]; exact hl) (aQ hn) ?_ ?_
   ·rw [bC hn]; exact a3v (by lia)
   ·rw [bR (by lia)]
  rw [this,dP]
theorem b3Y {n:Nat} {B:List B1} (hl:B.length=n) (hd:A5 n B≠0) {t:Nat->Int} (h:∀ x,sumTo (λ k=>t k*(B.getD k zv) x) n=0) {i:Nat} (hi:i<n):t i=0:=by
 have h1:=a1D (C:=B) hl hi t (λ k=>B.getD k zv) n;have e:(λ x:Nat=>sumTo (λ k=>t k*(B.getD k zv) x) n)=zv:=by funext x; rw [h x]; rfl
 rw [e] at h1;have h0:A5 n (B.set i zv)=0:=by
  have:=T6 hl hi 0 zv 0 zv;have e:U8 0 zv 0 zv=zv:=by funext x; simp [U8,zv]
  rw [e] at this;lia
 rw [h0,sum_one hi λ k hk hn=>?_,Q7 (by lia)] at h1
 ·exact (gM.mp h1.symm).resolve_right hd
 ·have:A5 n (B.set i (B.getD k zv))=0:=by
   refine X3 (i:=k) (k:=i) (u:=B.getD k zv) (by rw [bW]; exact hl) hn ?_ ?_
   ·rw [bC (aQ hn)]; exact a3v (by lia)
   ·rw [bR (by lia)]
  rw [this,bB]
structure Bo where
 d:Int
 T:Nat->Nat->Int
 ins:Nat->Nat
 outs:Nat->Nat
def Y6 (g:Nat->Nat) (k v:Nat):Nat->Nat:=λ i=>if i=k then v else g i
theorem v6 {g:Nat->Nat} {k v:Nat}:Y6 g k v k=v:=if_pos rfl
theorem w4 {g:Nat->Nat} {k v i:Nat} (h:i≠k):Y6 g k v i=g i:=if_neg h
def piv (S:Bo) (r c:Nat):Bo where
 d:=S.T r c
 T:=λ i j=>if i=r then (if j=c then S.d else S.T r j) else (if j=c then - S.T i c else (S.T i j*S.T r c - S.T i c*S.T r j) / S.d)
 ins:=Y6 S.ins r (S.outs c)
 outs:=Y6 S.outs c (S.ins r)
def Bs (m:Nat) (V:Nat->B1) (ins:Nat->Nat):List B1:=(aF (m+1)).map λ i=>V (ins i)
theorem a1g (m:Nat) (V:Nat->B1) (ins:Nat->Nat):(Bs m V ins).length=m+1:=by unfold Bs; rw [aA,dQ]
theorem a6x {m:Nat} {V:Nat->B1} {ins:Nat->Nat} {i:Nat} (h:i<m+1):(Bs m V ins).getD i zv=V (ins i):=by
 unfold Bs;rw [aI,aD,bF h];rfl
theorem a8Q {m:Nat} {V:Nat->B1} {ins:Nat->Nat} {r v:Nat} (h:r<m+1):Bs m V (Y6 ins r v)=(Bs m V ins).set r (V v):=by
 refine cJ λ i=>?_;unfold Bs
 by_cases c:i=r
 ·subst c
  rw [bR (by rw [aA,dQ]; exact h),aD,bF h]
  show some (V (Y6 ins i v i))=_
  rw [v6]
 ·rw [bC (aQ c),aD,aD]
  by_cases hi:i<m+1
  ·rw [bF hi]
   show some (V (Y6 ins r v i))=some (V (ins i))
   rw [w4 c]
  ·rw [bL (by rw [dQ]; lia)]
   rfl
structure Wf (m q:Nat) (V:Nat->B1) (S:Bo):Prop where
 hd:S.d=A5 (m+1) (Bs m V S.ins)
 hT:∀ i j,i<m+1->j<q+1->S.T i j=A5 (m+1) ((Bs m V S.ins).set i (V (S.outs j)))
 cr:∀ j,j<q+1->a4S (m+1) (Bs m V S.ins) (V (S.outs j))
 pos:0<S.d
 feas:∀ i,i<m->0<=S.T i q
 im:S.ins m=q+m
 oq:S.outs q=q+m+1
 ib:∀ i,i<m->S.ins i<q+m
 ob:∀ j,j<q->S.outs j<q+m
 ii:∀ i k,i<m->k<m->S.ins i=S.ins k->i=k
 oo:∀ j k,j<q->k<q->S.outs j=S.outs k->j=k
 io:∀ i j,i<m->j<q->S.ins i≠S.outs j
 all:∀ v,v<q+m->(∃ i,i<m/\S.ins i=v)\/(∃ j,j<q/\S.outs j=v)
section
variable {m q:Nat} {V:Nat->B1} {S:Bo}
theorem Wf.exact (W:Wf m q V S) {r c i j:Nat} (hr:r<m) (hc:c<q) (hi:i<m+1) (hj:j<q+1) (hne:i≠r) :
  S.T i j*S.T r c - S.T i c*S.T r j=S.d*A5 (m+1) (((Bs m V S.ins).set r (V (S.outs c))).set i (V (S.outs j))):=by
 have h:=plu (a1g m V S.ins) (show r<m+1 by lia) hi hne (V (S.outs j)) (W.cr c (by lia));rw [W.hd,h,W.hT i j hi hj,W.hT r c (by lia) (by lia),W.hT i c hi (by lia),W.hT r j (by lia) hj];rw [aR (A5 (m+1) ((Bs m V S.ins).set i (V (S.outs j))))]
theorem Wf.pivT (W:Wf m q V S) {r c i j:Nat} (hr:r<m) (hc:c<q) (hi:i<m+1) (hj:j<q+1):(piv S r c).T i j=A5 (m+1) ((Bs m V (piv S r c).ins).set i (V ((piv S r c).outs j))):=by
 have hl:=a1g m V S.ins
 show (if i=r then (if j=c then S.d else S.T r j) else (if j=c then - S.T i c else (S.T i j*S.T r c - S.T i c*S.T r j) / S.d))=A5 (m+1) ((Bs m V (Y6 S.ins r (S.outs c))).set i (V (Y6 S.outs c (S.ins r) j)))
 rw [a8Q (by lia)]
 by_cases c1:i=r
 ·subst c1
  rw [if_pos rfl,jQ]
  by_cases c2:j=c
  ·subst c2
   rw [if_pos rfl,v6,W.hd,<- a6x (V:=V) (ins:=S.ins) hi,Q7 (by lia)]
  ·rw [if_neg c2,w4 c2]
   exact W.hT i j hi hj
 ·rw [if_neg c1]
  by_cases c2:j=c
  ·subst c2
   rw [if_pos rfl,v6,a4E hl (by lia) hi (aQ c1),<- a6x (V:=V) (ins:=S.ins) (show r<m+1 by lia),Q7 (by lia),W.hT i j hi hj]
  ·rw [if_neg c2,w4 c2,W.exact hr hc hi hj c1]
   exact jI _ (by have:=W.pos; lia)
theorem Wf.mulT (W:Wf m q V S) {r c i j:Nat} (hr:r<m) (hc:c<q) (hi:i<m+1) (hj:j<q+1) (hne:i≠r) (hjc:j≠c):S.d*(piv S r c).T i j=S.T i j*S.T r c - S.T i c*S.T r j:=by
 have e:=W.pivT hr hc hi hj;have h:=W.exact hr hc hi hj hne;have e2:Bs m V (piv S r c).ins=(Bs m V S.ins).set r (V (S.outs c)):=a8Q (by lia);have e3:(piv S r c).outs j=S.outs j:=w4 hjc;rw [e2,e3] at e;rw [h,e]
theorem Wf.pivot (W:Wf m q V S) {r c:Nat} (hr:r<m) (hc:c<q) (hp:0<S.T r c) (hq:∀ i,i<m->0<S.T i c->S.T r q*S.T i c<=S.T i q*S.T r c):Wf m q V (piv S r c):=by
 have hl:=a1g m V S.ins;have hd0:A5 (m+1) (Bs m V S.ins)≠0:=by have:=W.pos; rw [W.hd] at this; lia
 have hB:Bs m V (piv S r c).ins=(Bs m V S.ins).set r (V (S.outs c)):=a8Q (by lia);refine ⟨?_,λ i j hi hj=>W.pivT hr hc hi hj,λ j hj=>?_,hp,λ i hi=>?_,?_,?_,λ i hi=>?_,λ j hj=>?_,λ i k hi hk e=>?_,λ j k hj hk e=>?_,λ i j hi hj e=>?_,λ v hv=>?_⟩
 ·rw [hB]; exact W.hT r c (by lia) (by lia)
 ·rw [hB]
  by_cases c2:j=c
  ·subst c2
   show a4S _ _ (V (Y6 S.outs j (S.ins r) j))
   rw [v6];have h:=a7Y hl (show r<m+1 by lia);rw [a6x (by lia)] at h;exact a2S hl (by lia) hd0 (W.cr j hj) h
  ·show a4S _ _ (V (Y6 S.outs c (S.ins r) j))
   rw [w4 c2];exact a2S hl (by lia) hd0 (W.cr c (by lia)) (W.cr j hj)
 ·by_cases c1:i=r
  ·subst c1
   show 0<=(if i=i then (if q=c then S.d else S.T i q) else _)
   rw [if_pos rfl,if_neg (by lia)];exact W.feas i hi
  ·have e:=W.mulT hr hc (show i<m+1 by lia) (show q<q+1 by lia) c1 (show q≠c by lia)
   have f1:=W.feas i hi;have f2:=W.feas r hr;have hpos:=W.pos;have nn:0<=S.T i q*S.T r c - S.T i c*S.T r q:=by
    have a1:0<=S.T i q*S.T r c:=cK f1 (bG hp)
    by_cases z:0<S.T i c
    ·have:=hq i hi z
     rw [aR (S.T i c)];lia
    ·have a2:0 <= - (S.T i c)*S.T r q:=cK (by lia) f2
     rw [eJ] at a2;lia
   rw [<- e] at nn
   by_cases z:0<=(piv S r c).T i q
   ·exact z
   ·have:=eI hpos (show 0 < - (piv S r c).T i q by lia)
    rw [dB] at this;lia
 ·show Y6 S.ins r (S.outs c) m=q+m
  rw [w4 (by lia)]; exact W.im
 ·show Y6 S.outs c (S.ins r) q=q+m+1
  rw [w4 (by lia)]; exact W.oq
 ·show Y6 S.ins r (S.outs c) i<q+m
  by_cases c1:i=r
  ·rw [c1,v6]; exact W.ob c hc
  ·rw [w4 c1]; exact W.ib i hi
 ·show Y6 S.outs c (S.ins r) j<q+m
  by_cases c1:j=c
  ·rw [c1,v6]; exact W.ib r hr
  ·rw [w4 c1]; exact W.ob j hj
 ·replace e:Y6 S.ins r (S.outs c) i=Y6 S.ins r (S.outs c) k:=e
  by_cases c1:i=r
  ·by_cases c2:k=r
   ·lia
   ·rw [c1,v6,w4 c2] at e
    exact absurd e.symm (W.io k c hk hc)
  ·by_cases c2:k=r
   ·rw [c2,v6,w4 c1] at e
    exact absurd e (W.io i c hi hc)
   ·rw [w4 c1,w4 c2] at e
    exact W.ii i k hi hk e
 ·replace e:Y6 S.outs c (S.ins r) j=Y6 S.outs c (S.ins r) k:=e
  by_cases c1:j=c
  ·by_cases c2:k=c
   ·lia
   ·rw [c1,v6,w4 c2] at e
    exact absurd e (W.io r k hr hk)
  ·by_cases c2:k=c
   ·rw [c2,v6,w4 c1] at e
    exact absurd e.symm (W.io r j hr hj)
   ·rw [w4 c1,w4 c2] at e
    exact W.oo j k hj hk e
 ·replace e:Y6 S.ins r (S.outs c) i=Y6 S.outs c (S.ins r) j:=e
  by_cases c1:i=r
  ·by_cases c2:j=c
   ·rw [c1,c2,v6,v6] at e
    exact absurd e.symm (W.io r c hr hc)
   ·rw [c1,v6,w4 c2] at e
    exact c2 (W.oo c j hc hj e).symm
  ·by_cases c2:j=c
   ·rw [c2,v6,w4 c1] at e
    exact c1 (W.ii i r hi hr e)
   ·rw [w4 c1,w4 c2] at e
    exact W.io i j hi hj e
 ·show (∃ i,i<m/\Y6 S.ins r (S.outs c) i=v)\/(∃ j,j<q/\Y6 S.outs c (S.ins r) j=v)
  rcases W.all v hv with ⟨i,hi,e⟩ | ⟨j,hj,e⟩
  ·by_cases c1:i=r
   ·exact .inr ⟨c,hc,by rw [v6,<- c1]; exact e⟩
   ·exact .inl ⟨i,hi,by rw [w4 c1]; exact e⟩
  ·by_cases c1:j=c
   ·exact .inl ⟨r,hr,by rw [v6,<- c1]; exact e⟩
   ·exact .inr ⟨j,hj,by rw [w4 c1]; exact e⟩
def Ker (m q:Nat) (V:Nat->B1) (S:Bo) (z:Nat->Int):Prop:=∀ x,sumTo (λ k=>z (S.ins k)*V (S.ins k) x) (m+1)+sumTo (λ j=>z (S.outs j)*V (S.outs j) x) (q+1)=0
theorem a6Q {g h:Nat->Int} {n r:Nat} (hr:r<n) (e:∀ k,k<n->k≠r->g k=h k):sumTo g n=sumTo h n+(g r - h r):=by
 have e1:sumTo g n=sumTo (λ k=>h k+(if k=r then g k - h k else 0)) n:=sum_congr λ k hk=>by
  by_cases c:k=r
  ·rw [if_pos c]; lia
  ·rw [if_neg c,e k hk c]; lia
 rw [e1,R3,sum_one hr λ k _ hn=>if_neg hn,if_pos rfl]
theorem Ker.piv {r c:Nat} (hr:r<m) (hc:c<q) {z:Nat->Int}:Ker m q V (piv S r c) z ↔ Ker m q V S z:=by
  have e:∀ x,sumTo (λ k=>z ((Lp.piv S r c).ins k)*V ((Lp.piv S r c).ins k) x) (m+1)+sumTo (λ j=>z ((Lp.piv S r c).outs j)*V ((Lp.piv S r c).outs j) x) (q+1)
     =sumTo (λ k=>z (S.ins k)*V (S.ins k) x) (m+1)+sumTo (λ j=>z (S.outs j)*V (S.outs j) x) (q+1):=λ x=>by
    have h1:=a6Q (g:=λ k=>z ((Lp.piv S r c).ins k)*V ((Lp.piv S r c).ins k) x) (h:=λ k=>z (S.ins k)*V (S.ins k) x) (n:=m+1) (r:=r) (by lia) λ k hk hn=>by
      show z (Y6 S.ins r (S.outs c) k)*V (Y6 S.ins r (S.outs c) k) x=_
      rw [w4 hn]
    have h2:=a6Q (g:=λ j=>z ((Lp.piv S r c).outs j)*V ((Lp.piv S r c).outs j) x) (h:=λ j=>z (S.outs j)*V (S.outs j) x) (n:=q+1) (r:=c) (by lia) λ k hk hn=>by
      show z (Y6 S.outs c (S.ins r) k)*V (Y6 S.outs c (S.ins r) k) x=_
      rw [w4 hn]
    rw [h1,h2]
    show _+(z (Y6 S.ins r (S.outs c) r)*V (Y6 S.ins r (S.outs c) r) x - _)+(_+(z (Y6 S.outs c (S.ins r) c)*V (Y6 S.outs c (S.ins r) c) x - _))=_
    rw [v6,v6];lia
  exact ⟨λ h x=>(e x).symm.trans (h x),λ h x=>(e x).trans (h x)⟩
def a1V (q:Nat) (S:Bo) (z:Nat->Int) (i:Nat):Int:=S.d*z (S.ins i)+sumTo (λ j=>S.T i j*z (S.outs j)) (q+1)
theorem X7 {g:Nat->Nat->Int} (n:Nat):∀ k:Nat,sumTo (λ i=>sumTo (λ j=>g i j) k) n=sumTo (λ j=>sumTo (λ i=>g i j) n) k
 | 0=>sum_zero λ _ _=>rfl
 | k+1=>by
  show sumTo (λ i=>sumTo (λ j=>g i j) k+g i k) n=sumTo (λ j=>sumTo (λ i=>g i j) n) k+sumTo (λ i=>g i k) n
  rw [R3,X7 n k]
theorem Wf.rows (W:Wf m q V S) (z:Nat->Int) (x:Nat):S.d*(sumTo (λ k=>z (S.ins k)*V (S.ins k) x) (m+1)+sumTo (λ j=>z (S.outs j)*V (S.outs j) x) (q+1))=sumTo (λ k=>a1V q S z k*((Bs m V S.ins).getD k zv) x) (m+1):=by
 have e1:S.d*sumTo (λ j=>z (S.outs j)*V (S.outs j) x) (q+1)=sumTo (λ k=>sumTo (λ j=>S.T k j*z (S.outs j)) (q+1)*((Bs m V S.ins).getD k zv) x) (m+1):=by
  rw [<- x8];have h1:∀ j,j<q+1->S.d*(z (S.outs j)*V (S.outs j) x)=sumTo (λ k=>S.T k j*z (S.outs j)*((Bs m V S.ins).getD k zv) x) (m+1):=λ j hj=>by
   have h:=W.cr j hj x;rw [<- W.hd] at h;rw [aR (z (S.outs j)),<- aX,h,aR,<- x8];refine sum_congr λ k hk=>?_;rw [W.hT k j hk hj,<- aX,aR (z (S.outs j))]
  rw [sum_congr h1,<- X7];refine sum_congr λ k hk=>?_;rw [aR (sumTo _ _),<- x8];exact sum_congr λ j _=>aR _ _
 rw [fG,e1,<- x8,<- R3];refine sum_congr λ k hk=>?_
 show _=(S.d*z (S.ins k)+_)*_
 rw [cQ,a6x hk,aX]
theorem Wf.row_of (W:Wf m q V S) {z:Nat->Int} (h:Ker m q V S z) {i:Nat} (hi:i<m+1):a1V q S z i=0:=by
 refine b3Y (a1g m V S.ins) (by have:=W.pos; rw [W.hd] at this; lia) (λ x=>?_) hi;rw [<- W.rows z x,h x,bB]
theorem Wf.ker_of (W:Wf m q V S) {z:Nat->Int} (h:∀ i,i<m+1->a1V q S z i=0):Ker m q V S z:=λ x=>by
 have e:=W.rows z x;have e0:sumTo (λ k=>a1V q S z k*((Bs m V S.ins).getD k zv) x) (m+1)=0:=sum_zero λ k hk=>by rw [h k hk,dP]
 rw [e0] at e;exact (gM.mp e).resolve_left (by have:=W.pos; lia)
end
structure Choice (m q:Nat) (S:Bo) (r c:Nat):Prop where
 hc:c<q
 neg:S.T m c<0
 minc:∀ j,j<q->S.T m j<0->S.outs c<=S.outs j
 hr:r<m
 pos:0<S.T r c
 ratio:∀ i,i<m->0<S.T i c->S.T r q*S.T i c<=S.T i q*S.T r c
 tie:∀ i,i<m->0<S.T i c->S.T r q*S.T i c=S.T i q*S.T r c->S.ins r<=S.ins i
theorem a6O {g:Nat->Int}:∀ {n:Nat},sumTo g n<0->∃ k,k<n/\g k<0
 | 0,h=>absurd h (by show ¬ (0:Int)<0; lia)
 | n+1,h=>by
  have h':sumTo g n+g n<0:=h
  by_cases c:g n<0
  ·exact ⟨n,by lia,c⟩
  ·obtain ⟨k,hk,hg⟩:=a6O (g:=g) (n:=n) (by lia)
   exact ⟨k,by lia,hg⟩
section
variable {m q:Nat} {V:Nat->B1} {S S':Bo}
theorem Wf.inj (W:Wf m q V S) {i k:Nat} (hi:i<m+1) (hk:k<m+1) (e:S.ins i=S.ins k):i=k:=by
 by_cases c1:i=m
 ·by_cases c2:k=m
  ·lia
  ·have:=W.ib k (by lia)
   rw [c1,W.im] at e;lia
 ·by_cases c2:k=m
  ·have:=W.ib i (by lia)
   rw [c2,W.im] at e;lia
  ·exact W.ii i k (by lia) (by lia) e
theorem Wf.apart (W:Wf m q V S) {i j:Nat} (hi:i<m+1) (hj:j<q+1):S.ins i≠S.outs j:=by
 intro e;have hI:S.ins i<=q+m:=by
  by_cases c1:i=m
  ·rw [c1,W.im]; exact aE _
  ·have:=W.ib i (by lia); lia
 by_cases c2:j=q
 ·rw [c2,W.oq] at e; lia
 ·have:=W.ob j (by lia)
  by_cases c1:i=m
  ·rw [c1,W.im] at e; lia
  ·exact W.io i j (by lia) (by lia) e
theorem Wf.injo (W:Wf m q V S) {j k:Nat} (hj:j<q+1) (hk:k<q+1) (e:S.outs j=S.outs k):j=k:=by
 by_cases c1:j=q
 ·by_cases c2:k=q
  ·lia
  ·have:=W.ob k (by lia)
   rw [c1,W.oq] at e;lia
 ·by_cases c2:k=q
  ·have:=W.ob j (by lia)
   rw [c2,W.oq] at e;lia
  ·exact W.oo j k (by lia) (by lia) e
def ray (m:Nat) (S:Bo) (c:Nat) (v:Nat):Int:=if v=S.outs c then S.d else sumTo (λ i=>if S.ins i=v then - S.T i c else 0) (m+1)
theorem Wf.ray_in (W:Wf m q V S) {c k:Nat} (hc:c<q+1) (hk:k<m+1):ray m S c (S.ins k) = - S.T k c:=by
 unfold ray;rw [if_neg (W.apart hk hc),sum_one hk λ i hi hn=>if_neg λ e=>hn (W.inj hi hk e),if_pos rfl]
theorem Wf.ray_out (W:Wf m q V S) {c j:Nat} (hc:c<q+1) (hj:j<q+1) (hn:j≠c):ray m S c (S.outs j)=0:=by
 unfold ray;rw [if_neg λ e=>hn (W.injo hj hc e)];exact sum_zero λ i hi=>if_neg (W.apart hi hj)
theorem Wf.ray_c {c:Nat}:ray m S c (S.outs c)=S.d:=if_pos rfl
theorem Wf.ray_ker (W:Wf m q V S) {c:Nat} (hc:c<q+1):Ker m q V S (ray m S c):=W.ker_of λ i hi=>by
 unfold a1V;rw [W.ray_in hc hi,sum_one hc λ j hj hn=>by rw [W.ray_out hc hj hn,bB],Wf.ray_c,dB,aR];lia
theorem b1M (W:Wf m q V S) (W':Wf m q V S') (hk:∀ z,Ker m q V S z->Ker m q V S' z) {r c r' c':Nat} (C:Choice m q S r c) (C':Choice m q S' r' c') (ht:S.ins r=S'.outs c') (hst:S.outs c<S.ins r)
  (stat:∀ v,S.ins r<v->(∃ i,i<m/\S.ins i=v)->∃ i,i<m/\S'.ins i=v) (zero:∀ k j,k<m->j<q->S.ins k=S'.outs j->S.T k q=0):False:=by
 have hc1:c<q+1:=by have:=C.hc; lia
 have R:=W'.row_of (hk _ (W.ray_ker hc1)) (show m<m+1 by lia);have zobj:ray m S c (S'.ins m) = - S.T m c:=by rw [W'.im,<- W.im]; exact W.ray_in hc1 (by lia)
 have zcon:ray m S c (S'.outs q)=0:=by rw [W'.oq,<- W.oq]; exact W.ray_out hc1 (by lia) (by have:=C.hc; lia)
 unfold a1V at R
 replace R:S'.d*ray m S c (S'.ins m)+(sumTo (λ j=>S'.T m j*ray m S c (S'.outs j)) q+S'.T m q*ray m S c (S'.outs q))=0:=R
 rw [zobj,zcon,bB,dB] at R;have hneg:0<S'.d*(- S.T m c):=eI W'.pos (by have:=C.neg; lia);rw [dB] at hneg;obtain ⟨j,hj,hg⟩:=a6O (g:=λ j=>S'.T m j*ray m S c (S'.outs j)) (n:=q) (by lia)
 replace hg:S'.T m j*ray m S c (S'.outs j)<0:=hg
 rcases W.all (S'.outs j) (W'.ob j hj) with ⟨k,hk1,e⟩ | ⟨j2,hj2,e⟩
 ·rw [<- e,W.ray_in hc1 (by lia)] at hg
  rcases Nat.lt_trichotomy (S'.outs j) (S.ins r) with h | h | h
  ·have h1:0<=S'.T m j:=by
    by_cases z:S'.T m j<0
    ·have:=C'.minc j hj z
     lia
    ·lia
   have h2:0<S.T k c:=by
    by_cases z:0<S.T k c
    ·exact z
    ·have:=cK h1 (show 0 <= - S.T k c by lia)
     lia
   have h3:=zero k j hk1 hj e;have h4:=C.ratio k hk1 h2;rw [h3,dP] at h4;have h5:0<=S.T r q*S.T k c:=cK (W.feas r C.hr) (bG h2);have h6:=C.tie k hk1 h2 (by rw [h3,dP]; omega);lia
  ·have e1:j=c':=W'.oo j c' hj C'.hc (by rw [h,ht])
   have e2:k=r:=W.ii k r hk1 C.hr (by rw [e,h]);rw [e1,e2] at hg;have:=eI (show 0 < - S'.T m c' by have:=C'.neg; lia) C.pos;rw [eJ] at this;rw [dB] at hg;lia
  ·obtain ⟨i,hi,e3⟩:=stat _ h ⟨k,hk1,e⟩
   exact W'.io i j hi hj e3
 ·by_cases c2:j2=c
  ·rw [<- e,c2,Wf.ray_c] at hg
   have h1:S'.T m j<0:=by
    by_cases z:S'.T m j<0
    ·exact z
    ·have:=cK (show 0<=S'.T m j by lia) (bG W.pos)
     lia
   have:=C'.minc j hj h1;rw [c2] at e;lia
  ·rw [<- e,W.ray_out hc1 (by lia) c2,bB] at hg
   lia
def Zr (m q:Nat) (S:Bo) (v:Nat):Prop:=∀ i,i<m->S.ins i=v->S.T i q=0
def Bas (m:Nat) (S:Bo) (v:Nat):Prop:=∃ i,i<m/\S.ins i=v
theorem Bas.piv (W:Wf m q V S) {r c v:Nat} (hr:r<m) (hc:c<q) (h1:v≠S.ins r) (h2:v≠S.outs c):Bas m (Lp.piv S r c) v ↔ Bas m S v:=by
 constructor
 ·rintro ⟨i,hi,e⟩
  replace e:Y6 S.ins r (S.outs c) i=v:=e
  by_cases z:i=r
  ·rw [z,v6] at e; exact absurd e.symm h2
  ·rw [w4 z] at e; exact ⟨i,hi,e⟩
 ·rintro ⟨i,hi,e⟩
  have z:i≠r:=λ z=>h1 (by rw [<- e,z]);exact ⟨i,hi,(w4 z).trans e⟩
theorem Zr.piv (W:Wf m q V S) {r c:Nat} (C:Choice m q S r c) (h0:S.T r q=0) (v:Nat):Zr m q (Lp.piv S r c) v ↔ Zr m q S v:=by
 have key:∀ i,i<m->i≠r->((Lp.piv S r c).T i q=0 ↔ S.T i q=0):=λ i hi hn=>by
  have e:=W.mulT C.hr C.hc (show i<m+1 by lia) (show q<q+1 by lia) hn (show q≠c by have:=C.hc; lia);rw [h0,bB,Int.sub_zero] at e;constructor
  ·intro z
   rw [z,bB] at e;exact (gM.mp e.symm).resolve_right (by have:=C.pos; lia)
  ·intro z
   rw [z,dP] at e;exact (gM.mp e).resolve_left (by have:=W.pos; lia)
 have kr:(Lp.piv S r c).T r q=0:=by
  show (if r=r then (if q=c then S.d else S.T r q) else _)=0
  rw [if_pos rfl,if_neg (by have:=C.hc; lia)]; exact h0
 constructor
 ·intro h i hi e
  by_cases z:i=r
  ·rw [z]; exact h0
  ·exact (key i hi z).mp (h i hi ((w4 z).trans e))
 ·intro h i hi e
  by_cases z:i=r
  ·rw [z]; exact kr
  ·exact (key i hi z).mpr (h i hi ((w4 z).symm.trans e))
end
structure Seq (m q:Nat) (V:Nat->B1) (S:Nat->Bo) (R C:Nat->Nat):Prop where
 w:Wf m q V (S 0)
 ch:∀ k,Choice m q (S k) (R k) (C k)
 st:∀ k,S (k+1)=piv (S k) (R k) (C k)
section
variable {m q:Nat} {V:Nat->B1} {S:Nat->Bo} {R C:Nat->Nat}
theorem Seq.wf (Q:Seq m q V S R C):∀ k,Wf m q V (S k)
 | 0=>Q.w
 | k+1=>by rw [Q.st k]; exact (Q.wf k).pivot (Q.ch k).hr (Q.ch k).hc (Q.ch k).pos (Q.ch k).ratio
theorem Seq.ker (Q:Seq m q V S R C) (z:Nat->Int) (a:Nat):∀ n,Ker m q V (S (a+n)) z ↔ Ker m q V (S a) z
 | 0=>gN
 | n+1=>by
  show Ker m q V (S (a+n+1)) z ↔ _
  rw [Q.st,Ker.piv (Q.ch _).hr (Q.ch _).hc];exact Q.ker z a n
def Dg (q:Nat) (S:Nat->Bo) (R:Nat->Nat) (k:Nat):Prop:=(S k).T (R k) q=0
theorem Seq.zr (Q:Seq m q V S R C) (v a:Nat):∀ n,(∀ k,a<=k->k<a+n->Dg q S R k)->(Zr m q (S (a+n)) v ↔ Zr m q (S a) v)
 | 0,_=>gN
 | n+1,h=>by
  show Zr m q (S (a+n+1)) v ↔ _
  rw [Q.st,Zr.piv (Q.wf _) (Q.ch _) (h (a+n) (by lia) (by lia))];exact Q.zr v a n λ k h1 h2=>h k h1 (by lia)
def a4Z (S:Nat->Bo) (R C:Nat->Nat) (k v:Nat):Prop:=v=(S k).ins (R k)\/v=(S k).outs (C k)
theorem Seq.bas (Q:Seq m q V S R C) (v a:Nat):∀ n,(∀ k,a<=k->k<a+n->¬ a4Z S R C k v)->(Bas m (S (a+n)) v ↔ Bas m (S a) v)
 | 0,_=>gN
 | n+1,h=>by
  have hp:=h (a+n) (by lia) (by lia)
  show Bas m (S (a+n+1)) v ↔ _
  rw [Q.st,Bas.piv (Q.wf _) (Q.ch _).hr (Q.ch _).hc (λ z=>hp (.inl z)) λ z=>hp (.inr z)];exact Q.bas v a n λ k h1 h2=>h k h1 (by lia)
theorem Seq.once (Q:Seq m q V S R C) {a b t:Nat} (hd:∀ k,a<=k->k<b->Dg q S R k) (ht:∀ k,a<=k->k<b->∀ v,a4Z S R C k v->v<=t):∀ (g k0 k1:Nat),k1=k0+1+g->a<=k0->k1<b->a4Z S R C k0 t->a4Z S R C k1 t->False:=by
 intro g
 induction g using Nat.strongRecOn with
 | _ g ih =>
  intro k0 k1 hk ha hb p0 p1
  by_cases hm:∃ k,k0<k/\k<k1/\a4Z S R C k t
  ·obtain ⟨k,h1,h2,h3⟩:=hm
   exact ih (k - k0 - 1) (by lia) k0 k (by lia) ha (by lia) p0 h3
  have W0:=Q.wf k0;have W1:=Q.wf k1;have C0:=Q.ch k0;have C1:=Q.ch k1;have bmid:Bas m (S k1) t ↔ Bas m (S (k0+1)) t:=by
   have:=Q.bas t (k0+1) g λ k h1 h2=>λ z=>hm ⟨k,by lia,by lia,z⟩;rw [show k0+1+g=k1 by lia] at this;exact this
  have stat:∀ v,t<v->(Bas m (S k1) v ↔ Bas m (S k0) v):=λ v hv=>by
   have:=Q.bas v k0 (g+1) λ k h1 h2=>λ z=>by have:=ht k (by lia) (by lia) v z; lia
   rw [show k0+(g+1)=k1 by lia] at this;exact this
  have ker:∀ z,Ker m q V (S k1) z ↔ Ker m q V (S k0) z:=λ z=>by
   have:=Q.ker z k0 (g+1);rw [show k0+(g+1)=k1 by lia] at this;exact this
  have zrr:∀ v,Zr m q (S k1) v ↔ Zr m q (S k0) v:=λ v=>by
   have:=Q.zr v k0 (g+1) λ k h1 h2=>hd k (by lia) (by lia);rw [show k0+(g+1)=k1 by lia] at this;exact this
  rcases p0 with e0 | e0
  ·-- it goes out at k0,so it comes in at k1
   have nb:¬ Bas m (S (k0+1)) t:=by
    rintro ⟨i,hi,e⟩;rw [Q.st k0] at e
    replace e:Y6 (S k0).ins (R k0) ((S k0).outs (C k0)) i=t:=e
    by_cases z:i=R k0
    ·rw [z,v6,e0] at e
     exact W0.io _ _ C0.hr C0.hc e.symm
    ·rw [w4 z,e0] at e
     exact z (W0.ii i (R k0) hi C0.hr e)
   rcases p1 with e1 | e1
   ·exact nb (bmid.mp ⟨_,C1.hr,e1.symm⟩)
   ·have hst:(S k0).outs (C k0)<(S k0).ins (R k0):=by
     have h1:=ht k0 ha (by lia) _ (.inr rfl);rw [e0] at h1;have:=W0.io (R k0) (C k0) C0.hr C0.hc;lia
    refine b1M W0 W1 (λ z h=>(ker z).mpr h) C0 C1 (by rw [<- e0,<- e1]) hst (λ v hv hb'=>(stat v (by rw [e0]; exact hv)).mpr hb') λ k j hk1 hj e=>?_;refine ((zrr ((S k0).ins k)).mp λ i hi e2=>?_) k hk1 rfl;rw [e] at e2;exact absurd e2 (W1.io i j hi hj)
  ·-- it comes in at k0,so it goes out at k1
   have ba:Bas m (S (k0+1)) t:=⟨R k0,C0.hr,by rw [Q.st k0]; show Y6 (S k0).ins (R k0) ((S k0).outs (C k0)) (R k0)=t; rw [v6]; exact e0.symm⟩;rcases p1 with e1 | e1
   ·have hst:(S k1).outs (C k1)<(S k1).ins (R k1):=by
     have h1:=ht k1 (by lia) hb _ (.inr rfl);rw [e1] at h1;have:=W1.io (R k1) (C k1) C1.hr C1.hc;lia
    refine b1M W1 W0 (λ z h=>(ker z).mp h) C1 C0 (by rw [<- e0,<- e1]) hst (λ v hv hb'=>(stat v (by rw [e1]; exact hv)).mp hb') λ k j hk1 hj e=>?_;refine ((zrr ((S k1).ins k)).mpr λ i hi e2=>?_) k hk1 rfl;rw [e] at e2;exact absurd e2 (W0.io i j hi hj)
   ·obtain ⟨i,hi,e⟩:=bmid.mpr ba
    rw [e1] at e;exact W1.io i (C k1) hi C1.hc e
theorem Seq.short (Q:Seq m q V S R C):∀ (t a b:Nat),a<=b->(∀ k,a<=k->k<b->Dg q S R k)->(∀ k,a<=k->k<b->∀ v,a4Z S R C k v->v<t)->b+1<=a+2 ^ t
 | 0,a,b,hab,hd,hp=>by
  by_cases c:a<b
  ·have:=hp a (aE _) c _ (.inl rfl)
   lia
  ·rw [Nat.pow_zero]; lia
 | t+1,a,b,hab,hd,hp=>by
  rw [Nat.pow_succ]
  by_cases h:∃ k,a<=k/\k<b/\a4Z S R C k t
  ·obtain ⟨k,h1,h2,h3⟩:=h
   have once:=Q.once hd (t:=t) λ k h1 h2 v hv=>by have:=hp k h1 h2 v hv; lia
   have i1:=Q.short t a k h1 (λ j j1 j2=>hd j j1 (by lia)) λ j j1 j2 v hv=>by
    have:=hp j j1 (by lia) v hv
    by_cases z:v=t
    ·subst z
     exact (once (k - j - 1) j k (by lia) j1 h2 hv h3).elim
    ·lia
   have i2:=Q.short t (k+1) b (by lia) (λ j j1 j2=>hd j (by lia) j2) λ j j1 j2 v hv=>by
    have:=hp j (by lia) j2 v hv
    by_cases z:v=t
    ·subst z
     exact (once (j - k - 1) k j (by lia) h1 j2 h3 hv).elim
    ·lia
   lia
  ·have:=Q.short t a b hab hd λ j j1 j2 v hv=>by
    have h4:=hp j j1 j2 v hv
    by_cases z:v=t
    ·subst z; exact absurd ⟨j,j1,j2,hv⟩ h
    ·lia
   have:0<2 ^ t:=Nat.two_pow_pos t;lia
end
section
variable {m q:Nat} {V:Nat->B1} {S:Bo}
theorem Wf.bndB {M:Nat} (hM:∀ v,Fits M (m+1) (V v)):∀ c∈Bs m V S.ins,Fits M (m+1) c:=λ c hc=>by
 obtain ⟨i,_,rfl⟩:=bH.mp hc;exact hM _
theorem Wf.bndd (W:Wf m q V S) {M:Nat} (hM:∀ v,Fits M (m+1) (V v)):S.d.natAbs<=bnd M (m+1):=by
 rw [W.hd];exact a4a (m+1) _ (a1g m V S.ins) (Wf.bndB hM)
theorem Wf.bndT (W:Wf m q V S) {M:Nat} (hM:∀ v,Fits M (m+1) (V v)) {i j:Nat} (hi:i<m+1) (hj:j<q+1):(S.T i j).natAbs<=bnd M (m+1):=by
 rw [W.hT i j hi hj];refine a4a (m+1) _ (by rw [bW]; exact a1g m V S.ins) λ c hc=>?_;rcases List.mem_or_eq_of_mem_set hc with h | h
 ·exact Wf.bndB hM c h
 ·rw [h]; exact hM _
def phi (m q:Nat) (M:Int) (S:Bo):Int:=M*M*S.T m q / S.d
theorem Wf.gain (W:Wf m q V S) {r c:Nat} (C:Choice m q S r c) {M:Int} (h1:S.d<=M) (h2:S.T r c<=M):phi m q M S+(if S.T r q=0 then 0 else 1)<=phi m q M (piv S r c):=by
 have hcq:c<q:=C.hc;have hrm:r<m:=C.hr;have e:=W.mulT hrm hcq (show m<m+1 by lia) (show q<q+1 by lia) (show m≠r by lia) (show q≠c by lia);have hp:=C.pos;have hd:=W.pos;have hn:=C.neg;have hf:=W.feas r hrm;unfold phi
 show _<=M*M*(piv S r c).T m q / S.T r c
 generalize (piv S r c).T m q=N' at *;generalize S.T m q=N at *;generalize S.T r c=p at *;generalize S.d=d at *;generalize S.T m c=g at *;generalize S.T r q=b at *;rw [Int.le_ediv_iff_mul_le hp];have hfl:M*M*N / d*d<=M*M*N:=Int.ediv_mul_le _ (by lia);generalize M*M*N / d=f at *;have hM:0<M:=by lia
 have hMM:d*p<=M*M:=Int.mul_le_mul h1 h2 (bG hp) (bG hM);have key:(f+(if b=0 then 0 else 1))*p*d<=M*M*N'*d:=by
  have a1:M*M*N'*d=M*M*N*p+M*M*(-(g*b)):=by
   have:N'*d=N*p - g*b:=by rw [aR N' d]; exact e
   rw [aX (M*M),this,fH,aX (M*M),dB];lia
  have a2:f*d*p<=M*M*N*p:=eK hfl (bG hp);have a3:f*p*d=f*d*p:=by rw [aX,aR p d,<- aX]
  by_cases c0:b=0
  ·rw [if_pos c0,dN,a1,a3,c0]
   simp only [bB,Int.neg_zero,dN];exact a2
  ·rw [if_neg c0]
   have a4:1 <= -(g*b):=by
    have:=eI (show 0 < -g by lia) (show 0<b by lia);rw [eJ] at this;lia
   have a5:M*M*1<=M*M*(-(g*b)):=fJ a4 (cK (bG hM) (bG hM));rw [cQ,cQ,fY,a3,a1];rw [aR d p] at hMM;lia
 exact iG key hd
theorem Wf.phi_le (W:Wf m q V S) {M:Int} (h1:S.T m q<=M) (h0:0<M):phi m q M S<=M*M*M:=by
 unfold phi;refine Int.ediv_le_of_le_mul W.pos ?_;have a1:M*M*S.T m q<=M*M*M:=fJ h1 (cK (bG h0) (bG h0));have a2:M*M*M*1<=M*M*M*S.d:=fJ (by have:=W.pos; lia) (cK (cK (bG h0) (bG h0)) (bG h0));lia
end
section
variable {m q:Nat} {V:Nat->B1} {S:Nat->Bo} {R C:Nat->Nat}
theorem Seq.part_lt (Q:Seq m q V S R C) (k v:Nat) (h:a4Z S R C k v):v<q+m:=by
 rcases h with h | h
 ·rw [h]; exact (Q.wf k).ib _ (Q.ch k).hr
 ·rw [h]; exact (Q.wf k).ob _ (Q.ch k).hc
theorem Seq.never (Q:Seq m q V S R C) {M:Nat} (hM:∀ v,Fits M (m+1) (V v)):False:=by
 obtain ⟨B,hB⟩:∃ B:Int,B=(bnd M (m+1):Int):=⟨_,rfl⟩;have bT:∀ k i j,i<m+1->j<q+1->(S k).T i j<=B:=λ k i j hi hj=>by
  have:=(Q.wf k).bndT hM hi hj;lia
 have bd:∀ k,(S k).d<=B:=λ k=>by
  have:=(Q.wf k).bndd hM;lia
 have B0:0<B:=by have:=bd 0; have:=(Q.wf 0).pos; lia
 have up:∀ k,phi m q B (S k)+(if (S k).T (R k) q=0 then 0 else 1)<=phi m q B (S (k+1)):=λ k=>by
  rw [Q.st k];exact (Q.wf k).gain (Q.ch k) (bd k) (bT k _ _ (by have:=(Q.ch k).hr; lia) (by have:=(Q.ch k).hc; lia))
 have mono:∀ n k,phi m q B (S k)<=phi m q B (S (k+n)):=λ n=>by
  induction n with
  | zero=>intro k; exact cC _
  | succ n ih =>
   intro k;have h1:=ih k;have h2:=up (k+n);have h3:phi m q B (S (k+n))<=phi m q B (S (k+n+1)):=by
    split at h2 <;> lia
   exact jS h1 h3
 have W8:∀ k,phi m q B (S k)<=B*B*B:=λ k=>(Q.wf k).phi_le (bT k m q (by lia) (by lia)) B0;have gap:∀ (g:Nat) (k:Nat),B*B*B - phi m q B (S k)<=(g:Int)->False:=by
  intro g
  induction g with
  | zero =>
   intro k hk;have:∃ j,k<=j/\j<k+2 ^ (q+m)/\¬ Dg q S R j:=by
    refine fK λ hn=>?_;have:=Q.short (q+m) k (k+2 ^ (q+m)) (dM _ _) (λ j h1 h2=>fK λ z=>hn ⟨j,h1,h2,z⟩) λ j _ _ v hv=>Q.part_lt j v hv;lia
   obtain ⟨j,h1,h2,h3⟩:=this;have u:=up j;rw [if_neg (show ¬ (S j).T (R j) q=0 from h3)] at u;have m1:=mono (j - k) k;rw [show k+(j - k)=j by lia] at m1;have:=W8 (j+1);lia
  | succ g ih =>
   intro k hk;have:∃ j,k<=j/\j<k+2 ^ (q+m)/\¬ Dg q S R j:=by
    refine fK λ hn=>?_;have:=Q.short (q+m) k (k+2 ^ (q+m)) (dM _ _) (λ j h1 h2=>fK λ z=>hn ⟨j,h1,h2,z⟩) λ j _ _ v hv=>Q.part_lt j v hv;lia
   obtain ⟨j,h1,h2,h3⟩:=this;have u:=up j;rw [if_neg (show ¬ (S j).T (R j) q=0 from h3)] at u;have m1:=mono (j - k) k;rw [show k+(j - k)=j by lia] at m1;exact ih (j+1) (by lia)
 exact gap (B*B*B - phi m q B (S 0)).toNat 0 (by lia)
end
inductive Ends (m q:Nat):Bo->Nat->Prop
 | stop {S:Bo}:(¬ ∃ r c,Choice m q S r c)->Ends m q S 0
 | go {S:Bo} {r c k:Nat}:Choice m q S r c->Ends m q (piv S r c) k->Ends m q S (k+1)
theorem Choice.uniq {m q:Nat} {V:Nat->B1} {S:Bo} (W:Wf m q V S) {r c r' c':Nat} (h:Choice m q S r c) (h':Choice m q S r' c'):r=r'/\c=c':=by
 have ec:c=c':=W.oo c c' h.hc h'.hc (jT (h.minc c' h'.hc h'.neg) (h'.minc c h.hc h.neg));subst ec;have e1:=h.ratio r' h'.hr h'.pos;have e2:=h'.ratio r h.hr h.pos;have e:S.T r q*S.T r' c=S.T r' q*S.T r c:=by lia
 exact ⟨W.ii r r' h.hr h'.hr (jT (h.tie r' h'.hr h'.pos e) (h'.tie r h.hr h.pos e.symm)),rfl⟩
theorem Ends.next {m q:Nat} {V:Nat->B1} {S:Bo} (W:Wf m q V S) {k r c:Nat} (h:Ends m q S k) (C:Choice m q S r c):∃ j,j<k/\Ends m q (piv S r c) j:=by
 cases h with
 | stop hn=>exact absurd ⟨r,c,C⟩ hn
 | go C' h' =>
  obtain ⟨rfl,rfl⟩:=C.uniq W C';exact ⟨_,eR _,h'⟩
theorem Wf.ends {m q:Nat} {V:Nat->B1} {M:Nat} (hM:∀ v,Fits M (m+1) (V v)) {S:Bo} (W:Wf m q V S):∃ k,Ends m q S k:=by
 refine fK λ hn=>?_;have ch:∀ S',Wf m q V S'->(¬ ∃ k,Ends m q S' k)->∃ p:Nat×Nat,Choice m q S' p.1 p.2:=λ S' _ h'=>by
  refine fK λ z=>h' ⟨0,.stop λ ⟨r,c,C⟩=>z ⟨(r,c),C⟩⟩
 let St:={ S':Bo // Wf m q V S'/\¬ ∃ k,Ends m q S' k }
 let pk:(X:St)->Nat×Nat:=λ X=>(ch X.1 X.2.1 X.2.2).choose
 have pc:∀ X:St,Choice m q X.1 (pk X).1 (pk X).2:=λ X=>(ch X.1 X.2.1 X.2.2).choose_spec
 let nx:St->St:=λ X=>⟨piv X.1 (pk X).1 (pk X).2,X.2.1.pivot (pc X).hr (pc X).hc (pc X).pos (pc X).ratio,λ ⟨k,e⟩=>X.2.2 ⟨k+1,.go (pc X) e⟩⟩
 let sq:Nat->St:=λ k=>Nat.rec ⟨S,W,hn⟩ (λ _ X=>nx X) k
 exact Seq.never (S:=λ k=>(sq k).1) (R:=λ k=>(pk (sq k)).1) (C:=λ k=>(pk (sq k)).2) ⟨W,λ k=>pc (sq k),λ k=>rfl⟩ hM
def Vv (m q:Nat) (A:Nat->Nat->Int) (b c:Nat->Int):Nat->B1:=λ v x =>
 if v<q then (if x<m then A x v else if x=m then - c v else 0) else if v<q+m+1 then (if x=v - q then 1 else 0) else (if x<m then b x else 0)
def S0 (m q:Nat) (A:Nat->Nat->Int) (b c:Nat->Int):Bo where
 d:=1
 T:=λ i j=>if j<q then (if i<m then A i j else - c j) else (if i<m then b i else 0)
 ins:=λ i=>q+i
 outs:=λ j=>if j<q then j else q+m+1
section
variable {m q:Nat} {A:Nat->Nat->Int} {b c:Nat->Int}
theorem b2N {v x:Nat} (h:v<q):Vv m q A b c v x=if x<m then A x v else if x=m then - c v else 0:=by unfold Vv; rw [if_pos h]
theorem b4w {i:Nat} (h:i<m+1):Vv m q A b c (q+i)=R6 i:=by
 funext x
 unfold Vv R6;rw [if_neg (by lia),if_pos (by lia),show q+i - q=i by lia]
theorem b3O {x:Nat}:Vv m q A b c (q+m+1) x=if x<m then b x else 0:=by unfold Vv; rw [if_neg (by lia),if_neg (by lia)]
theorem b1W {v x:Nat} (h:m<x):Vv m q A b c v x=0:=by
 unfold Vv
 by_cases h1:v<q
 ·rw [if_pos h1,if_neg (by lia),if_neg (by lia)]
 ·rw [if_neg h1]
  by_cases h2:v<q+m+1
  ·rw [if_pos h2,if_neg (by lia)]
  ·rw [if_neg h2,if_neg (by lia)]
theorem Bs0:Bs m (Vv m q A b c) (S0 m q A b c).ins=(aF (m+1)).map R6:=by
 unfold Bs;exact cS λ i hi=>b4w (cO.mp hi)
theorem a4k {n k:Nat} (h:k<n):((aF n).map R6).getD k zv=R6 k:=by rw [aI,aD,bF h]; rfl
theorem a2T {n:Nat} {u:B1} (hu:∀ x,n<=x->u x=0) (x:Nat):sumTo (λ k=>u k*R6 k x) n=u x:=by
 by_cases h:x<n
 ·rw [sum_one h λ k _ hn=>by show u k*(if x=k then 1 else 0)=0; rw [if_neg (aQ hn),bB]]
  show u x*(if x=x then 1 else 0)=u x
  rw [if_pos rfl,eP]
 ·rw [hu x (by lia)]
  refine sum_zero λ k hk=>?_
  show u k*(if x=k then 1 else 0)=0
  rw [if_neg (by lia),bB]
theorem a0L {n i:Nat} (hi:i<n) {u:B1} (hu:∀ x,n<=x->u x=0):A5 n (((aF n).map R6).set i u)=u i:=by
 have hl:((aF n).map R6).length=n:=by rw [aA,dQ]
 have h:=a1D hl hi u R6 n;have e:(λ x:Nat=>sumTo (λ k=>u k*R6 k x) n)=u:=by funext x; exact a2T hu x
 rw [e,sum_one hi λ k hk hn=>?_] at h
 ·rw [h,<- a4k hi,Q7 (by lia),a0P,eP]
 ·have:A5 n (((aF n).map R6).set i (R6 k))=0:=by
   refine X3 (i:=k) (k:=i) (u:=R6 k) (by rw [bW]; exact hl) hn ?_ ?_
   ·rw [bC (aQ hn),aD,bF hk]; rfl
   ·rw [bR (by lia)]
  rw [this,bB]
theorem wf0 (hb:∀ i,i<m->0<=b i):Wf m q (Vv m q A b c) (S0 m q A b c):=by
 have far:∀ v x,m+1<=x->Vv m q A b c v x=0:=λ v x h=>b1W (by lia);refine ⟨?_,λ i j hi hj=>?_,λ j hj x=>?_,Int.one_pos,λ i hi=>?_,rfl,?_,λ i hi=>?_,λ j hj=>?_,λ i k hi hk e=>?_,λ j k hj hk e=>?_,λ i j hi hj e=>?_,λ v hv=>?_⟩
 ·rw [Bs0,a0P]; rfl
 ·rw [Bs0,a0L hi (far _)]
  show (if j<q then (if i<m then A i j else - c j) else (if i<m then b i else 0))=Vv m q A b c (if j<q then j else q+m+1) i
  by_cases h:j<q
  ·rw [if_pos h,if_pos h,b2N h]
   by_cases h2:i<m
   ·rw [if_pos h2,if_pos h2]
   ·rw [if_neg h2,if_neg h2,if_pos (by lia)]
  ·rw [if_neg h,if_neg h,b3O]
 ·rw [Bs0,a0P,fY]
  have e:sumTo (λ k=>A5 (m+1) (((aF (m+1)).map R6).set k (Vv m q A b c ((S0 m q A b c).outs j)))*(((aF (m+1)).map R6).getD k zv) x) (m+1)=sumTo (λ k=>Vv m q A b c ((S0 m q A b c).outs j) k*R6 k x) (m+1) :=
   sum_congr λ k hk=>by rw [a0L hk (far _),a4k hk]
  rw [e,a2T (far _)]
 ·show 0<=(if q<q then _ else (if i<m then b i else 0))
  rw [if_neg (bJ _),if_pos hi]; exact hb i hi
 ·show (if q<q then q else q+m+1)=q+m+1
  rw [if_neg (bJ _)]
 ·show q+i<q+m; lia
 ·show (if j<q then j else q+m+1)<q+m
  rw [if_pos hj]; lia
 ·replace e:q+i=q+k:=e
  lia
 ·replace e:(if j<q then j else q+m+1)=(if k<q then k else q+m+1):=e
  rw [if_pos hj,if_pos hk] at e;exact e
 ·replace e:q+i=(if j<q then j else q+m+1):=e
  rw [if_pos hj] at e;lia
 ·by_cases h:v<q
  ·exact .inr ⟨v,h,if_pos h⟩
  ·exact .inl ⟨v - q,by lia,by show q+(v - q)=v; lia⟩
theorem ker0 {z:Nat->Int}:Ker m q (Vv m q A b c) (S0 m q A b c) z ↔ (∀ i,i<m->z (q+i)+sumTo (λ j=>A i j*z j) q+b i*z (q+m+1)=0)/\z (q+m)=sumTo (λ j=>c j*z j) q:=by
  have e:∀ x,sumTo (λ k=>z ((S0 m q A b c).ins k)*Vv m q A b c ((S0 m q A b c).ins k) x) (m+1)+sumTo (λ j=>z ((S0 m q A b c).outs j)*Vv m q A b c ((S0 m q A b c).outs j) x) (q+1)
     =(if x<m+1 then z (q+x) else 0)+(sumTo (λ j=>z j*Vv m q A b c j x) q+z (q+m+1)*(if x<m then b x else 0)):=λ x=>by
    have e1:sumTo (λ k=>z ((S0 m q A b c).ins k)*Vv m q A b c ((S0 m q A b c).ins k) x) (m+1)=if x<m+1 then z (q+x) else 0:=by
      have:sumTo (λ k=>z ((S0 m q A b c).ins k)*Vv m q A b c ((S0 m q A b c).ins k) x) (m+1)=sumTo (λ k=>z (q+k)*R6 k x) (m+1):=sum_congr λ k hk=>by
        show z (q+k)*Vv m q A b c (q+k) x=_
        rw [b4w hk]
      rw [this]
      by_cases h:x<m+1
      . rw [if_pos h,sum_one h λ k _ hn=>by show z (q+k)*(if x=k then 1 else 0)=0; rw [if_neg (aQ hn),bB]]
        show z (q+x)*(if x=x then 1 else 0)=_
        rw [if_pos rfl,eP]
      . rw [if_neg h]
        refine sum_zero λ k hk=>?_
        show z (q+k)*(if x=k then 1 else 0)=0
        rw [if_neg (by lia),bB]
    have e2:sumTo (λ j=>z ((S0 m q A b c).outs j)*Vv m q A b c ((S0 m q A b c).outs j) x) (q+1)=sumTo (λ j=>z j*Vv m q A b c j x) q+z (q+m+1)*(if x<m then b x else 0):=by
      show sumTo (λ j=>z (if j<q then j else q+m+1)*Vv m q A b c (if j<q then j else q+m+1) x) q+z (if q<q then q else q+m+1)*Vv m q A b c (if q<q then q else q+m+1) x=_
      rw [if_neg (bJ _),b3O];have:sumTo (λ j=>z (if j<q then j else q+m+1)*Vv m q A b c (if j<q then j else q+m+1) x) q=sumTo (λ j=>z j*Vv m q A b c j x) q:=sum_congr λ j hj=>by rw [if_pos hj]
      rw [this]
    rw [e1,e2]
  have am:∀ i,i<m->sumTo (λ j=>z j*Vv m q A b c j i) q=sumTo (λ j=>A i j*z j) q:=λ i hi=>sum_congr λ j hj=>by rw [b2N hj,if_pos hi,aR]
  have ob:sumTo (λ j=>z j*Vv m q A b c j m) q = - sumTo (λ j=>c j*z j) q:=by
    rw [show - sumTo (λ j=>c j*z j) q=(-1)*sumTo (λ j=>c j*z j) q by lia,<- x8];refine sum_congr λ j hj=>?_;rw [b2N hj,if_neg (bJ _),if_pos rfl,dB,aR];lia
  constructor
  . intro h
    refine ⟨λ i hi=>?_,?_⟩
    . have:=h i
      rw [e i,if_pos (by lia),if_pos hi,am i hi,aR (z (q+m+1))] at this;lia
    . have:=h m
      rw [e m,if_pos (by lia),if_neg (bJ _),ob,bB] at this;lia
  . rintro ⟨h1,h2⟩ x
    rw [e x]
    by_cases c1:x<m
    . have:=h1 x c1
      rw [if_pos (by lia),if_pos c1,am x c1,aR (z (q+m+1))];lia
    . by_cases c2:x=m
      . subst c2
        rw [if_pos (by lia),if_neg (bJ _),ob,bB];lia
      . rw [if_neg (by lia),if_neg c1,bB,sum_zero λ j hj=>by rw [b1W (by lia),bB]]
        rfl
end
def valIn (m:Nat) (S:Bo) (q v:Nat):Int:=sumTo (λ i=>if S.ins i=v then S.T i q else 0) m
def valOut (m q:Nat) (S:Bo) (v:Nat):Int:=sumTo (λ j=>if S.outs j=v then S.T m j else 0) q
theorem a5I {g:Nat->Int}:∀ {n:Nat},(∀ k,k<n->0<=g k)->0<=sumTo g n
 | 0,_=>cC 0
 | n+1,h=>by
  have h1:=a5I (g:=g) (n:=n) λ k hk=>h k (by lia);have h2:=h n (by lia)
  show 0<=sumTo g n+g n
  lia
section
variable {m q:Nat} {A:Nat->Nat->Int} {b c:Nat->Int} {S:Bo}
structure Of (m q:Nat) (A:Nat->Nat->Int) (b c:Nat->Int) (S:Bo):Prop where
 w:Wf m q (Vv m q A b c) S
 k:∀ z,Ker m q (Vv m q A b c) S z ↔ Ker m q (Vv m q A b c) (S0 m q A b c) z
theorem of0 (hb:∀ i,i<m->0<=b i):Of m q A b c (S0 m q A b c):=⟨wf0 hb,λ _=>gN⟩
theorem Of.piv (O:Of m q A b c S) {r cc:Nat} (C:Choice m q S r cc):Of m q A b c (Lp.piv S r cc) :=
 ⟨O.w.pivot C.hr C.hc C.pos C.ratio,λ z=>(Ker.piv C.hr C.hc).trans (O.k z)⟩
theorem Of.valIn_nn (O:Of m q A b c S) (v:Nat):0<=valIn m S q v:=a5I λ i hi=>by
 split
 ·exact O.w.feas i hi
 ·exact cC 0
theorem Of.ray_val (O:Of m q A b c S) {v:Nat} (hv:v<q+m):ray m S q v = - valIn m S q v:=by
 unfold ray;rw [if_neg (by rw [O.w.oq]; lia)]
 show sumTo _ m+(if S.ins m=v then - S.T m q else 0)=_
 rw [if_neg (by rw [O.w.im]; lia),dN];unfold valIn;rw [show - sumTo (λ i=>if S.ins i=v then S.T i q else 0) m=(-1)*sumTo (λ i=>if S.ins i=v then S.T i q else 0) m by lia,<- x8];refine sum_congr λ i _=>?_
 split <;> lia
theorem Of.primal (O:Of m q A b c S):(∀ i,i<m->sumTo (λ j=>A i j*valIn m S q j) q+valIn m S q (q+i)=b i*S.d)/\sumTo (λ j=>c j*valIn m S q j) q=S.T m q:=by
 have K:=(ker0.mp ((O.k _).mp (O.w.ray_ker (show q<q+1 by lia))));have co:ray m S q (q+m+1)=S.d:=by rw [<- O.w.oq]; exact Wf.ray_c
 have oo:ray m S q (q+m) = - S.T m q:=by rw [<- O.w.im]; exact O.w.ray_in (by lia) (by lia)
 have am:∀ g:Nat->Int,sumTo (λ j=>g j*ray m S q j) q = - sumTo (λ j=>g j*valIn m S q j) q:=λ g=>by
  rw [show - sumTo (λ j=>g j*valIn m S q j) q=(-1)*sumTo (λ j=>g j*valIn m S q j) q by lia,<- x8];refine sum_congr λ j hj=>?_;rw [O.ray_val (by lia),dB];lia
 refine ⟨λ i hi=>?_,?_⟩
 ·have:=K.1 i hi
  rw [O.ray_val (by lia),am,co] at this;lia
 ·have:=K.2
  rw [oo,am] at this;lia
theorem Of.valOut_nn (h:∀ j,j<q->0<=S.T m j) (v:Nat):0<=valOut m q S v:=a5I λ j hj=>by
 split
 ·exact h j hj
 ·exact cC 0
theorem a9h (O:Of m q A b c S) (z:Nat->Int):sumTo (λ j=>S.T m j*z (S.outs j)) q=sumTo (λ v=>valOut m q S v*z v) (q+m):=by
 have e:∀ v,v<q+m->valOut m q S v*z v=sumTo (λ j=>(if S.outs j=v then S.T m j else 0)*z v) q:=λ v _=>by
  unfold valOut;rw [aR,<- x8];exact sum_congr λ j _=>aR _ _
 rw [sum_congr e,X7];refine sum_congr λ j hj=>?_;rw [sum_one (O.w.ob j hj) λ v _ hn=>by rw [if_neg (aQ hn),dP],if_pos rfl]
theorem Of.row_goal (O:Of m q A b c S) {z:Nat->Int} (h:Ker m q (Vv m q A b c) (S0 m q A b c) z):S.d*z (q+m)+sumTo (λ v=>valOut m q S v*z v) (q+m)+S.T m q*z (q+m+1)=0:=by
 have R:=O.w.row_of ((O.k z).mpr h) (show m<m+1 by lia);unfold a1V at R
 replace R:S.d*z (S.ins m)+(sumTo (λ j=>S.T m j*z (S.outs j)) q+S.T m q*z (S.outs q))=0:=R
 rw [O.w.im,O.w.oq,a9h O] at R;lia
theorem a1i {g:Nat->Int} (n:Nat):∀ k:Nat,sumTo g (n+k)=sumTo g n+sumTo (λ i=>g (n+i)) k
 | 0=>(dN _).symm
 | k+1=>by
  show sumTo g (n+k)+g (n+k)=sumTo g n+(sumTo (λ i=>g (n+i)) k+g (n+k))
  rw [a1i n k];lia
theorem Of.dual (O:Of m q A b c S):(∀ j,j<q->sumTo (λ i=>A i j*valOut m q S (q+i)) m=c j*S.d+valOut m q S j)/\sumTo (λ i=>b i*valOut m q S (q+i)) m=S.T m q:=by
 constructor
 ·intro j hj
  have hk:Ker m q (Vv m q A b c) (S0 m q A b c) (λ v=>if v<q then (if v=j then 1 else 0) else if v<q+m then - A (v - q) j else if v=q+m then c j else 0):=by
   refine ker0.mpr ⟨λ i hi=>?_,?_⟩
   ·rw [if_neg (by lia),if_pos (by lia),show q+i - q=i by lia,if_neg (by lia),if_neg (by lia),if_neg (by lia),bB,sum_one hj λ k hk hn=>by rw [if_pos hk,if_neg hn,bB],if_pos hj,if_pos rfl]
    lia
   ·rw [if_neg (by lia),if_neg (by lia),if_pos rfl,sum_one hj λ k hk hn=>by rw [if_pos hk,if_neg hn,bB],if_pos hj,if_pos rfl]
    lia
  have R:=O.row_goal hk;rw [if_neg (by lia),if_neg (by lia),if_pos rfl,if_neg (by lia),if_neg (by lia),if_neg (by lia),bB,a1i,sum_one hj λ k hk hn=>by rw [if_pos hk,if_neg hn,bB],if_pos hj,if_pos rfl] at R;have e:sumTo (λ i=>valOut m q S (q+i)*(if q+i<q then (if q+i=j then 1 else 0) else if q+i<q+m then - A (q+i - q) j else if q+i=q+m then c j else 0)) m = - sumTo (λ i=>A i j*valOut m q S (q+i)) m:=by
   rw [show - sumTo (λ i=>A i j*valOut m q S (q+i)) m=(-1)*sumTo (λ i=>A i j*valOut m q S (q+i)) m by lia,<- x8];refine sum_congr λ i hi=>?_;rw [if_neg (by lia),if_pos (by lia),show q+i - q=i by lia,dB,aR];lia
  rw [e,aR S.d] at R;lia
 ·have hk:Ker m q (Vv m q A b c) (S0 m q A b c) (λ v=>if v<q then 0 else if v<q+m then b (v - q) else if v=q+m then 0 else -1):=by
   refine ker0.mpr ⟨λ i hi=>?_,?_⟩
   ·rw [if_neg (by lia),if_pos (by lia),show q+i - q=i by lia,if_neg (by lia),if_neg (by lia),if_neg (by lia),sum_zero λ k hk=>by rw [if_pos hk,bB]]
    lia
   ·rw [if_neg (by lia),if_neg (by lia),if_pos rfl,sum_zero λ k hk=>by rw [if_pos hk,bB]]
  have R:=O.row_goal hk;rw [if_neg (by lia),if_neg (by lia),if_pos rfl,if_neg (by lia),if_neg (by lia),if_neg (by lia),bB,a1i,sum_zero λ k hk=>by rw [if_pos hk,bB]] at R;have e:sumTo (λ i=>valOut m q S (q+i)*(if q+i<q then 0 else if q+i<q+m then b (q+i - q) else if q+i=q+m then 0 else -1)) m=sumTo (λ i=>b i*valOut m q S (q+i)) m :=
   sum_congr λ i hi=>by rw [if_neg (by lia),if_pos (by lia),show q+i - q=i by lia,aR]
  rw [e] at R;lia
end
end Lp
namespace Rim
open PySem L2
def W8 (i:Nat):Stmt:=PySem.Challenge.pw_rimhouse_k31_whole_kept_altered_and_back.main.body.getD i (.Pass ⟨0,0,0,0⟩)
abbrev b2k:Stmt:=W8 9
abbrev b2P:Stmt:=W8 10
abbrev b3m:Stmt:=W8 17
abbrev a5H:Stmt:=W8 24
abbrev M5:Stmt:=W8 26
abbrev P7:Stmt:=W8 29
abbrev Y8:Stmt:=W8 30
abbrev b0c:Stmt:=W8 35
abbrev a5J:Stmt:=W8 36
abbrev a2z:Stmt:=W8 21
abbrev a1f:Stmt:=W8 31
abbrev a5D:Stmt:=W8 33
abbrev a8d:Stmt:=W8 41
abbrev a5O:Stmt:=W8 42
abbrev a0x:Stmt:=W8 53
abbrev a0j:Stmt:=W8 14
abbrev R4:Stmt:=W8 15
abbrev a0p:Stmt:=W8 16
abbrev Q6:Stmt:=W8 19
abbrev N9:Stmt:=W8 20
abbrev Q0:Stmt:=W8 22
abbrev a1b:Stmt:=W8 38
abbrev V2:Stmt:=W8 39
abbrev U2:Stmt:=W8 44
abbrev P9:Stmt:=W8 45
abbrev E8:Stmt:=W8 46
abbrev C4:Stmt:=W8 47
abbrev N6:Stmt:=W8 48
abbrev C2:Stmt:=W8 49
abbrev C3:Stmt:=W8 50
abbrev E9:Stmt:=W8 51
abbrev y8:Stmt:=W8 52
abbrev N8:Stmt:=B7 V2 0
abbrev B9:Stmt:=B7 V2 1
abbrev Y1:Stmt:=B7 V2 2
abbrev a1j:Stmt:=B7 V2 3
abbrev T5:Stmt:=B7 V2 4
abbrev W6:Stmt:=B7 V2 5
abbrev R9:Stmt:=B7 V2 6
abbrev R8:Stmt:=B7 V2 7
abbrev a0s:Stmt:=B7 V2 8
abbrev a0t:Stmt:=W8 25
abbrev a4F:Stmt:=B7 a0t 0
abbrev a3G:Stmt:=B7 a0t 1
abbrev a5p:Stmt:=B7 a0t 2
abbrev a5o:Stmt:=B7 a0t 3
abbrev P4:Stmt:=B7 a0t 4
abbrev a9G:Stmt:=B7 a0t 5
abbrev b2w:Stmt:=B7 a0t 6
abbrev a5s:Pos:=⟨83,32,83,64⟩
structure u0 (mg:Str->Option Value):Prop where
 len:mg "len"=none
 all:mg "all"=none
 any:mg "any"=none
 max:mg "max"=none
 min:mg "min"=none
 sum:mg "sum"=none
 tuple:mg "tuple"=none
 list:mg "list"=none
 int:mg "int"=none
 bool:mg "bool"=none
 range:mg "range"=none
 isi:mg "isinstance"=none
 abs:mg "abs"=none
 zip:mg "zip"=none
 enum:mg "enumerate"=none
 ve:mg "ValueError"=none
 so:mg "sorted"=none
theorem a3x (K:W.Frag) {X:Cx} (h:X.K=K):IxR X (b4q K):=by subst h; exact j4
theorem U4 (K:W.Frag) {X:Cx} {es:List Expr} {k:Nat} {t:TGs} {n:Nat} {pos:Pos} (h:X.K=K) (hc:X.calm=true) (hp:PGs X es t) (hn:(assignEach es X.env).length=n:=by rfl) (hst:(assignEach es X.env).findIdx? (·.1)=none:=by rfl):PG X (.Tuple es k pos) (a5k K n t):=by subst h; exact a0r hc hp hn hst
def b3I (K:W.Frag):List V->Hp->VK->Prop:=λ xs H Q=>∃ p ys,xs=[.ref p]/\(SqL K H p ys\/SqT K H p ys)/\∀ l,H l=none->Q (.ref l) (upd H l (.lst ys))
theorem a6d (K:W.Frag) {X:Cx} (h:X.K=K):G4 X (.type "list") (b3I K):=by subst h; exact A2
def vI:V->Int
 | .int i=>i
 | _=>0
theorem V1 {ns:List Int} {i:Nat} {x:V} (h:(ns.map V.int)[i]?=some x):∃ k,x=.int k:=by
 rw [aD] at h
 cases hn:ns[i]? with
 | none=>rw [hn] at h; cases h
 | some k=>rw [hn] at h; cases h; exact ⟨k,rfl⟩
theorem b4p {N:VK} {b b':Bool} {H:Hp} (h:N (.bl b) H) (e:b'=b):N (.bl b') H:=by rw [e]; exact h
abbrev i9:=List Int×List Int
def HS (K:W.Frag) (H:Hp) (v:V) (h:i9):Prop:=∃ a t g,v=.ref a/\SqT K H a [.ref t,.ref g]/\SqT K H t (h.1.map V.int)/\SqT K H g (h.2.map V.int)
abbrev Bk (K:W.Frag) (H:Hp):List V->List i9->Prop:=aL (HS K H)
theorem HS.same {K:W.Frag} {H H':Hp} {v:V} {h:i9} (e:Same H H') (x:HS K H v h):HS K H' v h:=by
 obtain ⟨a,t,g,h0,h1,h2,h3⟩:=x;exact ⟨a,t,g,h0,e.tseq h1,e.tseq h2,e.tseq h3⟩
theorem Bk.same {K:W.Frag} {H H':Hp} {vs:List V} {hs:List i9} (e:Same H H') (x:Bk K H vs hs):Bk K H' vs hs:=Paired.imp' (λ _ _ r=>HS.same e r) x
theorem Paired.at {α β:Type} {F:α->β->Prop}:∀ {l₁:List α} {l₂:List β},aL F l₁ l₂->∀ {i:Nat} {x:α},l₁[i]?=some x->∃ y,l₂[i]?=some y/\F x y
 | _,_,.nil,_,_,e=>by simp at e
 | _,_,.cons r _,0,_,e=>by simp at e; subst e; exact ⟨_,rfl,r⟩
 | _,_,.cons _ t,i+1,x,e=>by
  obtain ⟨y,h1,h2⟩:=Paired.at t (i:=i) (x:=x) (by simpa using e);exact ⟨y,by simpa using h1,h2⟩
def w8 (q:Nat) (S:Lp.Bo) (i:Nat):List Int:=(aF (q+1)).map (S.T i)
def M1 (q:Nat) (S:Lp.Bo):List Int:=(aF q).map λ j=>(S.outs j:Int)
def Q8 (m:Nat) (S:Lp.Bo):List Int:=(aF m).map λ i=>(S.ins i:Int)
abbrev bdF (q:Nat) (d:Int) (ca oa ia:Addr):List (Str×V):=[("many",.int q),("scale",.int d),("cells",.ref ca),("outs",.ref oa),("ins",.ref ia)]
structure Bd (C:Addr) (H:Hp) (p dx ca oa ia:Addr) (rs:List Addr) (m q:Nat) (S:Lp.Bo):Prop where
 obj:H p=some (.ins C dx (bdF q S.d ca oa ia))
 cel:H ca=some (.lst (rs.map V.ref))
 len:rs.length=m+1
 row:∀ i r,rs[i]?=some r->H r=some (.lst ((w8 q S i).map V.int))
 out:H oa=some (.lst ((M1 q S).map V.int))
 inn:H ia=some (.lst ((Q8 m S).map V.int))
 ne:oa≠ia
structure TB (K:W.Frag) (C:Addr):Prop where
 cl:Cls K C
 nM:NoAttr K C "many"
 nS:NoAttr K C "scale"
 nC:NoAttr K C "cells"
 nO:NoAttr K C "outs"
 nI:NoAttr K C "ins"
section
variable {C:Addr} {H H':Hp} {p dx ca oa ia:Addr} {rs:List Addr} {m q:Nat} {S:Lp.Bo}
theorem Bd.rs_at (B:Bd C H p dx ca oa ia rs m q S) {i:Nat} (h:i<m+1):∃ r,rs[i]?=some r/\N5 (rs.map V.ref) (i:Int)=some (.ref r):=by
 have h':i<rs.length:=by rw [B.len]; exact h
 refine ⟨rs[i],aG h',v7 ?_⟩;rw [aD,aG h']; rfl
theorem a0a {i j:Nat} (h:j<q+1):N5 ((w8 q S i).map V.int) (j:Int)=some (.int (S.T i j)):=v7 (by
 unfold w8;rw [aD,aD,bF h]; rfl)
theorem a6H {α:Type} {xs:List α} {n:Nat} {v:α} (hl:xs.length=n+1) (h:xs[n]?=some v):N5 xs (-1)=some v:=by
 have e:ixN xs.length (-1)=some n:=by
  unfold ixN;rw [hl,if_neg (by decide),if_pos (by lia)]
  congr 1
  lia
 unfold N5; rw [e]; exact h
theorem Y7 {i:Nat}:N5 ((w8 q S i).map V.int) (-1)=some (.int (S.T i q)):=a6H (n:=q) (by unfold w8; simp) (by
 unfold w8;rw [aD,aD,bF (eR _)]; rfl)
theorem Bd.rs_last (B:Bd C H p dx ca oa ia rs m q S):∃ r,rs[m]?=some r/\N5 (rs.map V.ref) (-1)=some (.ref r):=by
 have h':m<rs.length:=by rw [B.len]; exact eR _
 refine ⟨rs[m],aG h',a6H (n:=m) (by simpa using B.len) ?_⟩;rw [aD,aG h']; rfl
theorem a1N {i:Nat} (h:i<m):N5 ((Q8 m S).map V.int) (i:Int)=some (.int (S.ins i)):=v7 (by
 unfold Q8;rw [aD,aD,bF h]; rfl)
theorem a2n {j:Nat} (h:j<q):N5 ((M1 q S).map V.int) (j:Int)=some (.int (S.outs j)):=v7 (by
 unfold M1;rw [aD,aD,bF h]; rfl)
theorem Bd.same1 {P:Addr} (B:Bd C H p dx ca oa ia rs m q S) (e:∀ b o,H b=some o->(∀ ps,o≠.tbl ps)->H' b=some o):Bd C H' p dx ca oa ia rs m q S :=
 ⟨e _ _ B.obj λ _=>nofun,e _ _ B.cel λ _=>nofun,B.len,λ i r h=>e _ _ (B.row i r h) λ _=>nofun,e _ _ B.out λ _=>nofun,e _ _ B.inn λ _=>nofun,B.ne⟩
def Sz (n m q:Nat) (S:Lp.Bo):Prop:=(∀ i j,i<m+1->j<q+1->Big n (S.T i j))/\Big n S.d
end
section
variable {P:Program} {w:World} {K:W.Frag} {mg:Str->Option Value} {base:Heap} {f:Addr} {fd:FuncData} {n:Nat} {C:Addr}
theorem a9B {a b:Nat} {x:Int} (h:Big a x) (hab:a<=b):Big b x:=aO h (gO (by decide) hab)
def a1l (q:Nat) (S:Lp.Bo) (i o c:Nat):Bool:=if S.T i q*S.T o c=S.T o q*S.T i c then decide (S.ins i<S.ins o) else decide (S.T i q*S.T o c<S.T o q*S.T i c)
def a6M (C:Addr):Sp:=λ vs H Q _=>∃ (p dx ca oa ia:Addr) (rs:List Addr) (m q:Nat) (S:Lp.Bo) (i o c:Nat),vs=[.ref p,.int i,.int o,.int c]/\Bd C H p dx ca oa ia rs m q S/\Sz 4000 m q S/\i<m/\o<m/\c<q+1/\Q (.bl (a1l q S i o c)) H
theorem scAhead:j8 ["self","row","other","column","left","right"] ["self","row","other","column"] (h8 a5o):=⟨rfl,rfl,rfl,by decide +kernel,rfl,by decide +kernel,by decide +kernel⟩
theorem a9D (F:Fun K "is_ahead" "Board.is_ahead" a5o f fd) (T:TB K C):FnOk P w K mg base D7 (n+1) f fd ["self","row","other","column"] (a6M C):=by
 refine F.ok scAhead (λ vs H Q E h=>?_) (λ cdv A outer s H vs Q E hr h=>?_)
 ·obtain ⟨p,dx,ca,oa,ia,rs,m,q,S,i,o,c,rfl,_⟩:=h
  rfl
 obtain ⟨p,dx,ca,oa,ia,rs,m,q,S,i,o,c,rfl,B,hz,hi,ho,hc,k⟩:=h;refine ⟨_,i7 (m4 (i:=4) scAhead.nd rfl (aC rfl) (j6 a1J (j5 j4 (j5 j4 (m7 (pv 0) rfl) (pv 1) (λ _ _=>rfl)) (C8 x9 g0) (λ _ _=>rfl)) (j5 j4 (j5 j4 (m7 (pv 0) rfl) (pv 2) (λ _ _=>rfl)) (pv 3) (λ _ _=>rfl))))
  (i7 (m4 (i:=5) scAhead.nd rfl (aC rfl) (j6 a1J (j5 j4 (j5 j4 (m7 (pv 0) rfl) (pv 2) (λ _ _=>rfl)) (C8 x9 g0) (λ _ _=>rfl)) (j5 j4 (j5 j4 (m7 (pv 0) rfl) (pv 1) (λ _ _=>rfl)) (pv 3) (λ _ _=>rfl))))
  (i7 (w6 (m6 M4 (pv 4) (pv 5) (p6 _)) (j0 (o4 (O8 a0v (j5 j4 (m7 (pv 0) rfl) (pv 1) (λ _ _=>rfl)) (j5 j4 (m7 (pv 0) rfl) (pv 2) (λ _ _=>rfl)) (p6 _)))) r9)
  (j0 (o4 (O8 a0v (pv 4) (pv 5) (p6 _)))))),?_⟩
 obtain ⟨ri,ei,ai⟩:=B.rs_at (i:=i) (by lia);obtain ⟨ro,eo,ao⟩:=B.rs_at (i:=o) (by lia);have bi:=SqL.of (K:=K) (B.row i ri ei);have bo:=SqL.of (K:=K) (B.row o ro eo);have z:∀ i j,i<m+1->j<q+1->Big 1000000 (S.T i j):=λ i j h1 h2=>a9B (hz.1 i j h1 h2) (by decide);refine ⟨_,rfl,p,C,dx,_,_,rfl,B.obj,T.cl,T.nC,rfl,_,rfl,ca,_,_,_,rfl,rfl,SqL.of B.cel,ai,_,rfl,ri,_,_,_,rfl,rfl,bi,Y7,?_⟩;refine ⟨_,rfl,p,C,dx,_,_,rfl,B.obj,T.cl,T.nC,rfl,_,rfl,ca,_,_,_,rfl,rfl,SqL.of B.cel,ao,_,rfl,ro,_,_,_,rfl,rfl,bo,a0a hc,_,_,rfl,rfl,⟨z _ _ (by lia) (by lia),z _ _ (by lia) (by lia)⟩,?_⟩;refine ⟨_,rfl,p,C,dx,_,_,rfl,B.obj,T.cl,T.nC,rfl,_,rfl,ca,_,_,_,rfl,rfl,SqL.of B.cel,ao,_,rfl,ro,_,_,_,rfl,rfl,bo,Y7,?_⟩;refine ⟨_,rfl,p,C,dx,_,_,rfl,B.obj,T.cl,T.nC,rfl,_,rfl,ca,_,_,_,rfl,rfl,SqL.of B.cel,ai,_,rfl,ri,_,_,_,rfl,rfl,bi,a0a hc,_,_,rfl,rfl,⟨z _ _ (by lia) (by lia),z _ _ (by lia) (by lia)⟩,?_⟩;refine ⟨_,rfl,_,rfl,rfl,_,rfl,?_⟩;unfold a1l at k;refine A6 (λ e=>?_) (λ e=>?_)
 ·have e':S.T i q*S.T o c=S.T o q*S.T i c:=by simpa using e
  rw [if_pos e'] at k;refine ⟨_,rfl,p,C,dx,_,_,rfl,B.obj,T.cl,T.nI,rfl,_,rfl,ia,_,_,_,rfl,rfl,SqL.of B.inn,a1N hi,_,rfl,p,C,dx,_,_,rfl,B.obj,T.cl,T.nI,rfl,_,rfl,ia,_,_,_,rfl,rfl,SqL.of B.inn,a1N ho,_,_,rfl,rfl,?_⟩;refine b4p k ?_;simp
 ·have e':¬ S.T i q*S.T o c=S.T o q*S.T i c:=by simpa using e
  rw [if_neg e'] at k;exact ⟨_,rfl,_,rfl,_,_,rfl,rfl,k⟩
end
structure a7x (P:Program) (w:World) (K:W.Frag) (mg:Str->Option Value) (base:Heap) (n:Nat) (C:Addr) (m:Str) (ps:List Str) (sp:Sp) (f:Addr) (fd:FuncData):Prop where
 ok:FnOk P w K mg base D7 n f fd ps sp
 bd:Binds K fd ps []
 me:a5X K C m f
def Bet (q:Nat) (S:Lp.Bo) (c r i:Nat):Prop:=S.T r q*S.T i c<=S.T i q*S.T r c/\(S.T r q*S.T i c=S.T i q*S.T r c->S.ins r<=S.ins i)
theorem a7y {ar cr ab cb ai ci:Int} (h1:ar*cb<=ab*cr) (h2:ab*ci<=ai*cb) (pr:0<cr) (pb:0<cb) (pi:0<ci):ar*ci<=ai*cr/\(ar*ci=ai*cr->ar*cb=ab*cr/\ab*ci=ai*cb):=by
 have e1:ar*cb*ci<=ab*cr*ci:=eK h1 (bG pi);have e2:ab*ci*cr<=ai*cb*cr:=eK h2 (bG pr);have x1:ar*cb*ci=ar*ci*cb:=by rw [aX,aR cb ci,<- aX]
 have x2:ab*cr*ci=ab*ci*cr:=by rw [aX,aR cr ci,<- aX]
 have x3:ai*cb*cr=ai*cr*cb:=by rw [aX,aR cb cr,<- aX]
 rw [x1] at e1;rw [x3] at e2;refine ⟨Int.le_of_mul_le_mul_right (a:=cb) (by lia) pb,λ e=>?_⟩;rw [e] at e1;refine ⟨Int.eq_of_mul_eq_mul_right (a:=ci) (by omega) (by rw [x1,e]; omega),iF (a:=cr) (by omega) (by rw [x3]; omega)⟩
theorem Bet.trans {q:Nat} {S:Lp.Bo} {c r b i:Nat} (h1:Bet q S c r b) (h2:Bet q S c b i) (pr:0<S.T r c) (pb:0<S.T b c) (pi:0<S.T i c):Bet q S c r i:=by
 obtain ⟨a,t⟩:=a7y h1.1 h2.1 pr pb pi;exact ⟨a,λ e=>aZ (h1.2 (t e).1) (h2.2 (t e).2)⟩
theorem a7A {q:Nat} {S:Lp.Bo} {c r b:Nat} (h:a1l q S r b c=true):Bet q S c r b:=by
 unfold a1l at h
 by_cases e:S.T r q*S.T b c=S.T b q*S.T r c
 ·rw [if_pos e] at h
  exact ⟨Int.le_of_eq e,λ _=>dA (of_decide_eq_true h)⟩
 ·rw [if_neg e] at h
  have:=of_decide_eq_true h;exact ⟨Int.le_of_lt this,λ z=>absurd z e⟩
theorem b1E {q:Nat} {S:Lp.Bo} {c r b:Nat} (h:a1l q S r b c=false):Bet q S c b r:=by
 unfold a1l at h
 by_cases e:S.T r q*S.T b c=S.T b q*S.T r c
 ·rw [if_pos e] at h
  exact ⟨Int.le_of_eq e.symm,λ _=>hV (of_decide_eq_false h)⟩
 ·rw [if_neg e] at h
  have:=of_decide_eq_false h;exact ⟨by lia,λ z=>absurd z.symm e⟩
section
variable {P:Program} {w:World} {K:W.Frag} {mg:Str->Option Value} {base:Heap} {f g:Addr} {fd gd:FuncData} {n:Nat} {C:Addr}
def a6A (C:Addr):Sp:=λ vs H Q _=>∃ (p dx ca oa ia:Addr) (rs:List Addr) (m q:Nat) (S:Lp.Bo) (c:Nat),vs=[.ref p,.int c]/\Bd C H p dx ca oa ia rs m q S/\Sz 4000 m q S/\m<1000/\c<q+1 ∧
 ((∀ i,i<m->¬ 0<S.T i c)->Q .non H)/\∀ r,r<m->0<S.T r c->(∀ i,i<m->0<S.T i c->Bet q S c r i)->Q (.int r) H
theorem scGoing:j8 ["self","column","best","row"] ["self","column"] (h8 a5p):=⟨rfl,rfl,rfl,by decide +kernel,rfl,by decide +kernel,by decide +kernel⟩
theorem a8x (F:Fun K "going" "Board.going" a5p f fd) (N:u0 mg) (T:TB K C) (A1:a7x P w K mg base n C "is_ahead" ["self","row","other","column"] (a6M C) g gd):FnOk P w K mg base D7 (n+1) f fd ["self","column"] (a6A C):=by
 refine F.ok scGoing (λ vs H Q E h=>?_) (λ cdv A outer s H vs Q E hr h=>?_)
 ·obtain ⟨p,dx,ca,oa,ia,rs,m,q,S,c,rfl,_⟩:=h
  rfl
 obtain ⟨p,dx,ca,oa,ia,rs,m,q,S,c,rfl,B,hz,hm,hc,kN,kI⟩:=h;refine ⟨_,i7 (m4 (i:=2) scGoing.nd rfl (aC rfl) T8)
  (i7 (a0l PassesOwn.never rfl (E7 rfl N.range (a0 (j3 j7 rfl N.len bE (a0 (m7 (pv 0) rfl) d0)) d0)) (m5 (i:=3) scGoing.nd rfl (aC rfl))
   (j0 (w6 (PW.pt (a3R (m6 a1S (j5 j4 (j5 j4 (m7 (pv 0) rfl) (pv 3) (λ _ _=>rfl)) (pv 1) (λ _ _=>rfl)) g0 (p6 _))
     (a1K (PW.pt (a4A (m6 a5L (pv 2) T8 (p6 _)) (a1P (T9 (Z2 (pv 0) T.cl A1.me A1.ok hr A1.bd .nil t7 (a0 (pv 3) (a0 (pv 2) (a0 (pv 1) d0)))))))))))
    (j0 (m4 (i:=2) scGoing.nd rfl (aC rfl) (pv 3))) r9)))
  (j0 (o4 (pv 2)))),?_⟩
 have lm:((Q8 m S).map V.int).length=m:=by unfold Q8; simp
 refine ⟨_,rfl,p,C,dx,_,_,rfl,B.obj,T.cl,T.nI,rfl,ia,_,rfl,.inl (SqL.of B.inn),_,rfl,(by rw [lm]; lia),(by rw [lm]; lia),?_⟩;rw [lm,bD];refine a1o (n:=m) (λ k σ H'=>∃ (b o3:Option V),σ=[some (.ref p),some (.int c),b,o3]/\H'=H/\((b=some .non/\∀ i,i<k->¬ 0<S.T i c)\/∃ r:Nat,b=some (.int r)/\r<k/\0<S.T r c/\∀ i,i<k->0<S.T i c->Bet q S c r i))
  ⟨_,_,rfl,rfl,.inl ⟨rfl,λ i hi=>absurd hi (Nat.not_lt_zero _)⟩⟩ (λ k σ H' hk hP=>?_) λ σ H' hP=>?_
 ·obtain ⟨b,o3,rfl,rfl,hb⟩:=hP
  obtain ⟨rk,ek,ak⟩:=B.rs_at (i:=k) (by lia);have zk:(0:Int)+(k:Int)=(k:Int):=fL _;rw [zk];refine ⟨_,rfl,p,C,dx,_,_,rfl,B.obj,T.cl,T.nC,rfl,_,rfl,ca,_,_,_,rfl,rfl,SqL.of B.cel,ak,_,rfl,rk,_,_,_,rfl,rfl,SqL.of (B.row k rk ek),a0a hc,_,_,rfl,rfl,_,rfl,?_⟩;have keep:¬ 0<S.T k c->((b=some .non/\∀ i,i<k+1->¬ 0<S.T i c)\/∃ r:Nat,b=some (.int r)/\r<k+1/\0<S.T r c/\∀ i,i<k+1->0<S.T i c->Bet q S c r i):=λ hn=>by
   rcases hb with ⟨e,hb⟩ | ⟨r,e,h1,h2,h3⟩
   ·refine .inl ⟨e,λ i hi=>?_⟩
    by_cases z:i=k
    ·subst z; exact hn
    ·exact hb i (by lia)
   ·refine .inr ⟨r,e,by lia,h2,λ i hi hp=>?_⟩
    by_cases z:i=k
    ·subst z; exact absurd hp hn
    ·exact h3 i (by lia) hp
  refine A6 (λ d=>?_) (λ d=>?_)
  ·have d':0<S.T k c:=of_decide_eq_true d
   rcases hb with ⟨rfl,hb⟩ | ⟨r,rfl,h1,h2,h3⟩
   ·refine ⟨_,rfl,rfl,_,rfl,?_⟩
    refine A6 (λ _=>?_) (λ z=>absurd (decide_eq_true rfl) z);refine O1 ?_;refine ⟨_,rfl,⟨_,_,rfl,rfl,.inr ⟨k,rfl,by lia,d',λ i hi hp=>?_⟩⟩⟩
    by_cases z:i=k
    ·subst z; exact ⟨Int.le_refl _,λ _=>aE _⟩
    ·exact absurd hp (hb i (by lia))
   ·refine ⟨_,rfl,rfl,_,rfl,?_⟩
    refine A6 (λ z=>absurd (of_decide_eq_true z) (by nofun)) (λ _=>?_);refine ⟨_,rfl,p,dx,_,rfl,B.obj,rfl,_,rfl,_,rfl,_,rfl,?_⟩;refine ⟨p,dx,ca,oa,ia,rs,m,q,S,k,r,c,rfl,B,hz,hk,by lia,hc,_,rfl,?_⟩;refine A6 (λ e=>?_) (λ e=>?_)
    ·have bt:=a7A e
     refine ⟨_,rfl,⟨_,_,rfl,rfl,.inr ⟨k,rfl,by lia,d',λ i hi hp=>?_⟩⟩⟩
     by_cases z:i=k
     ·subst z; exact ⟨Int.le_refl _,λ _=>aE _⟩
     ·exact bt.trans (h3 i (by lia) hp) d' h2 hp
    ·have bt:=b1E (eH.mpr e)
     refine ⟨_,_,rfl,rfl,.inr ⟨r,rfl,by lia,h2,λ i hi hp=>?_⟩⟩
     by_cases z:i=k
     ·subst z; exact bt
     ·exact h3 i (by lia) hp
  ·have d':¬ 0<S.T k c:=λ z=>d (decide_eq_true z)
   exact ⟨_,_,rfl,rfl,keep d'⟩
 ·obtain ⟨b,o3,rfl,rfl,hb⟩:=hP
  rcases hb with ⟨rfl,hb⟩ | ⟨r,rfl,h1,h2,h3⟩
  ·exact ⟨_,rfl,kN hb⟩
  ·exact ⟨_,rfl,kI r h1 h2 h3⟩
end
abbrev b2L:Str:=("Board.coming"++".<locals>.")++"<lambda>"
abbrev LT (Pt:Addr) (H:Hp):Prop:=LamTab Pt a5s b2L H
section
variable {P:Program} {w:World} {K:W.Frag} {mg:Str->Option Value} {base:Heap} {f g c Pt:Addr} {fd gd:FuncData} {n:Nat} {C:Addr}
def a2s (C Pt:Addr):Sp:=λ vs H Q _=>∃ (p dx ca oa ia:Addr) (rs:List Addr) (m q:Nat) (S:Lp.Bo),vs=[.ref p]/\Bd C H p dx ca oa ia rs m q S/\q<1000/\LT Pt H ∧
 ∀ H',Same1 Pt H H'->LT Pt H'->((∀ j,j<q->¬ S.T m j<0)->Q .non H')/\∀ j,j<q->S.T m j<0->(∀ i,i<q->S.T m i<0->S.outs j<=S.outs i)->Q (.int j) H'
theorem scComing:j8 ["self","columns"] ["self"] (h8 a3G):=⟨rfl,rfl,rfl,by decide +kernel,rfl,by decide +kernel,by decide +kernel⟩
theorem b3U:(["column","self"]:List Str).Nodup:=by decide +kernel
theorem LamTab.new {Pt a:Addr} {pos:Pos} {qual:Str} {H:Hp} {o:HO} (T:LamTab Pt pos qual H) (h:H a=none):LamTab Pt pos qual (upd H a o):=T.same λ b u e=>by rw [c9 (d9 e h)]; exact e
def a7H (q:Nat) (S:Lp.Bo) (m:Nat):List Int:=((aF q).filter λ j=>decide (S.T m j<0)).map λ (j:Nat)=>(j:Int)
theorem a9s {q:Nat} {S:Lp.Bo} {m:Nat}:((aF q).map λ (i:Nat)=>V.int (0+(i:Int))).filter (λ v=>decide (S.T m (vI v).toNat<0))=(a7H q S m).map V.int:=by
 unfold a7H;rw [List.filter_map,aT];have e:((λ v=>decide (S.T m (vI v).toNat<0)) ∘ λ (i:Nat)=>V.int (0+(i:Int)))=λ j=>decide (S.T m j<0):=by
  funext j
  show decide (S.T m (vI (V.int (0+(j:Int)))).toNat<0)=_
  rw [show (vI (V.int (0+(j:Int)))).toNat=j from by simp [vI]]
 rw [e];refine cS λ j _=>?_;simp
theorem Bd.lam {H H':Hp} {p dx ca oa ia:Addr} {rs:List Addr} {m q:Nat} {S:Lp.Bo} (B:Bd C H p dx ca oa ia rs m q S) (T:LT Pt H) (e:Same1 Pt H H'):Bd C H' p dx ca oa ia rs m q S:=by
 refine B.same1 (P:=Pt) λ b o q n=>e b o (λ z=>?_) q;subst z;rcases T with t | ⟨c,t,_⟩
 ·rw [q] at t; exact n _ (aN t)
 ·rw [q] at t; exact n _ (aN t)
theorem a7Q (F:Fun K "coming" "Board.coming" a3G f fd) (hcode:fd.code=.ref c) (CH:W.CodeHd base c Pt) (BM:T3 mg base) (N:u0 mg) (T:TB K C):FnOk P w K mg base D7 (n+3) f fd ["self"] (a2s C Pt):=by
 refine F.okC hcode scComing (λ vs H Q E h=>?_) (λ A outer s H vs Q E hr h=>?_)
 ·obtain ⟨p,dx,ca,oa,ia,rs,m,q,S,rfl,_⟩:=h
  rfl
 obtain ⟨p,dx,ca,oa,ia,rs,m,q,S,rfl,B,hq,L,k⟩:=h;refine ⟨_,i7 (b3p (i:=1) ["column"] [0] scComing.nd rfl rfl rfl (E7 rfl N.range (a0 (m7 (pv 0) rfl) d0)) (λ _ _ _ _=>m5 (i:=0) b3U rfl (aC rfl))
   (λ _ _ _ _=>m6 a0v (j5 (a3x K rfl) (j5 (a3x K rfl) (a1F K rfl (pv 1) rfl) (C8 x9 g0) (λ _ _=>rfl)) (pv 0) (λ _ _=>rfl)) g0 (p6 _))
   (λ _ _ _ _=>pv 0))
  (j0 (o4 (a8b (col:="column") (fr:=[0]) (c:=c) (P:=Pt) rfl (hr.mono (by lia)) rfl N.min rfl CH BM rfl rfl (by decide +kernel) rfl rfl rfl (λ _ _ _ _=>rfl) (a0 (pv 1) d0)
   (λ _ _ _ _=>j5 (a3x K rfl) (a1F K rfl (pv 1) rfl) (pv 0) (λ _ _=>rfl))))),?_⟩
 refine ⟨_,rfl,p,C,dx,_,_,rfl,B.obj,T.cl,T.nM,rfl,_,rfl,(by lia),(by lia),?_⟩;rw [bD];intro l hl;obtain ⟨rm,em,am⟩:=B.rs_last;refine b1v a5f hl (by rw [aA,dQ]; exact j9 (by lia)) (λ v=>decide (S.T m (vI v).toNat<0)) (λ i x H' N' hx e hN=>?_) ?_
 ·have hx':x=.int (i:Int)/\i<q:=by
   rw [aD] at hx
   by_cases hi:i<q
   ·rw [bF hi] at hx
    refine ⟨?_,hi⟩;have:=aN hx;rw [<- this]; simp
   ·rw [bL (by simp; lia)] at hx; cases hx
  obtain ⟨rfl,hi⟩:=hx';have e':∀ b o,H b=some o->H' b=some o:=λ b o z=>e b o z;refine ⟨_,rfl,p,C,dx,_,_,rfl,e' _ _ B.obj,T.cl,T.nC,rfl,_,rfl,ca,_,_,_,rfl,rfl,SqL.of (e' _ _ B.cel),am,_,rfl,rm,_,_,_,rfl,rfl,SqL.of (e' _ _ (B.row m rm em)),a0a (by lia),_,_,rfl,rfl,_,rfl,?_⟩;have ev:decide (S.T m (vI (V.int (i:Int))).toNat<0)=decide (S.T m i<0):=by rw [show (vI (V.int (i:Int))).toNat=i from by simp [vI]]
  rw [ev] at hN;exact hN
 rw [a9s];have L2':LT Pt (upd H l (.lst ((a7H q S m).map V.int))):=LamTab.new L hl;have B2:Bd C (upd H l (.lst ((a7H q S m).map V.int))) p dx ca oa ia rs m q S:=B.same1 (P:=Pt) λ b o z _=>by rw [c9 (d9 z hl)]; exact z
 have mem:∀ x:Int,x∈a7H q S m ↔ ∃ j:Nat,x=(j:Int)/\j<q/\S.T m j<0:=λ x=>by
  unfold a7H;rw [bH];constructor
  ·rintro ⟨j,hj,rfl⟩
   rw [fQ,cO] at hj;exact ⟨j,rfl,hj.1,of_decide_eq_true hj.2⟩
  ·rintro ⟨j,rfl,h1,h2⟩
   exact ⟨j,by rw [fQ,cO]; exact ⟨h1,decide_eq_true h2⟩,rfl⟩
 refine ⟨_,rfl,l,_,λ x=>(S.outs x.toNat:Int),rfl,SqL.of upd_same,L2',λ H2 e2 L3=>?_⟩;have B3:=B2.lam L2' e2;have e3:Same1 Pt H H2:=λ b o hb z=>e2 b o hb (by rw [c9 (d9 z hl)]; exact z);obtain ⟨k1,k2⟩:=k H2 e3 L3;refine ⟨λ x hx=>?_,λ en=>k1 λ j hj hn=>?_,λ M hM hmin=>?_⟩
 ·obtain ⟨j,rfl,hj,hn⟩:=(mem x).mp hx
  exact ⟨_,rfl,p,C,dx,_,_,rfl,B3.obj,T.cl,T.nO,rfl,_,rfl,oa,_,_,_,rfl,rfl,SqL.of B3.out,a2n hj,by simp,rfl⟩
 ·have:=(mem (j:Int)).mpr ⟨j,rfl,hj,hn⟩
  rw [en] at this
  cases this
 ·obtain ⟨j,rfl,hj,hn⟩:=(mem M).mp hM
  refine k2 j hj hn λ i hi hni=>?_;have:=hmin (i:Int) ((mem _).mpr ⟨i,rfl,hi,hni⟩)
  simpa using this
end
def a0k (xs ys:List Int) (c:Nat) (d:Int):List Int:=(cD (λ x y=>(x*ys.getD c 0 - xs.getD c 0*y) / d) xs ys).set c (-(xs.getD c 0))
theorem a4m {ns:List Int} {i:Nat} (h:i<ns.length):N5 (ns.map V.int) (i:Int)=some (.int (ns.getD i 0)):=v7 (by
 rw [aD,aG h,aI,aG h]; rfl)
theorem a0B {ns:List Int} {i:Nat} {x:V} (h:(ns.map V.int)[i]?=some x):∃ k,x=.int k/\k∈ns:=by
 rw [aD] at h
 cases hn:ns[i]? with
 | none=>rw [hn] at h; cases h
 | some k=>rw [hn] at h; cases h; exact ⟨k,rfl,bV hn⟩
theorem a6P (F:V->V->V) (G:Int->Int->Int) (h:∀ a b,F (.int a) (.int b)=.int (G a b)):∀ xs ys:List Int,cD F (xs.map V.int) (ys.map V.int)=(cD G xs ys).map V.int
 | [],_=>by simp
 | _::_,[]=>by simp
 | x::xs,y::ys=>by simp [h,a6P F G h xs ys]
theorem a2Y {ns:List Int} {i:Nat} (h:i<ns.length):ns.getD i 0∈ns:=by
 rw [aI,aG h]; exact cP h
section
variable {P:Program} {w:World} {K:W.Frag} {mg:Str->Option Value} {base:Heap} {f g c Pt:Addr} {fd gd:FuncData} {n:Nat} {C:Addr}
def a3K (K:W.Frag):Sp:=λ vs H Q _=>∃ (a b:Addr) (c:Nat) (d:Int) (xs ys:List Int),vs=[.ref a,.ref b,.int c,.int d]/\SqL K H a (xs.map V.int)/\SqL K H b (ys.map V.int)/\xs.length=ys.length/\xs.length<=1000/\c<xs.length ∧
 0<d/\Big 4000 d/\(∀ x∈xs,Big 4000 x)/\(∀ y∈ys,Big 4000 y)/\∀ (r:Addr) (H':Hp),Same H H'->H r=none->H' r=some (.lst ((a0k xs ys c d).map V.int))->Q (.ref r) H'
theorem scSwept:j8 ["cells","lead","column","scale","factor","pivot","fresh"] ["cells","lead","column","scale"] (h8 a5H):=⟨rfl,rfl,rfl,by decide +kernel,rfl,by decide +kernel,by decide +kernel⟩
theorem b4u:(["cell","other","scale","factor","pivot"]:List Str).Nodup:=by decide +kernel
theorem a8K (F:Fun K "swept" "swept" a5H f fd) (N:u0 mg):FnOk P w K mg base D7 (n+1) f fd ["cells","lead","column","scale"] (a3K K):=by
 refine F.ok scSwept (λ vs H Q E h=>?_) (λ cdv A outer s H vs Q E hr h=>?_)
 ·obtain ⟨a,b,c,d,xs,ys,rfl,_⟩:=h
  rfl
 obtain ⟨a,b,c,d,xs,ys,rfl,ha,hb,hl,hz,hc,hd,hD,hx,hy,k⟩:=h;refine ⟨_,i7 (m4 (i:=4) scSwept.nd rfl (eU rfl) (j5 j4 (pv 0) (pv 2) (λ _ _=>rfl)))
  (i7 (m4 (i:=5) scSwept.nd rfl (eU rfl) (j5 j4 (pv 1) (pv 2) (λ _ _=>rfl)))
  (i7 (a0g (i:=6) ["cell","other"] [3,4,5] scSwept.nd rfl rfl rfl (a8t true true K rfl rfl N.zip (a0 (pv 0) (a0 (pv 1) d0)))
   (λ _ _ _ _=>U4 K (n:=2) rfl rfl (p8 (m5 (i:=0) b4u rfl (aC rfl)) (p8 (m5 (i:=1) b4u rfl (aC rfl)) D3)))
   (λ _ _ _ _=>j6 a2A (j6 a2v (j6 a1J (pv 0) (pv 4)) (j6 a1J (pv 3) (pv 1))) (pv 2)))
  (i7 (K7 (C8 x9 (pv 4)) (R7 (pv 6) (pv 2) G6))
  (j0 (o4 (pv 6)))))),?_⟩
 have hc2:c<ys.length:=by lia
 refine ⟨_,rfl,_,rfl,a,_,_,_,rfl,rfl,ha,a4m hc,?_⟩;refine ⟨_,rfl,_,rfl,b,_,_,_,rfl,rfl,hb,a4m hc2,?_⟩;refine ⟨_,rfl,_,rfl,a,b,rfl,⟨_,ha⟩,⟨_,hb⟩,λ l hl'=>?_⟩;have up:∀ {x},Big 4000 x->Big 1000000 x:=λ h=>a9B h (by decide);refine b4D ha hb hl' (by rw [aA]; exact j9 hz) (λ u v=>.int ((vI u*ys.getD c 0 - xs.getD c 0*vI v) / d)) (λ i u v H' N' hu hv e hN=>?_) (λ H' e hH=>?_)
 ·obtain ⟨x,rfl,hxm⟩:=a0B hu
  obtain ⟨y,rfl,hym⟩:=a0B hv;have dl:d<2 ^ 8000:=by
   have h1:d.natAbs<2 ^ 4000:=hD;have h2:(2:Nat) ^ 4000<=2 ^ 8000:=gO (by decide) (by decide);have h3:d=(d.natAbs:Int):=by lia
   rw [h3]
   exact_mod_cast aO h1 h2
  refine ⟨_,rfl,_,rfl,_,_,rfl,rfl,⟨up (hx _ hxm),up (hy _ (a2Y hc2))⟩,_,rfl,_,rfl,_,_,rfl,rfl,⟨up (hx _ (a2Y hc)),up (hy _ hym)⟩,_,_,rfl,rfl,_,rfl,_,_,rfl,rfl,⟨hd,dl⟩,hN⟩
 ·rw [a6P _ (λ x y=>(x*ys.getD c 0 - xs.getD c 0*y) / d) (λ _ _=>rfl)] at hH
  refine ⟨_,rfl,_,rfl,?_⟩;refine ⟨_,rfl,_,rfl,l,_,_,c,rfl,rfl,hH,?_,?_⟩
  ·unfold ixN
   rw [aA,fF,if_pos (by lia),if_pos (by lia),bD]
  ·refine ⟨_,rfl,k l _ ?_ hl' ?_⟩
   ·exact λ b' o q=>by rw [c9 (d9 q hl')]; exact e b' o q
   ·rw [upd_same]
    unfold a0k;rw [<- gP]
end
structure S4 (P:Program) (w:World) (K:W.Frag) (mg:Str->Option Value) (base:Heap) (n:Nat) (x:Str) (ps:List Str) (sp:Sp) (fa:Addr) (d:FuncData):Prop where
 ok:FnOk P w K mg base D7 n fa d ps sp
 b:Binds K d ps []
 k:W.keepIn K (.ref fa)=true
 m:mg x=some (.ref fa)
theorem D5 {q:Nat} {S:Lp.Bo} {i:Nat}:(w8 q S i).length=q+1:=by unfold w8; simp
theorem a3c {q:Nat} {S:Lp.Bo} {i j:Nat} (h:j<q+1):(w8 q S i).getD j 0=S.T i j:=by
 unfold w8;rw [aI,aD,bF h]; rfl
theorem a7M {q:Nat} {S:Lp.Bo} {i r c:Nat} (hi:i≠r) (hc:c<q):a0k (w8 q S i) (w8 q S r) c S.d=w8 q (Lp.piv S r c) i:=by
 refine cJ λ j=>?_;unfold a0k
 by_cases hj:j<q+1
 ·rw [a3c (by lia),a3c (by lia)]
  have e:(w8 q (Lp.piv S r c) i)[j]?=some ((Lp.piv S r c).T i j):=by unfold w8; rw [aD,bF hj]; rfl
  have hT:(Lp.piv S r c).T i j=if j=c then - S.T i c else (S.T i j*S.T r c - S.T i c*S.T r j) / S.d:=by
   show (if i=r then _ else _)=_
   rw [if_neg hi]
  rw [e,hT]
  by_cases hjc:j=c
  ·subst hjc
   rw [bR (by rw [fF,D5,D5]; lia),if_pos rfl]
  ·rw [bC (aQ hjc),iH,if_neg hjc]
   unfold w8;rw [aD,aD,bF hj]; rfl
 ·rw [bL (by rw [bW,fF,D5,D5]; lia),bL (by rw [D5]; lia)]
theorem a9k {q:Nat} {S:Lp.Bo} {r c:Nat} (hc:c<q):(((w8 q S r).map V.int).take c++[V.int S.d])++((w8 q S r).map V.int).drop (c+1)=(w8 q (Lp.piv S r c) r).map V.int:=by
 have hT:∀ j,(Lp.piv S r c).T r j=if j=c then S.d else S.T r j:=λ j=>by
  show (if r=r then _ else _)=_
  rw [if_pos rfl]
 have hl:((w8 q S r).map V.int).length=q+1:=by rw [aA,D5]
 refine cJ λ j=>?_
 by_cases hj:j<q+1
 ·have e:((w8 q (Lp.piv S r c) r).map V.int)[j]?=some (.int (if j=c then S.d else S.T r j)):=by
   rw [aD]; unfold w8; rw [aD,bF hj,<- hT]; rfl
  have e0:((w8 q S r).map V.int)[j]?=some (.int (S.T r j)):=by
   rw [aD]; unfold w8; rw [aD,bF hj]; rfl
  rw [e];have lt:(((w8 q S r).map V.int).take c).length=c:=by rw [bP,hl]; lia
  by_cases h1:j<c
  ·rw [bQ (by rw [aM,lt]; lia),bQ (by lia),iV h1,e0,if_neg (by lia)]
  ·by_cases h2:j=c
   ·subst h2
    rw [bQ (by rw [aM,lt]; simp),cA (by lia),lt,fM,if_pos rfl]; rfl
   ·rw [cA (by rw [aM,lt]; simp; lia),aM,lt,jP,if_neg h2]
    have:c+1+(j - (c+[V.int S.d].length))=j:=by simp; lia
    rw [this,e0]
 ·rw [bL (by rw [aM,aM,bP,cW,hl]; simp; lia),bL (by rw [aA,D5]; lia)]
theorem b0W {m:Nat} {S:Lp.Bo} {r c:Nat} (hr:r<m):((Q8 m S).map V.int).set r (.int (S.outs c))=(Q8 m (Lp.piv S r c)).map V.int:=by
 refine cJ λ j=>?_;have hT:(Lp.piv S r c).ins j=if j=r then S.outs c else S.ins j:=rfl
 by_cases hj:j<m
 ·have e:((Q8 m (Lp.piv S r c)).map V.int)[j]?=some (.int ((if j=r then S.outs c else S.ins j:Nat))):=by
   rw [aD]; unfold Q8; rw [aD,bF hj,<- hT]; rfl
  rw [e]
  by_cases h:j=r
  ·subst h
   rw [bR (by unfold Q8; simp; lia),if_pos rfl]
  ·rw [bC (aQ h),if_neg h,aD]
   unfold Q8; rw [aD,bF hj]; rfl
 ·rw [bL (by unfold Q8; simp; lia),bL (by unfold Q8; simp; lia)]
theorem a8U {q:Nat} {S:Lp.Bo} {r c:Nat} (hc:c<q):((M1 q S).map V.int).set c (.int (S.ins r))=(M1 q (Lp.piv S r c)).map V.int:=by
 refine cJ λ j=>?_;have hT:(Lp.piv S r c).outs j=if j=c then S.ins r else S.outs j:=rfl
 by_cases hj:j<q
 ·have e:((M1 q (Lp.piv S r c)).map V.int)[j]?=some (.int ((if j=c then S.ins r else S.outs j:Nat))):=by
   rw [aD]; unfold M1; rw [aD,bF hj,<- hT]; rfl
  rw [e]
  by_cases h:j=c
  ·subst h
   rw [bR (by unfold M1; simp; lia),if_pos rfl]
  ·rw [bC (aQ h),if_neg h,aD]
   unfold M1; rw [aD,bF hj]; rfl
 ·rw [bL (by unfold M1; simp; lia),bL (by unfold M1; simp; lia)]
theorem a2a {n i:Nat} (h:i<n):ixN n (i:Int)=some i:=by
 unfold ixN;rw [if_pos (by lia),if_pos (by lia),bD]
section
variable {P:Program} {w:World} {K:W.Frag} {mg:Str->Option Value} {base:Heap} {f g c Pt:Addr} {fd gd:FuncData} {n:Nat} {C:Addr}
def a2i (C:Addr):Sp:=λ vs H Q _=>∃ (p dx ca oa ia:Addr) (rs:List Addr) (m q:Nat) (S:Lp.Bo) (r c:Nat),vs=[.ref p,.int r,.int c]/\Bd C H p dx ca oa ia rs m q S/\Sz 4000 m q S/\r<m/\c<q/\m<900/\q<900/\0<S.d ∧
 ∀ (H':Hp) (ca':Addr) (rs':List Addr),Bd C H' p dx ca' oa ia rs' m q (Lp.piv S r c)->(∀ b o,b≠p->b≠oa->b≠ia->H b=some o->H' b=some o)->Q .non H'
theorem scEx:j8 ["self","row","column","lead","pivot"] ["self","row","column"] (h8 P4):=⟨rfl,rfl,rfl,by decide +kernel,rfl,by decide +kernel,by decide +kernel⟩
theorem b4Y:(["cells","self","column","lead"]:List Str).Nodup:=by decide +kernel
noncomputable def exT {cdv:Value} {A:Around} {outer:List Env} {s:Shared} {H:Hp} {E:XK} {fb:Addr} {db:FuncData} (Cs:S4 P w K mg base n "swept" ["cells","lead","column","scale"] (a3K K) fb db)
  (hr:Room n (A.deeper (cU "Board.exchange" (h8 P4) s.heap.objs.size f cdv))) :
  { t:TS // PSs (J1 D7 P w K mg base ["self","row","column","lead","pivot"] "Board.exchange" (h8 P4) f cdv A outer s H E).nox (t0 P4) t } :=
 ⟨_,i7 (m4 (i:=3) scEx.nd rfl (eU rfl) (j5 j4 (m7 (pv 0) rfl) (pv 1) (λ _ _=>rfl)))
  (i7 (m4 (i:=4) scEx.nd rfl (aC rfl) (j5 j4 (pv 3) (pv 2) (λ _ _=>rfl)))
  (p7 (G9 (pv 0) (a1y ["cells"] [0,2,3] rfl (M6 (m7 (pv 0) rfl)) (λ _ _ _ _=>m5 (i:=0) b4Y rfl (aC rfl))
   (λ _ _ _ _=>m9 Cs.ok hr rfl Cs.m Cs.k Cs.b .nil t7 (a0 (pv 0) (a0 (pv 3) (a0 (pv 2) (a0 (a1F K rfl (pv 1) rfl) d0)))))) rfl)
  (i7 (K7 (j6 x4 (j6 x4 (A0 B6 (pv 3) D9 (A4 (pv 2))) (r6 (a0 (m7 (pv 0) rfl) d0))) (A0 B6 (pv 3) (A4 (j6 D0 (pv 2) g0)) D9)) (R7 (m7 (pv 0) rfl) (pv 1) G6))
  (i7 (G9 (pv 0) (pv 4) rfl)
  (j0 (K7 (G5 (a0 (j5 j4 (m7 (pv 0) rfl) (pv 2) (λ _ _=>rfl)) (a0 (j5 j4 (m7 (pv 0) rfl) (pv 1) (λ _ _=>rfl)) d0)))
   (a0r rfl (p8 (R7 (m7 (pv 0) rfl) (pv 1) G6) (p8 (R7 (m7 (pv 0) rfl) (pv 2) G6) D3)))))))))⟩
end
def a4z:V->Addr
 | .ref a=>a
 | _=>0
section
variable {P:Program} {w:World} {K:W.Frag} {mg:Str->Option Value} {base:Heap} {f g c Pt:Addr} {fd gd:FuncData} {n:Nat} {C:Addr}
theorem a4l {m q i:Nat} {S:Lp.Bo} (h:Sz 4000 m q S) (hi:i<m+1):∀ x∈w8 q S i,Big 4000 x:=λ x hx=>by
 unfold w8 at hx;obtain ⟨j,hj,rfl⟩:=bH.mp hx;exact h.1 i j hi (cO.mp hj)
theorem a4J {fb:Addr} {db:FuncData} (F:Fun K "exchange" "Board.exchange" P4 f fd) (T:TB K C) (Cs:S4 P w K mg base n "swept" ["cells","lead","column","scale"] (a3K K) fb db) :
  FnOk P w K mg base D7 (n+1) f fd ["self","row","column"] (a2i C):=by
 refine F.ok scEx (λ vs H Q E h=>?_) (λ cdv A outer s H vs Q E hr h=>?_)
 ·obtain ⟨p,dx,ca,oa,ia,rs,m,q,S,r,c,rfl,_⟩:=h
  rfl
 obtain ⟨p,dx,ca,oa,ia,rs,m,q,S,r,c,rfl,B,hz,hrm,hc,hm,hq,hd,k⟩:=h;refine ⟨_,(exT Cs hr).2,?_⟩;obtain ⟨rl,er,ar⟩:=B.rs_at (i:=r) (by lia);have hrl:=B.row r rl er;have nrl:rl≠p:=x6 hrl B.obj (by intro z; cases z);have noa:oa≠p:=x6 B.out B.obj (by intro z; cases z);have nia:ia≠p:=x6 B.inn B.obj (by intro z; cases z);refine ⟨_,rfl,p,C,dx,_,_,rfl,B.obj,T.cl,T.nC,rfl,_,rfl,ca,_,_,_,rfl,rfl,SqL.of B.cel,ar,?_⟩;refine ⟨_,rfl,_,rfl,rl,_,_,_,rfl,rfl,SqL.of hrl,a0a (by lia),?_⟩;refine ⟨λ σ' H3=>∃ (l:Addr) (rs':List Addr),σ'=[some (.ref p),some (.int r),some (.int c),some (.ref rl),some (.int (S.T r c))]/\H3 p=some (.ins C dx (bdF q S.d l oa ia))/\H3 l=some (.lst (rs'.map V.ref))/\rs'.length=m+1/\H l=none ∧
  (∀ i a,rs'[i]?=some a->H a=none/\a≠l/\H3 a=some (.lst ((a0k (w8 q S i) (w8 q S r) c S.d).map V.int)))/\∀ b o,b≠p->H b=some o->H3 b=some o,?_,?_⟩
 ·refine ⟨_,rfl,p,C,dx,_,_,rfl,B.obj,T.cl,T.nC,rfl,ca,rfl,⟨_,SqL.of B.cel⟩,λ l hl=>?_⟩
  refine a3V (K1 (SqL.of B.cel)) hl (by rw [aA,B.len]; exact j9 (by lia)) (λ i y H2=>∃ a,y=.ref a/\H a=none/\a≠l/\H2 a=some (.lst ((a0k (w8 q S i) (w8 q S r) c S.d).map V.int)))
   (λ i y H2 H3 ⟨a,h1,h2,h3,h4⟩ e=>⟨a,h1,h2,h3,e a _ h3 h4⟩) (λ i x H2 ys N hx e hl2 hN=>?_) (λ ys H2 e hl2 len pr=>?_)
  ·rw [aD] at hx
   cases hri:rs[i]? with
   | none=>rw [hri] at hx; cases hx
   | some a =>
    rw [hri] at hx;have hx':V.ref a=x:=aN hx;subst hx';have hi:i<m+1:=by rw [<- B.len]; exact (bN.mp hri).1
    refine ⟨Wk.set (by decide),?_⟩;refine ⟨_,rfl,_,rfl,_,rfl,_,rfl,p,C,dx,_,_,rfl,e _ _ B.obj,T.cl,T.nS,rfl,?_⟩;refine ⟨a,rl,c,S.d,w8 q S i,w8 q S r,rfl,SqL.of (e _ _ (B.row i a hri)),SqL.of (e _ _ hrl),by rw [D5,D5],by rw [D5]; lia,by rw [D5]; lia,hd,hz.2,a4l hz hi,a4l hz (by lia),λ r' H3 s3 hn hr'=>?_⟩;refine hN _ _ s3 ⟨r',rfl,?_,λ z=>?_,hr'⟩
    ·cases q1:H r' with
     | none=>rfl
     | some o=>rw [e _ _ q1] at hn; cases hn
    ·rw [z,hl2] at hn; cases hn
  ·have hp2:=e _ _ B.obj
   have nlp:p≠l:=d9 B.obj hl;refine ⟨_,rfl,p,C,dx,_,rfl,hp2,T.cl,T.nC,(by show 5<1000; decide),?_⟩;have hys:ys=(ys.map a4z).map V.ref:=by
    rw [aT];refine cJ λ i=>?_;rw [aD]
    cases qi:ys[i]? with
    | none=>rfl
    | some y =>
     obtain ⟨a,rfl,_⟩:=pr i y qi;rfl
   refine ⟨l,ys.map a4z,rfl,upd_same,by rw [c9 nlp.symm,hl2]; rw [<- hys],by rw [aA,len,aA,B.len],hl,λ i a hi=>?_,λ b o hb hbo=>by rw [c9 hb]; exact e _ _ hbo⟩;rw [aD] at hi
   cases qi:ys[i]? with
   | none=>rw [qi] at hi; cases hi
   | some y =>
    obtain ⟨a',rfl,h2,h3,h4⟩:=pr i y qi;rw [qi] at hi;have:a'=a:=aN hi;subst this;refine ⟨h2,h3,?_⟩;rw [c9 (λ z=>by rw [z,hp2] at h4; cases h4)];exact h4
 ·intro σ' H3 hM_; refine C6 λ G_ hG_=>?_; obtain ⟨l,rs',rfl,hp,hl,hlen,hl0,hrs,hk⟩:=hM_; subst hG_
  have hr3:=hk rl _ nrl hrl;have lr:((w8 q S r).map V.int).length=q+1:=by rw [aA,D5]
  refine ⟨_,rfl,_,rfl,_,rfl,rl,_,rfl,SqL.of hr3,λ a1 h1=>?_⟩;have e1:=Same.new h1 (.lst (A7 ((w8 q S r).map V.int) none (some (c:Int))));refine ⟨_,rfl,p,C,dx,_,_,rfl,e1 _ _ hp,T.cl,T.nS,rfl,(by show 1<=sizeLine; decide),λ a2 h2=>?_⟩;have e2:=e1.trans (Same.new h2 (.lst [.int S.d]));have n12:a1≠a2:=d9 upd_same h2;refine ⟨a1,a2,_,_,rfl,rfl,(by rw [c9 n12]; exact upd_same),upd_same,?_,λ a3 h3=>?_⟩
  ·rw [X6 _ _ (by rw [lr]; lia),bP,lr]
   have:=j9 (show c+1<=1000 by lia);simp;lia
  have e3:=e2.trans (Same.new h3 (.lst (A7 ((w8 q S r).map V.int) none (some (c:Int))++[.int S.d])));refine ⟨_,rfl,_,rfl,_,_,rfl,rfl,_,rfl,rl,_,rfl,SqL.of (e3 _ _ hr3),λ a4 h4=>?_⟩;have e4:=e3.trans (Same.new h4 (.lst (A7 ((w8 q S r).map V.int) (some ((c:Int)+1)) none)));have n34:a3≠a4:=d9 upd_same h4;have c1:A7 ((w8 q S r).map V.int) none (some (c:Int))=((w8 q S r).map V.int).take c:=X6 _ _ (by rw [lr]; lia);have c2:A7 ((w8 q S r).map V.int) (some ((c:Int)+1)) none=((w8 q S r).map V.int).drop (c+1):=by
   have:=T0 ((w8 q S r).map V.int) (c+1) (by rw [lr]; lia);rw [<- this]; rfl
  refine ⟨a3,a4,_,_,rfl,rfl,(by rw [c9 n34]; exact upd_same),upd_same,?_,λ a5 h5=>?_⟩
  ·rw [c1,c2,aM,bP,cW,lr]
   have:=j9 (show q+1<=1000 by lia);simp;lia
  have hrow:(A7 ((w8 q S r).map V.int) none (some (c:Int))++[.int S.d])++A7 ((w8 q S r).map V.int) (some ((c:Int)+1)) none=(w8 q (Lp.piv S r c) r).map V.int:=by rw [c1,c2,a9k hc]
  have h5n:H3 a5=none:=by
   cases z:H3 a5 with
   | none=>rfl
   | some o=>rw [e4 _ _ z] at h5; cases h5
  have e5:=e4.trans (Same.new h5 (.lst ((A7 ((w8 q S r).map V.int) none (some (c:Int))++[.int S.d])++A7 ((w8 q S r).map V.int) (some ((c:Int)+1)) none)));have u5:∀ H4:Hp,upd H4 a5 (.lst ((A7 ((w8 q S r).map V.int) none (some (c:Int))++[.int S.d])++A7 ((w8 q S r).map V.int) (some ((c:Int)+1)) none)) a5=some (.lst ((w8 q (Lp.piv S r c) r).map V.int)):=λ H4=>upd_same.trans (congrArg (λ z=>some (HO.lst z)) hrow);have oa3:=hk oa _ noa B.out;have ia3:=hk ia _ nia B.inn;have nlp:l≠p:=(d9 B.obj hl0).symm;have nlo:l≠oa:=(d9 B.out hl0).symm;have nli:l≠ia:=(d9 B.inn hl0).symm;have n5p:a5≠p:=(d9 hp h5n).symm;have n5l:a5≠l:=(d9 hl h5n).symm;have n5o:a5≠oa:=(d9 oa3 h5n).symm;have n5i:a5≠ia:=(d9 ia3 h5n).symm;have lrs:(rs'.map V.ref).length=m+1:=by rw [aA]; exact hlen
  refine ⟨_,rfl,p,C,dx,_,_,rfl,e5 _ _ hp,T.cl,T.nC,rfl,_,rfl,l,_,_,r,rfl,rfl,e5 _ _ hl,a2a (by rw [lrs]; lia),?_⟩;refine ⟨_,rfl,_,rfl,p,C,dx,_,rfl,(by rw [c9 nlp.symm]; exact e5 _ _ hp),T.cl,T.nS,(by show 5<1000; decide),?_⟩;refine ⟨_,rfl,p,C,dx,_,_,rfl,upd_same,T.cl,T.nO,rfl,_,rfl,oa,_,_,_,rfl,rfl,SqL.of (by rw [c9 noa,c9 nlo.symm]; exact e5 _ _ oa3),a2n hc,?_⟩;refine ⟨_,rfl,p,C,dx,_,_,rfl,upd_same,T.cl,T.nI,rfl,_,rfl,ia,_,_,_,rfl,rfl,SqL.of (by rw [c9 nia,c9 nli.symm]; exact e5 _ _ ia3),a1N hrm,(by show 2<=sizeLine; decide),λ t ht=>?_⟩;have ntp:t≠p:=(d9 upd_same ht).symm;have ntl:t≠l:=by
   refine (d9 (H:=_) (o:=.lst ((rs'.map V.ref).set r (.ref a5))) ?_ ht).symm;rw [c9 nlp,upd_same]
  have nto:t≠oa:=by
   refine (d9 (H:=_) (o:=.lst ((M1 q S).map V.int)) ?_ ht).symm;rw [c9 noa,c9 nlo.symm]; exact e5 _ _ oa3
  have nti:t≠ia:=by
   refine (d9 (H:=_) (o:=.lst ((Q8 m S).map V.int)) ?_ ht).symm;rw [c9 nia,c9 nli.symm]; exact e5 _ _ ia3
  refine ⟨t,_,rfl,SqT.of upd_same,rfl,?_⟩;refine ⟨_,_,rfl,_,rfl,p,C,dx,_,_,rfl,(by rw [c9 ntp.symm]; exact upd_same),T.cl,T.nI,rfl,_,rfl,ia,_,_,r,rfl,rfl,(by rw [c9 nti.symm,c9 nia,c9 nli.symm]; exact e5 _ _ ia3),a2a (by unfold Q8; simp; lia),?_⟩;refine ⟨_,_,rfl,_,rfl,p,C,dx,_,_,rfl,(by rw [c9 nia.symm,c9 ntp.symm]; exact upd_same),T.cl,T.nO,rfl,_,rfl,oa,_,_,c,rfl,rfl,(by rw [c9 B.ne,c9 nto.symm,c9 noa,c9 nlo.symm]; exact e5 _ _ oa3),a2a (by unfold M1; simp; lia),rfl,?_⟩;refine k _ l (rs'.set r a5) ⟨?_,?_,by rw [bW]; exact hlen,λ i a hi=>?_,?_,?_,B.ne⟩ λ b o hb hbo hbi hH=>?_
  ·rw [c9 noa.symm,c9 nia.symm,c9 ntp.symm,upd_same]; rfl
  ·rw [c9 nlo,c9 nli,c9 ntl.symm,c9 nlp,upd_same,gP]
  ·by_cases hir:i=r
   ·subst hir
    rw [bR (by rw [hlen]; lia)] at hi;have:a5=a:=aN hi;subst this;have n5t:a5≠t:=by
     refine d9 (H:=_) (o:=.lst ((w8 q (Lp.piv S i c) i).map V.int)) ?_ ht;rw [c9 n5p,c9 n5l]; exact u5 _
    rw [c9 n5o,c9 n5i,c9 n5t,c9 n5p,c9 n5l];exact u5 _
   ·rw [bC (aQ hir)] at hi
    obtain ⟨g1,g2,g3⟩:=hrs i a hi;have nap:a≠p:=(d9 B.obj g1).symm;have nao:a≠oa:=(d9 B.out g1).symm;have nai:a≠ia:=(d9 B.inn g1).symm;have g5:=e5 _ _ g3;have nat:a≠t:=by
     refine d9 (H:=_) (o:=.lst ((a0k (w8 q S i) (w8 q S r) c S.d).map V.int)) ?_ ht;rw [c9 nap,c9 g2]; exact g5
    rw [c9 nao,c9 nai,c9 nat,c9 nap,c9 g2,<- a7M hir hc];exact g5
  ·rw [upd_same,a8U hc]
  ·rw [c9 B.ne.symm,upd_same,b0W hrm]
  ·have h3:=hk b o hb hH
   have nbl:b≠l:=d9 hH hl0;have nbt:b≠t:=by
    refine d9 (H:=_) (o:=o) ?_ ht;rw [c9 hb,c9 nbl]; exact e5 _ _ h3
   rw [c9 hbo,c9 hbi,c9 nbt,c9 hb,c9 nbl];exact e5 _ _ h3
end
theorem a2g {g:Nat->Int}:∀ {n:Nat},(∀ k,k<n->g k=0)->Lp.sumTo g n=0
 | 0,_=>rfl
 | n+1,h=>by
  show Lp.sumTo g n+g n=0
  rw [a2g λ k hk=>h k (by lia),h n (by lia)]; rfl
def b0o (q:Nat) (S:Lp.Bo) (k v:Nat):Int:=Lp.sumTo (λ i=>if S.ins i=v then S.T i q else 0) k
def a6s (m:Nat) (S:Lp.Bo) (k v:Nat):Int:=Lp.sumTo (λ j=>if S.outs j=v then S.T m j else 0) k
def r8 (m q:Nat) (S:Lp.Bo):List Int:=(aF q).map λ v=>Lp.valIn m S q v
def K8 (m q:Nat) (S:Lp.Bo):List Int:=(aF m).map λ i=>Lp.valOut m q S (q+i)
theorem a4D (k:Nat):(aJ k [V.int 0]).flatten=(aF k).map λ _=>V.int 0:=by
 induction k with
 | zero=>rfl
 | succ k ih=>rw [List.replicate_succ',List.flatten_append,ih,fN,aW]; rfl
theorem a9x {n v:Nat} {F G:Nat->Int} {x:Int} (hv:G v=x) (h:∀ u,u<n->u≠v->F u=G u):((aF n).map λ u=>V.int (F u)).set v (.int x)=(aF n).map λ u=>V.int (G u):=by
 refine cJ λ j=>?_
 by_cases hj:j<n
 ·by_cases e:j=v
  ·subst e
   rw [bR (by simp; lia),aD,bF hj,eX,hv]
  ·rw [bC (aQ e),aD,aD,bF hj,eX,eX,h j hj e]
 ·rw [bL (by simp; lia),bL (by simp; lia)]
section
variable {P:Program} {w:World} {K:W.Frag} {mg:Str->Option Value} {base:Heap} {f g c Pt:Addr} {fd gd:FuncData} {n:Nat} {C:Addr}
def a8h (C:Addr):Sp:=λ vs H Q _=>∃ (p dx ca oa ia:Addr) (rs:List Addr) (m q:Nat) (S:Lp.Bo),vs=[.ref p]/\Bd C H p dx ca oa ia rs m q S/\m<900/\q<900/\(∀ i k,i<m->k<m->S.ins i=S.ins k->i=k) ∧
 ∀ (r:Addr) (H':Hp),Same H H'->H r=none->H' r=some (.lst ((r8 m q S).map V.int))->Q (.ref r) H'
theorem scAmts:j8 ["self","told","row","number"] ["self"] (h8 a9G):=⟨rfl,rfl,rfl,by decide +kernel,rfl,by decide +kernel,by decide +kernel⟩
theorem b0n (F:Fun K "amounts" "Board.amounts" a9G f fd) (N:u0 mg) (T:TB K C):FnOk P w K mg base D7 (n+1) f fd ["self"] (a8h C):=by
 refine F.ok scAmts (λ vs H Q E h=>?_) (λ cdv A outer s H vs Q E hr h=>?_)
 ·obtain ⟨p,dx,ca,oa,ia,rs,m,q,S,rfl,_⟩:=h
  rfl
 obtain ⟨p,dx,ca,oa,ia,rs,m,q,S,rfl,B,hm,hq,inj,k⟩:=h;refine ⟨_,i7 (m4 (i:=1) scAmts.nd rfl (aC rfl) (j6 U3 (r6 (a0 g0 d0)) (m7 (pv 0) rfl)))
  (i7 (a0l PassesOwn.never rfl (a6B K rfl rfl N.enum (a0 (m7 (pv 0) rfl) d0)) (U4 K (n:=2) rfl rfl (p8 (m5 (i:=2) scAmts.nd rfl (aC rfl)) (p8 (m5 (i:=3) scAmts.nd rfl (aC rfl)) D3)))
   (j0 (w6 (m6 a0v (pv 3) (m7 (pv 0) rfl) (p6 _)) (j0 (K7 (j5 j4 (j5 j4 (m7 (pv 0) rfl) (pv 2) (λ _ _=>rfl)) (C8 x9 g0) (λ _ _=>rfl)) (R7 (pv 1) (pv 3) G6))) r9)))
  (j0 (o4 (pv 1)))),?_⟩
 have sl:=j9 (show q<=1000 by lia);refine ⟨(by show 1<=sizeLine; decide),λ z hz=>?_⟩;have ez:=Same.new hz (.lst [.int 0]);refine ⟨_,rfl,p,C,dx,_,_,rfl,ez _ _ B.obj,T.cl,T.nM,rfl,z,_,_,rfl,rfl,upd_same,(by lia),(by lia),(by rw [bD]; simp; lia),λ tl htl=>?_⟩;rw [bD,a4D];have htn:H tl=none:=by
  cases q1:H tl with
  | none=>rfl
  | some o=>rw [ez _ _ q1] at htl; cases htl
 have e0:Same H (upd (upd H z (.lst [.int 0])) tl (.lst ((aF q).map λ _=>V.int 0))):=ez.write htn;refine ⟨_,rfl,p,C,dx,_,_,rfl,e0 _ _ B.obj,T.cl,T.nI,rfl,ia,rfl,⟨_,SqL.of (e0 _ _ B.inn)⟩,?_⟩;have li:((Q8 m S).map V.int).length=m:=by unfold Q8; simp
 refine a4O (xs:=(Q8 m S).map V.int) (i1:=2) (i2:=3) (λ j σ H'=>∃ o2 o3:Option V,σ=[some (.ref p),some (.ref tl),o2,o3]/\Same H H'/\H' tl=some (.lst ((aF q).map λ v=>V.int (b0o q S j v))))
  ⟨_,_,rfl,e0,by rw [upd_same]; rfl⟩ (λ j σ H' ⟨_,_,_,e,_⟩=>SqL.of (e _ _ B.inn)) ?_ ?_
 ·rintro j x σ H1 qq hx ⟨o2,o3,rfl,e1,ht⟩ hqq
  have hj:j<m:=by rw [<- li]; exact (bN.mp hx).1
  have hx':x=.int (S.ins j):=by
   have:=(v7 hx).symm.trans (a1N (S:=S) hj);exact aN this
  subst hx';have s1:=Same.new hqq (.tup [V.int (j:Int),.int (S.ins j)]);have e2:=e1.trans s1;have ht2:=s1 _ _ ht;refine ⟨_,rfl,_,rfl,p,C,dx,_,_,rfl,e2 _ _ B.obj,T.cl,T.nM,rfl,_,_,rfl,rfl,_,rfl,?_⟩;have st:∀ v,b0o q S (j+1) v=b0o q S j v+(if S.ins j=v then S.T j q else 0):=λ v=>rfl;refine A6 (λ d=>?_) (λ d=>?_)
  ·have d':S.ins j<q:=by have:=of_decide_eq_true d; lia
   obtain ⟨rj,erj,arj⟩:=B.rs_at (i:=j) (by lia);refine ⟨_,rfl,p,C,dx,_,_,rfl,e2 _ _ B.obj,T.cl,T.nC,rfl,_,rfl,ca,_,_,_,rfl,rfl,SqL.of (e2 _ _ B.cel),arj,_,rfl,rj,_,_,_,rfl,rfl,SqL.of (e2 _ _ (B.row j rj erj)),Y7,?_⟩;refine ⟨_,rfl,_,rfl,tl,_,_,S.ins j,rfl,rfl,ht2,a2a (by simp; lia),?_⟩;refine ⟨_,_,rfl,e2.write htn,?_⟩;rw [upd_same]
   congr 2
   refine a9x ?_ λ u hu hne=>?_
   ·rw [st,if_pos rfl]
    have:b0o q S j (S.ins j)=0:=a2g λ i hi=>if_neg λ z=>absurd (inj i j (by lia) hj z) (by lia);rw [this]; lia
   ·rw [st,if_neg (aQ hne)]; lia
  ·have d':¬ S.ins j<q:=λ z=>d (decide_eq_true (by lia))
   refine ⟨_,_,rfl,e2,?_⟩;rw [ht2]
   congr 2
   refine cS λ v hv=>?_;rw [st,if_neg (λ z=>d' (by rw [z]; exact cO.mp hv)),dN]
 ·intro σ H1 hM_; refine C6 λ G_ hG_=>?_; obtain ⟨o2,o3,rfl,e1,ht⟩:=hM_; subst hG_
  rw [li] at ht;refine ⟨_,rfl,k tl H1 e1 htn ?_⟩;rw [ht];unfold r8;rw [aT]; rfl
def b1T (C:Addr):Sp:=λ vs H Q _=>∃ (p dx ca oa ia:Addr) (rs:List Addr) (m q:Nat) (S:Lp.Bo),vs=[.ref p]/\Bd C H p dx ca oa ia rs m q S/\m<900/\q<900/\(∀ j k,j<q->k<q->S.outs j=S.outs k->j=k)/\(∀ j,j<q->S.outs j<q+m) ∧
 ∀ (r:Addr) (H':Hp),Same H H'->H r=none->H' r=some (.lst ((K8 m q S).map V.int))->Q (.ref r) H'
theorem scWts:j8 ["self","told","column","number"] ["self"] (h8 b2w):=⟨rfl,rfl,rfl,by decide +kernel,rfl,by decide +kernel,by decide +kernel⟩
theorem b2m (F:Fun K "weights" "Board.weights" b2w f fd) (N:u0 mg) (T:TB K C):FnOk P w K mg base D7 (n+1) f fd ["self"] (b1T C):=by
 refine F.ok scWts (λ vs H Q E h=>?_) (λ cdv A outer s H vs Q E hr h=>?_)
 ·obtain ⟨p,dx,ca,oa,ia,rs,m,q,S,rfl,_⟩:=h
  rfl
 obtain ⟨p,dx,ca,oa,ia,rs,m,q,S,rfl,B,hm,hq,inj,ob,k⟩:=h;refine ⟨_,i7 (m4 (i:=1) scWts.nd rfl (aC rfl) (j6 U3 (r6 (a0 g0 d0)) (j3 j7 rfl N.len bE (a0 (m7 (pv 0) rfl) d0))))
  (i7 (a0l PassesOwn.never rfl (a6B K rfl rfl N.enum (a0 (m7 (pv 0) rfl) d0)) (U4 K (n:=2) rfl rfl (p8 (m5 (i:=2) scWts.nd rfl (aC rfl)) (p8 (m5 (i:=3) scWts.nd rfl (aC rfl)) D3)))
   (j0 (w6 (m6 a7b (pv 3) (m7 (pv 0) rfl) (p6 _)) (j0 (K7 (j5 j4 (j5 j4 (m7 (pv 0) rfl) (C8 x9 g0) (λ _ _=>rfl)) (pv 2) (λ _ _=>rfl)) (R7 (pv 1) (j6 a2v (pv 3) (m7 (pv 0) rfl)) G6))) r9)))
  (j0 (o4 (pv 1)))),?_⟩
 have sl:=j9 (show m<=1000 by lia);have li:((Q8 m S).map V.int).length=m:=by unfold Q8; simp
 have lo:((M1 q S).map V.int).length=q:=by unfold M1; simp
 refine ⟨(by show 1<=sizeLine; decide),λ z hz=>?_⟩;have ez:=Same.new hz (.lst [.int 0]);refine ⟨_,rfl,p,C,dx,_,_,rfl,ez _ _ B.obj,T.cl,T.nI,rfl,ia,_,rfl,.inl (SqL.of (ez _ _ B.inn)),z,_,_,rfl,rfl,upd_same,(by lia),(by lia),(by rw [li,bD]; simp; lia),λ tl htl=>?_⟩;rw [li,bD,a4D];have htn:H tl=none:=by
  cases q1:H tl with
  | none=>rfl
  | some o=>rw [ez _ _ q1] at htl; cases htl
 have e0:Same H (upd (upd H z (.lst [.int 0])) tl (.lst ((aF m).map λ _=>V.int 0))):=ez.write htn;refine ⟨_,rfl,p,C,dx,_,_,rfl,e0 _ _ B.obj,T.cl,T.nO,rfl,oa,rfl,⟨_,SqL.of (e0 _ _ B.out)⟩,?_⟩;refine a4O (xs:=(M1 q S).map V.int) (i1:=2) (i2:=3) (λ j σ H'=>∃ o2 o3:Option V,σ=[some (.ref p),some (.ref tl),o2,o3]/\Same H H'/\H' tl=some (.lst ((aF m).map λ v=>V.int (a6s m S j (q+v)))))
  ⟨_,_,rfl,e0,by rw [upd_same]; rfl⟩ (λ j σ H' ⟨_,_,_,e,_⟩=>SqL.of (e _ _ B.out)) ?_ ?_
 ·rintro j x σ H1 qq hx ⟨o2,o3,rfl,e1,ht⟩ hqq
  have hj:j<q:=by rw [<- lo]; exact (bN.mp hx).1
  have hx':x=.int (S.outs j):=by
   have:=(v7 hx).symm.trans (a2n (S:=S) hj);exact aN this
  subst hx';have s1:=Same.new hqq (.tup [V.int (j:Int),.int (S.outs j)]);have e2:=e1.trans s1;have ht2:=s1 _ _ ht;refine ⟨_,rfl,_,rfl,p,C,dx,_,_,rfl,e2 _ _ B.obj,T.cl,T.nM,rfl,_,_,rfl,rfl,_,rfl,?_⟩;have st:∀ v,a6s m S (j+1) v=a6s m S j v+(if S.outs j=v then S.T m j else 0):=λ v=>rfl;have hob:=ob j hj;refine A6 (λ d=>?_) (λ d=>?_)
  ·have d':q<=S.outs j:=by have:=of_decide_eq_true d; lia
   obtain ⟨rm,erm,arm⟩:=B.rs_last;refine ⟨_,rfl,p,C,dx,_,_,rfl,e2 _ _ B.obj,T.cl,T.nC,rfl,_,rfl,ca,_,_,_,rfl,rfl,SqL.of (e2 _ _ B.cel),arm,_,rfl,rm,_,_,_,rfl,rfl,SqL.of (e2 _ _ (B.row m rm erm)),a0a (by lia),?_⟩;refine ⟨_,rfl,_,rfl,_,rfl,p,C,dx,_,_,rfl,e2 _ _ B.obj,T.cl,T.nM,rfl,_,_,rfl,rfl,tl,_,_,S.outs j - q,rfl,rfl,ht2,?_,?_⟩
   ·rw [show ((S.outs j:Int) - (q:Int))=((S.outs j - q:Nat):Int) by lia]
    exact a2a (by simp; lia)
   refine ⟨_,_,rfl,e2.write htn,?_⟩;rw [upd_same]
   congr 2
   refine a9x ?_ λ u hu hne=>?_
   ·rw [st,if_pos (by lia)]
    have:a6s m S j (q+(S.outs j - q))=0:=a2g λ i hi=>if_neg λ z=>absurd (inj i j (by lia) hj (by lia)) (by lia);rw [this]; lia
   ·rw [st,if_neg (by lia)]; lia
  ·have d':¬ q<=S.outs j:=λ z=>d (decide_eq_true (by lia))
   refine ⟨_,_,rfl,e2,?_⟩;rw [ht2]
   congr 2
   refine cS λ v hv=>?_;rw [st,if_neg (by lia),dN]
 ·intro σ H1 hM_; refine C6 λ G_ hG_=>?_; obtain ⟨o2,o3,rfl,e1,ht⟩:=hM_; subst hG_
  rw [lo] at ht;refine ⟨_,rfl,k tl H1 e1 htn ?_⟩;rw [ht];unfold K8;rw [aT]; rfl
end
def V5 (rows:List (List Int)):Nat->Nat->Int:=λ i j=>(rows.getD i []).getD j 0
def J3 (l:List Int):Nat->Int:=λ i=>l.getD i 0
abbrev RowsL (K:W.Frag) (H:Hp):List V->List (List Int)->Prop:=aL λ v row=>∃ a,v=.ref a/\SqL K H a (row.map V.int)
section
variable {P:Program} {w:World} {K:W.Frag} {mg:Str->Option Value} {base:Heap} {f g c Pt:Addr} {fd gd:FuncData} {n:Nat} {C:Addr}
def a9R (K:W.Frag) (C:Addr):Sp:=λ vs H Q _=>∃ (p dx ga ra ba:Addr) (goal:List Int) (rvs:List V) (rows:List (List Int)) (bounds:List Int) (m q:Nat),vs=[.ref p,.ref ga,.ref ra,.ref ba]/\H p=some (.ins C dx [])/\SqL K H ga (goal.map V.int)/\SqL K H ra rvs ∧
 RowsL K H rvs rows/\SqL K H ba (bounds.map V.int)/\rows.length=m/\bounds.length=m/\goal.length=q/\(∀ r∈rows,r.length=q)/\m<900/\q<900 ∧
 ∀ (H':Hp) (ca oa ia:Addr) (rs:List Addr),Bd C H' p dx ca oa ia rs m q (Lp.S0 m q (V5 rows) (J3 bounds) (J3 goal))->(∀ b o,b≠p->H b=some o->H' b=some o)->H oa=none->H ia=none->Q .non H'
theorem b2F:j8 ["self","goal","rows","bounds"] ["self","goal","rows","bounds"] (h8 a4F):=⟨rfl,rfl,rfl,by decide +kernel,rfl,by decide +kernel,by decide +kernel⟩
theorem b3W:(["row","bound"]:List Str).Nodup:=by decide +kernel
theorem b5W:(["one"]:List Str).Nodup:=by decide +kernel
noncomputable def b4I {cdv:Value} {A:Around} {outer:List Env} {s:Shared} {H:Hp} {E:XK} (N:u0 mg) :
  { t:TS // PSs (J1 D7 P w K mg base ["self","goal","rows","bounds"] "Board.__init__" (h8 a4F) f cdv A outer s H E).nox (t0 a4F) t } :=
 ⟨_,i7 (G9 (pv 0) (j3 j7 rfl N.len bE (a0 (pv 1) d0)) rfl)
  (i7 (G9 (pv 0) g0 rfl)
  (p7 (G9 (pv 0) (a1y ["row","bound"] [] rfl (a8t true true K rfl rfl N.zip (a0 (pv 2) (a0 (pv 3) d0)))
   (λ _ _ _ _=>U4 K (n:=2) rfl rfl (p8 (m5 (i:=0) b3W rfl (aC rfl)) (p8 (m5 (i:=1) b3W rfl (aC rfl)) D3)))
   (λ _ _ _ _=>j6 x4 (v9 (a6d K rfl) rfl N.list dD (a0 (pv 0) d0)) (r6 (a0 (pv 1) d0)))) rfl)
  (p7 (B8 (a1Z dR eY eZ J8 (m7 (pv 0) rfl)
   (a0 (j6 x4 (a1y ["one"] [] rfl (M6 (pv 1)) (λ _ _ _ _=>m5 (i:=0) b5W rfl (aC rfl)) (λ _ _ _ _=>C8 x9 (pv 0))) (r6 (a0 g0 d0))) d0)))
  (i7 (G9 (pv 0) (v9 (a0e rfl) rfl N.list dD (a0 (v9 a7t rfl N.range jU (a0 (m7 (pv 0) rfl) d0)) d0)) rfl)
  (j0 (G9 (pv 0) (v9 (a0e rfl) rfl N.list dD (a0 (v9 a7R rfl N.range jU (a0 (m7 (pv 0) rfl) (a0 (j6 D0 (m7 (pv 0) rfl) (j3 j7 rfl N.len bE (a0 (pv 2) d0))) d0))) d0)) rfl))))))⟩
end
theorem b3q {m q i:Nat} {rows:List (List Int)} {bounds goal row:List Int} {b:Int} (hr:rows[i]?=some row) (hb:bounds[i]?=some b) (hl:row.length=q) (hi:i<m) :
  row++[b]=w8 q (Lp.S0 m q (V5 rows) (J3 bounds) (J3 goal)) i:=by
 refine cJ λ j=>?_;unfold w8
 by_cases hj:j<q+1
 ·rw [aD,bF hj,eX]
  have hT:(Lp.S0 m q (V5 rows) (J3 bounds) (J3 goal)).T i j=if j<q then V5 rows i j else J3 bounds i:=by
   show (if j<q then (if i<m then _ else _) else (if i<m then _ else _))=_
   rw [if_pos hi,if_pos hi]
  rw [hT]
  by_cases h:j<q
  ·rw [bQ (by lia),if_pos h]
   unfold V5;rw [aI,aI,hr,dO,aG (by lia),dO]
  ·rw [cA (by lia),if_neg h,hl,show j - q=0 by lia]
   unfold J3;rw [aI,hb]; rfl
 ·rw [bL (by simp; lia),bL (by simp; lia)]
theorem b0z {m q:Nat} {rows:List (List Int)} {bounds goal:List Int} (hl:goal.length=q):goal.map (λ x=>-x)++[0]=w8 q (Lp.S0 m q (V5 rows) (J3 bounds) (J3 goal)) m:=by
 refine cJ λ j=>?_;unfold w8
 by_cases hj:j<q+1
 ·rw [aD,bF hj,eX]
  have hT:(Lp.S0 m q (V5 rows) (J3 bounds) (J3 goal)).T m j=if j<q then - J3 goal j else 0:=by
   show (if j<q then (if m<m then _ else _) else (if m<m then _ else _))=_
   rw [if_neg (bJ _),if_neg (bJ _)]
  rw [hT]
  by_cases h:j<q
  ·rw [bQ (by simp; lia),if_pos h,aD]
   unfold J3;rw [aI,aG (by lia),eX,dO]
  ·rw [cA (by simp; lia),if_neg h,aA,hl,show j - q=0 by lia]; rfl
 ·rw [bL (by simp; lia),bL (by simp; lia)]
theorem b0u {m q:Nat} {A:Nat->Nat->Int} {b c:Nat->Int}:((aF q).map λ (i:Nat)=>V.int (0+(i:Int)))=(M1 q (Lp.S0 m q A b c)).map V.int:=by
 unfold M1;rw [aT];refine cS λ j hj=>?_;have h:(Lp.S0 m q A b c).outs j=j:=if_pos (cO.mp hj);simp [h]
theorem b2l {m q:Nat} {A:Nat->Nat->Int} {b c:Nat->Int}:((aF m).map λ (i:Nat)=>V.int ((q:Int)+(i:Int)))=(Q8 m (Lp.S0 m q A b c)).map V.int:=by
 unfold Q8;rw [aT];refine cS λ j hj=>?_;have h:(Lp.S0 m q A b c).ins j=q+j:=rfl;simp [h]
section
variable {P:Program} {w:World} {K:W.Frag} {mg:Str->Option Value} {base:Heap} {f g c Pt:Addr} {fd gd:FuncData} {n:Nat} {C:Addr}
theorem X5 {H H':Hp} {a p:Addr} {xs:List V} {C dx:Addr} {fs:List (Str×V)} (hp:H p=some (.ins C dx fs)) (e:∀ b o,b≠p->H b=some o->H' b=some o) (h:SqL K H a xs):SqL K H' a xs:=by
 rcases h with (h | ⟨o,h⟩) | h
 ·exact .inl (.inl (e _ _ (x6 h hp (by intro z; cases z)) h))
 ·exact .inl (.inr ⟨o,e _ _ (x6 h hp (by intro z; cases z)) h⟩)
 ·exact .inr h
theorem b0Z (F:Fun K "__init__" "Board.__init__" a4F f fd) (N:u0 mg) (T:TB K C):FnOk P w K mg base D7 (n+1) f fd ["self","goal","rows","bounds"] (a9R K C):=by
 refine F.ok b2F (λ vs H Q E h=>?_) (λ cdv A outer s H vs Q E hr h=>?_)
 ·obtain ⟨p,dx,ga,ra,ba,goal,rvs,rows,bounds,m,q,rfl,_⟩:=h
  rfl
 obtain ⟨p,dx,ga,ra,ba,goal,rvs,rows,bounds,m,q,rfl,hp,hg,hra,hrw,hba,lr,lb,lg,hrl,hm,hq,k⟩:=h;refine ⟨_,(b4I N).2,?_⟩;have lv:rvs.length=m:=by rw [<- lr]; exact Paired.length hrw
 have k1:∀ b o,b≠p->H b=some o->upd (upd H p (.ins C dx [("many",.int q)])) p (.ins C dx [("many",.int q),("scale",.int 1)]) b=some o:=λ b o hb e=>by rw [c9 hb,c9 hb]; exact e
 refine ⟨_,rfl,ga,_,rfl,.inl hg,_,rfl,p,C,dx,_,rfl,hp,T.cl,T.nM,(by show 0<1000; decide),?_⟩;rw [aA,lg];refine ⟨_,rfl,p,C,dx,_,rfl,upd_same,T.cl,T.nS,(by show 1<1000; decide),?_⟩;refine ⟨λ σ' H4=>∃ (l:Addr) (rs:List Addr),σ'=[some (.ref p),some (.ref ga),some (.ref ra),some (.ref ba)]/\H4 p=some (.ins C dx [("many",.int q),("scale",.int 1),("cells",.ref l)])/\H4 l=some (.lst (rs.map V.ref))/\rs.length=m/\H l=none ∧
  (∀ i a,rs[i]?=some a->a≠l/\H4 a=some (.lst ((w8 q (Lp.S0 m q (V5 rows) (J3 bounds) (J3 goal)) i).map V.int)))/\∀ b o,b≠p->H b=some o->H4 b=some o,?_,?_⟩
 ·refine ⟨_,rfl,_,rfl,ra,ba,rfl,⟨_,X5 hp k1 hra⟩,⟨_,X5 hp k1 hba⟩,λ l hl=>?_⟩
  have nlp:p≠l:=d9 upd_same hl;have hl0:H l=none:=by
   rw [c9 nlp.symm,c9 nlp.symm] at hl; exact hl
  refine a5Y (X5 hp k1 hra) (X5 hp k1 hba) hl (by rw [lv]; exact j9 (by lia)) (λ i y H2=>∃ a,y=.ref a/\a≠l/\H2 a=some (.lst ((w8 q (Lp.S0 m q (V5 rows) (J3 bounds) (J3 goal)) i).map V.int)))
   (λ i y H2 H3 ⟨a,h1,h2,h3⟩ e=>⟨a,h1,h2,e a _ h2 h3⟩) (λ i x y H2 zs N' hx hy e hl2 hN=>?_) (λ zs H2 e hl2 len pr=>?_)
  ·obtain ⟨row,hrow,⟨a,rfl,ha⟩⟩:=Paired.at hrw hx
   rw [aD] at hy
   cases hbi:bounds[i]? with
   | none=>rw [hbi] at hy; cases hy
   | some b =>
    rw [hbi] at hy;have hy':V.int b=y:=aN hy;subst hy';have hi:i<m:=by rw [<- lb]; exact (bN.mp hbi).1
    have hlen:=hrl row (bV hrow);have ha2:SqL K H2 a (row.map V.int):=e.seq (X5 hp k1 ha);refine ⟨_,rfl,a,_,rfl,.inl ha2,λ a1 h1=>?_⟩;have s1:=Same.new h1 (.lst (row.map V.int));refine ⟨_,rfl,(by show 1<=sizeLine; decide),λ a2 h2=>?_⟩;have s2:=s1.trans (Same.new h2 (.lst [.int b]));have n12:a1≠a2:=d9 upd_same h2;refine ⟨a1,a2,_,_,rfl,rfl,(by rw [c9 n12]; exact upd_same),upd_same,?_,λ a3 h3=>?_⟩
    ·rw [aA,hlen]
     have:=j9 (show q+1<=1000 by lia);simp;lia
    ·refine hN _ _ (s2.trans (Same.new h3 _)) ⟨a3,rfl,λ z=>?_,?_⟩
     ·rw [z,s2 _ _ hl2] at h3; cases h3
     ·rw [upd_same,<- b3q hrow hbi hlen hi,aW]; rfl
  ·have hp2:=e _ _ (upd_same (H:=upd H p (.ins C dx [("many",.int q)])) (a:=p) (o:=.ins C dx [("many",.int q),("scale",.int 1)]))
   refine ⟨_,rfl,p,C,dx,_,rfl,hp2,T.cl,T.nC,(by show 2<1000; decide),?_⟩;have hzs:zs=(zs.map a4z).map V.ref:=by
    rw [aT];refine cJ λ i=>?_;rw [aD]
    cases qi:zs[i]? with
    | none=>rfl
    | some y =>
     obtain ⟨a,rfl,_⟩:=pr i y qi;rfl
   refine ⟨l,zs.map a4z,rfl,upd_same,by rw [c9 nlp.symm,hl2]; rw [<- hzs],by rw [aA,len,lv,aA,lb]; lia,hl0,λ i a hi=>?_,λ b o hb hbo=>by rw [c9 hb]; exact e _ _ (k1 b o hb hbo)⟩;rw [aD] at hi
   cases qi:zs[i]? with
   | none=>rw [qi] at hi; cases hi
   | some y =>
    obtain ⟨a',rfl,h2,h3⟩:=pr i y qi;rw [qi] at hi;have:a'=a:=aN hi;subst this;refine ⟨h2,?_⟩;rw [c9 (λ z=>by rw [z,hp2] at h3; cases h3)];exact h3
 intro σ' H4 hM_; refine C6 λ G_ hG_=>?_; obtain ⟨l,rs,rfl,hp4,hl4,hlen,hl0,hrs,hk⟩:=hM_; subst hG_;have nlp:l≠p:=(d9 hp hl0).symm;refine ⟨λ σ' H5=>∃ rs':List Addr,σ'=[some (.ref p),some (.ref ga),some (.ref ra),some (.ref ba)]/\H5 p=some (.ins C dx [("many",.int q),("scale",.int 1),("cells",.ref l)])/\H5 l=some (.lst (rs'.map V.ref))/\rs'.length=m+1 ∧
  (∀ i a,rs'[i]?=some a->a≠l/\H5 a=some (.lst ((w8 q (Lp.S0 m q (V5 rows) (J3 bounds) (J3 goal)) i).map V.int)))/\∀ b o,b≠p->H b=some o->H5 b=some o,?_,?_⟩
 ·refine ⟨_,rfl,p,C,dx,_,_,rfl,hp4,T.cl,T.nC,rfl,.inl ⟨rfl,_,SqL.of hl4⟩,?_⟩
  have hg4:=X5 hp hk hg;refine ⟨_,rfl,ga,rfl,⟨_,hg4⟩,λ a1 h1=>?_⟩;refine W7 (K1 hg4) h1 (by rw [aA,lg]; exact j9 (by lia)) (λ x=>.int (-(vI x))) (λ i x H' N' hx e hN=>?_) ?_
  ·obtain ⟨x',rfl,_⟩:=a0B hx
   exact ⟨Wk.set (by decide),_,rfl,_,rfl,hN⟩
  have eg:(goal.map V.int).map (λ x=>V.int (-(vI x)))=(goal.map λ x=>-x).map V.int:=by rw [aT,aT]; rfl
  rw [eg];have s1:=Same.new h1 (.lst ((goal.map λ x=>-x).map V.int));refine ⟨(by show 1<=sizeLine; decide),λ a2 h2=>?_⟩;have s2:=s1.trans (Same.new h2 (.lst [.int 0]));have n12:a1≠a2:=d9 upd_same h2;refine ⟨a1,a2,_,_,rfl,rfl,(by rw [c9 n12]; exact upd_same),upd_same,?_,λ a3 h3=>?_⟩
  ·rw [aA,aA,lg]
   have:=j9 (show q+1<=1000 by lia);simp;lia
  have s3:=s2.trans (Same.new h3 (.lst ((goal.map λ x=>-x).map V.int++[.int 0])));refine ⟨l,_,_,rfl,rfl,s3 _ _ hl4,(by rw [aA,hlen]; exact j9 (by lia)),?_⟩;have n3l:a3≠l:=λ z=>by rw [z,s2 _ _ hl4] at h3; cases h3
  have n3p:a3≠p:=λ z=>by rw [z,s2 _ _ hp4] at h3; cases h3
  refine ⟨rs++[a3],rfl,by rw [c9 nlp.symm]; exact s3 _ _ hp4,by rw [upd_same,aW]; rfl,by rw [aM,hlen]; rfl,λ i a hi=>?_,λ b o hb hbo=>by rw [c9 (d9 hbo hl0)]; exact s3 _ _ (hk b o hb hbo)⟩
  by_cases him:i<m
  ·rw [bQ (by lia)] at hi
   obtain ⟨g1,g2⟩:=hrs i a hi;exact ⟨g1,by rw [c9 g1]; exact s3 _ _ g2⟩
  ·rw [cA (by lia)] at hi
   have hi0:i - rs.length=0:=by
    cases z:i - rs.length with
    | zero=>rfl
    | succ j=>rw [z] at hi; simp at hi
   rw [hi0] at hi;have:a3=a:=aN hi;subst this;have:i=m:=by lia
   subst this;refine ⟨n3l,?_⟩;rw [c9 n3l,upd_same,<- b0z lg,aW]; rfl
 intro σ' H5 hM_; refine C6 λ G_ hG_=>?_; obtain ⟨rs',rfl,hp5,hl5,hlen5,hrs5,hk5⟩:=hM_; subst hG_;refine ⟨_,rfl,p,C,dx,_,_,rfl,hp5,T.cl,T.nM,rfl,q,rfl,λ r1 h1=>?_⟩;have s1:=Same.new h1 (.rng 0 (q:Int));refine ⟨r1,0,q,rfl,by rw [upd_same,fL],by lia,by lia,by lia,λ oa hoa=>?_⟩;have s2:=s1.trans (Same.new hoa (.lst ((aF q).map λ (i:Nat)=>V.int (0+(i:Int)))));have noa5:H5 oa=none:=by
  cases z:H5 oa with
  | none=>rfl
  | some o=>rw [s1 _ _ z] at hoa; cases hoa
 have nop:oa≠p:=(d9 hp5 noa5).symm;refine ⟨_,rfl,p,C,dx,_,rfl,s2 _ _ hp5,T.cl,T.nO,(by show 3<1000; decide),?_⟩;have hra5:=X5 hp hk5 hra;have lp5:SqL K (upd (upd (upd H5 r1 (.rng 0 (q:Int))) oa (.lst ((aF q).map λ (i:Nat)=>V.int (0+(i:Int))))) p (.ins C dx [("many",.int q),("scale",.int 1),("cells",.ref l),("outs",.ref oa)])) ra rvs :=
  X5 (s2 _ _ hp5) (λ b o hb e=>by rw [c9 hb]; exact e) (s2.seq hra5)
 refine ⟨_,rfl,p,C,dx,_,_,rfl,upd_same,T.cl,T.nM,rfl,_,rfl,p,C,dx,_,_,rfl,upd_same,T.cl,T.nM,rfl,_,rfl,ra,_,rfl,.inl lp5,_,_,rfl,rfl,_,_,rfl,λ r2 h2=>?_⟩;rw [lv];refine ⟨r2,(q:Int),m,rfl,upd_same,by lia,by lia,by lia,λ ia hia=>?_⟩;have n2p:r2≠p:=(d9 upd_same h2).symm;have nip:ia≠p:=by
  refine (d9 (H:=_) (o:=.ins C dx [("many",.int q),("scale",.int 1),("cells",.ref l),("outs",.ref oa)]) ?_ hia).symm;rw [c9 n2p.symm,upd_same]; rfl
 have oa6:∀ o,upd (upd (upd H5 r1 (.rng 0 (q:Int))) oa o) p (.ins C dx [("many",.int q),("scale",.int 1),("cells",.ref l),("outs",.ref oa)]) oa=some o:=λ o=>by rw [c9 nop,upd_same]
 have n2o:r2≠oa:=(d9 (oa6 _) h2).symm;have nio:ia≠oa:=by
  refine (d9 (H:=_) (o:=.lst ((aF q).map λ (i:Nat)=>V.int (0+(i:Int)))) ?_ hia).symm;rw [c9 n2o.symm]; exact oa6 _
 have up:∀ b o,b≠p->H5 b=some o->b≠ia/\b≠r2/\upd (upd H5 r1 (.rng 0 (q:Int))) oa (.lst ((aF q).map λ (i:Nat)=>V.int (0+(i:Int)))) b=some o:=λ b o hb e=>by
  have e2:=s2 _ _ e;have nb2:b≠r2:=by
   refine d9 (H:=_) (o:=o) ?_ h2;rw [c9 hb]; exact e2
  refine ⟨?_,nb2,e2⟩;refine d9 (H:=_) (o:=o) ?_ hia;rw [c9 nb2,c9 hb]; exact e2
 refine ⟨_,rfl,p,C,dx,_,rfl,(by rw [c9 nip.symm,c9 n2p.symm]; exact upd_same),T.cl,T.nI,(by show 4<1000; decide),?_⟩;have fin:∀ b o,b≠p->H5 b=some o->upd (upd (upd (upd (upd (upd H5 r1 (.rng 0 (q:Int))) oa (.lst ((aF q).map λ (i:Nat)=>V.int (0+(i:Int))))) p (.ins C dx [("many",.int q),("scale",.int 1),("cells",.ref l),("outs",.ref oa)])) r2 (.rng (q:Int) ((q:Int)+(m:Int)))) ia (.lst ((aF m).map λ (i:Nat)=>V.int ((q:Int)+(i:Int))))) p (.ins C dx [("many",.int q),("scale",.int 1),("cells",.ref l),("outs",.ref oa),("ins",.ref ia)]) b=some o:=λ b o hb e=>by
  obtain ⟨g1,g2,g3⟩:=up b o hb e;rw [c9 hb,c9 g1,c9 g2,c9 hb]; exact g3
 have ia5:H5 ia=none:=by
  cases z:H5 ia with
  | none=>rfl
  | some o=>exact absurd rfl (up ia o nip z).1
 have back:∀ b,b≠p->H5 b=none->H b=none:=λ b hb z=>by
  cases z2:H b with
  | none=>rfl
  | some o=>rw [hk5 b o hb z2] at z; cases z
 refine k _ l oa ia rs' ⟨upd_same,fin _ _ nlp hl5,hlen5,λ i a hi=>fin _ _ (λ z=>?_) (hrs5 i a hi).2,?_,?_,nio.symm⟩ (λ b o hb hbo=>fin b o hb (hk5 b o hb hbo)) (back _ nop noa5) (back _ nip ia5)
 ·have:=(hrs5 i a hi).2
  rw [z,hp5] at this; cases this
 ·rw [c9 nop,c9 nio.symm,c9 n2o.symm,c9 nop,upd_same,b0u]
 ·rw [c9 nip,upd_same,b2l]
end
section
variable {P:Program} {w:World} {K:W.Frag} {mg:Str->Option Value} {base:Heap} {f Pt:Addr} {fd:FuncData} {n:Nat} {C:Addr}
def P8 (K:W.Frag) (C Pt:Addr):Sp:=λ vs H Q _=>∃ (ga ra ba:Addr) (goal:List Int) (rvs:List V) (rows:List (List Int)) (bounds:List Int) (m q M:Nat),vs=[.ref ga,.ref ra,.ref ba]/\SqL K H ga (goal.map V.int)/\SqL K H ra rvs ∧
 RowsL K H rvs rows/\SqL K H ba (bounds.map V.int)/\rows.length=m/\bounds.length=m/\goal.length=q/\(∀ r∈rows,r.length=q)/\m<900/\q<900/\(∀ i,i<m->0<=J3 bounds i) ∧
 (∀ v,Lp.Fits M (m+1) (Lp.Vv m q (V5 rows) (J3 bounds) (J3 goal) v))/\Lp.bnd M (m+1)<2 ^ 4000/\LT Pt H ∧
 (∀ (S:Lp.Bo) (H':Hp) (t aa wa:Addr),Lp.Of m q (V5 rows) (J3 bounds) (J3 goal) S->(∀ j,j<q->¬ S.T m j<0)->Sz 4000 m q S->Same1 Pt H H'->LT Pt H'->H' t=some (.tup [.int (S.T m q),.ref aa,.ref wa,.int S.d]) →
  H' aa=some (.lst ((r8 m q S).map V.int))->H' wa=some (.lst ((K8 m q S).map V.int))->Q (.ref t) H') ∧
 ∀ (S:Lp.Bo) (H':Hp) (c:Nat),Lp.Of m q (V5 rows) (J3 bounds) (J3 goal) S->c<q->S.T m c<0->(∀ i,i<m->¬ 0<S.T i c)->Same1 Pt H H'->LT Pt H'->Q .non H'
theorem scGr:j8 ["goal","rows","bounds","board","column","row"] ["goal","rows","bounds"] (h8 M5):=⟨rfl,rfl,rfl,by decide +kernel,rfl,by decide +kernel,by decide +kernel⟩
structure b3E (P:Program) (w:World) (K:W.Frag) (mg:Str->Option Value) (base:Heap) (n:Nat) (C Pt:Addr) (f1 f2 f3 f4 f5 f6:Addr) (d1 d2 d3 d4 d5 d6:FuncData):Prop where
 mak:Mk K C f1
 ini:FnOk P w K mg base D7 n f1 d1 ["self","goal","rows","bounds"] (a9R K C)
 inb:Binds K d1 ["self","goal","rows","bounds"] []
 mC:mg "Board"=some (.ref C)
 com:a7x P w K mg base n C "coming" ["self"] (a2s C Pt) f2 d2
 goi:a7x P w K mg base n C "going" ["self","column"] (a6A C) f3 d3
 exc:a7x P w K mg base n C "exchange" ["self","row","column"] (a2i C) f4 d4
 amt:a7x P w K mg base n C "amounts" ["self"] (a8h C) f5 d5
 wts:a7x P w K mg base n C "weights" ["self"] (b1T C) f6 d6
noncomputable def grT {cdv:Value} {A:Around} {outer:List Env} {s:Shared} {H:Hp} {E:XK} {f1 f2 f3 f4 f5 f6:Addr} {d1 d2 d3 d4 d5 d6:FuncData} (T:TB K C) (G:b3E P w K mg base n C Pt f1 f2 f3 f4 f5 f6 d1 d2 d3 d4 d5 d6)
  (hr:Room (n+1) (A.deeper (cU "greatest" (h8 M5) s.heap.objs.size f cdv))) (hr0:Room n (A.deeper (cU "greatest" (h8 M5) s.heap.objs.size f cdv))) :
  { t:TS // PSs (J1 D7 P w K mg base ["goal","rows","bounds","board","column","row"] "greatest" (h8 M5) f cdv A outer s H E).nox (t0 M5) t } :=
 ⟨_,i7 (m4 (i:=3) scGr.nd rfl (aC rfl) (a7c G.mak G.ini hr rfl G.mC G.inb .nil t7 (a0 (pv 0) (a0 (pv 1) (a0 (pv 2) d0)))))
  (i7 (m4 (i:=4) scGr.nd rfl (aC rfl) (G7 (pv 3) T.cl G.com.me G.com.ok hr0 G.com.bd .nil t7))
  (i7 (a4X PassesOwn.never (m6 b1y (pv 4) T8 (p6 _))
   (i7 (m4 (i:=5) scGr.nd rfl (aC rfl) (Z2 (pv 3) T.cl G.goi.me G.goi.ok hr0 G.goi.bd .nil t7 (a0 (pv 4) d0)))
   (i7 (w6 (m6 a5L (pv 5) T8 (p6 _)) (j0 (o4 T8)) r9)
   (i7 (B8 (Z2 (pv 3) T.cl G.exc.me G.exc.ok hr0 G.exc.bd .nil t7 (a0 (pv 5) (a0 (pv 4) d0))))
   (j0 (m4 (i:=4) scGr.nd rfl (aC rfl) (G7 (pv 3) T.cl G.com.me G.com.ok hr0 G.com.bd .nil t7)))))))
  (j0 (o4 (G5 (a0 (j5 j4 (j5 j4 (m7 (pv 3) rfl) (C8 x9 g0) (λ _ _=>rfl)) (C8 x9 g0) (λ _ _=>rfl))
   (a0 (G7 (pv 3) T.cl G.amt.me G.amt.ok hr0 G.amt.bd .nil t7) (a0 (G7 (pv 3) T.cl G.wts.me G.wts.ok hr0 G.wts.bd .nil t7) (a0 (m7 (pv 3) rfl) d0)))))))))⟩
end
section
variable {P:Program} {w:World} {K:W.Frag} {mg:Str->Option Value} {base:Heap} {f Pt:Addr} {fd:FuncData} {n:Nat} {C:Addr}
theorem RowsL.same {H H':Hp} {vs:List V} {rs:List (List Int)} (e:Same H H') (x:RowsL K H vs rs):RowsL K H' vs rs:=Paired.imp' (λ _ _ ⟨a,z,q⟩=>⟨a,z,e.seq q⟩) x
theorem b3G {m q M:Nat} {A:Nat->Nat->Int} {b c:Nat->Int} {S:Lp.Bo} (O:Lp.Of m q A b c S) (hM:∀ v,Lp.Fits M (m+1) (Lp.Vv m q A b c v)) (hb:Lp.bnd M (m+1)<2 ^ 4000):Sz 4000 m q S :=
 ⟨λ i j hi hj=>cI (O.w.bndT hM hi hj) hb,cI (O.w.bndd hM) hb⟩
def Cv (m q:Nat) (S:Lp.Bo) (cv:V):Prop:=(cv=.non/\∀ j,j<q->¬ S.T m j<0)\/∃ c:Nat,cv=.int c/\c<q/\S.T m c<0/\∀ i,i<q->S.T m i<0->S.outs c<=S.outs i
theorem a4W {f1 f2 f3 f4 f5 f6:Addr} {d1 d2 d3 d4 d5 d6:FuncData} (F:Fun K "greatest" "greatest" M5 f fd) (T:TB K C) (G:b3E P w K mg base n C Pt f1 f2 f3 f4 f5 f6 d1 d2 d3 d4 d5 d6) :
  FnOk P w K mg base D7 (n+2) f fd ["goal","rows","bounds"] (P8 K C Pt):=by
 refine F.ok scGr (λ vs H Q E h=>?_) (λ cdv A outer s H vs Q E hr h=>?_)
 ·obtain ⟨ga,ra,ba,goal,rvs,rows,bounds,m,q,M,rfl,_⟩:=h
  rfl
 obtain ⟨ga,ra,ba,goal,rvs,rows,bounds,m,q,M,rfl,hg,hra,hrw,hba,lr,lb,lg,hrl,hm,hq,hbn,hM,hB,L,kT,kN⟩:=h;refine ⟨_,(grT T G hr (hr.mono (by lia))).2,?_⟩;refine ⟨_,rfl,_,rfl,_,rfl,λ p dx hp hdx hne=>?_⟩;have e0:Same H (upd (upd H dx (.own p)) p (.ins C dx [])):=λ b o q'=>by rw [c9 (d9 q' hp),c9 (d9 q' hdx)]; exact q'
 refine ⟨p,dx,ga,ra,ba,goal,rvs,rows,bounds,m,q,rfl,upd_same,e0.seq hg,e0.seq hra,hrw.same e0,e0.seq hba,lr,lb,lg,hrl,hm,hq,λ H1 ca oa ia rs B k1 hoa hia=>⟨rfl,?_⟩⟩;have nop:oa≠p:=x6 B.out B.obj (by intro z; cases z);have nip:ia≠p:=x6 B.inn B.obj (by intro z; cases z);have hoa0:H oa=none:=by
  cases z:H oa with
  | none=>rfl
  | some o=>rw [e0 _ _ z] at hoa; cases hoa
 have hia0:H ia=none:=by
  cases z:H ia with
  | none=>rfl
  | some o=>rw [e0 _ _ z] at hia; cases hia
 have s1:Same H H1:=λ b o z=>k1 b o (d9 z hp) (e0 _ _ z);have L1:LT Pt H1:=L.same s1;have O0:=Lp.of0 (A:=V5 rows) (c:=J3 goal) (q:=q) hbn;have come:∀ (S:Lp.Bo) (ca:Addr) (rs:List Addr) (H2:Hp) (R:V->Hp->Prop),Bd C H2 p dx ca oa ia rs m q S->LT Pt H2->Same1 Pt H H2->(∀ cv H3,Cv m q S cv->Bd C H3 p dx ca oa ia rs m q S->LT Pt H3->Same1 Pt H H3->R cv H3) →
   a2s C Pt [.ref p] H2 R E0:=λ S ca rs H2 R B2 L2 e2 hR=>by
  refine ⟨p,dx,ca,oa,ia,rs,m,q,S,rfl,B2,by lia,L2,λ H3 e3 L3=>?_⟩;have B3:=B2.lam L2 e3;have e4:Same1 Pt H H3:=λ b o hb z=>e3 b o hb (e2 b o hb z);exact ⟨λ hn=>hR _ _ (.inl ⟨rfl,hn⟩) B3 L3 e4,λ j hj hneg hmin=>hR _ _ (.inr ⟨j,rfl,hj,hneg,hmin⟩) B3 L3 e4⟩
 refine ⟨_,rfl,p,dx,_,rfl,B.obj,rfl,?_⟩;unfold a1B;refine come _ _ _ _ _ B L1 (λ b o _ z=>s1 b o z) λ cv H2 hcv B2 L2 e2=>?_;obtain ⟨kk,hkk⟩:=O0.w.ends hM;refine ⟨λ j σ H3=>∃ (S:Lp.Bo) (ca:Addr) (rs:List Addr) (cv:V) (o5:Option V),σ=[some (.ref ga),some (.ref ra),some (.ref ba),some (.ref p),some cv,o5]/\Lp.Of m q (V5 rows) (J3 bounds) (J3 goal) S/\Lp.Ends m q S j/\Cv m q S cv/\Bd C H3 p dx ca oa ia rs m q S/\LT Pt H3/\Same1 Pt H H3,
  ⟨kk,_,ca,rs,cv,_,rfl,O0,hkk,hcv,B2,L2,e2⟩,?_⟩
 rintro j σ H3 ⟨S,ca,rs,cv,o5,rfl,O,hE,hcv,B3,L3,e3⟩;have sz:=b3G O hM hB;refine ⟨_,rfl,rfl,_,rfl,?_⟩;rcases hcv with ⟨rfl,hn⟩ | ⟨c,rfl,hc,hneg,hmin⟩
 ·refine A6 (λ z=>?_) (λ _=>?_)
  ·exact absurd z (by decide)
  obtain ⟨rm,em,am⟩:=B3.rs_last;refine ⟨_,rfl,p,C,dx,_,_,rfl,B3.obj,T.cl,T.nC,rfl,_,rfl,ca,_,_,_,rfl,rfl,SqL.of B3.cel,am,_,rfl,rm,_,_,_,rfl,rfl,SqL.of (B3.row m rm em),Y7,?_⟩;refine ⟨_,rfl,p,dx,_,rfl,B3.obj,rfl,?_⟩;refine ⟨p,dx,ca,oa,ia,rs,m,q,S,rfl,B3,hm,hq,O.w.ii,λ aa H4 e4 haa h4=>?_⟩;have B4:Bd C H4 p dx ca oa ia rs m q S:=B3.same1 (P:=Pt) λ b o z _=>e4 b o z;refine ⟨_,rfl,p,dx,_,rfl,B4.obj,rfl,?_⟩;refine ⟨p,dx,ca,oa,ia,rs,m,q,S,rfl,B4,hm,hq,O.w.oo,O.w.ob,λ wa H5 e5 hwa h5=>?_⟩;have B5:Bd C H5 p dx ca oa ia rs m q S:=B4.same1 (P:=Pt) λ b o z _=>e5 b o z;refine ⟨_,rfl,p,C,dx,_,_,rfl,B5.obj,T.cl,T.nS,rfl,(by show 4<=sizeLine; decide),λ t ht=>?_⟩;have e6:=(e4.trans e5).trans (Same.new ht (.tup [.int (S.T m q),.ref aa,.ref wa,.int S.d]));refine kT S _ t aa wa O hn sz (λ b o hb z=>e6 b o (e3 b o hb z)) (L3.same e6) upd_same ?_ ?_
  ·rw [c9 (d9 (e5 _ _ h4) ht)]; exact e5 _ _ h4
  ·rw [c9 (d9 h5 ht)]; exact h5
 ·refine A6 (λ _=>?_) (λ z=>absurd rfl z)
  refine ⟨λ σ' H'=>∃ j',j'<j/\∃ (S:Lp.Bo) (ca:Addr) (rs:List Addr) (cv:V) (o5:Option V),σ'=[some (.ref ga),some (.ref ra),some (.ref ba),some (.ref p),some cv,o5]/\Lp.Of m q (V5 rows) (J3 bounds) (J3 goal) S/\Lp.Ends m q S j'/\Cv m q S cv/\Bd C H' p dx ca oa ia rs m q S/\LT Pt H'/\Same1 Pt H H',λ σ' H' z=>z,?_⟩;refine ⟨_,rfl,p,dx,_,rfl,B3.obj,rfl,_,rfl,?_⟩;refine ⟨p,dx,ca,oa,ia,rs,m,q,S,c,rfl,B3,sz,by lia,by lia,λ hnone=>?_,λ r hrm hpos hbet=>?_⟩
  ·refine ⟨_,rfl,rfl,_,rfl,?_⟩
   refine A6 (λ _=>?_) (λ z=>absurd (decide_eq_true rfl) z);exact kN S H3 c O hc hneg hnone e3 L3
  ·have Ch:Lp.Choice m q S r c:=⟨hc,hneg,hmin,hrm,hpos,λ i hi hp'=>(hbet i hi hp').1,λ i hi hp'=>(hbet i hi hp').2⟩
   refine ⟨_,rfl,rfl,_,rfl,?_⟩;refine A6 (λ z=>absurd (of_decide_eq_true z) (by nofun)) (λ _=>?_);refine ⟨_,rfl,p,dx,_,rfl,B3.obj,rfl,_,rfl,_,rfl,?_⟩;refine ⟨p,dx,ca,oa,ia,rs,m,q,S,r,c,rfl,B3,sz,hrm,hc,hm,hq,O.w.pos,λ H4 ca' rs' B4 k4=>?_⟩;have e4:Same1 Pt H H4:=λ b o hb z=>k4 b o (d9 z hp) (d9 z hoa0) (d9 z hia0) (e3 b o hb z);have tk:∀ b o,H3 b=some o->(∀ C dx fs,o≠.ins C dx fs)->(∀ xs,o≠.lst xs)->H4 b=some o:=λ b o z n1 n2=>k4 b o (λ y=>by subst y; rw [B3.obj] at z; exact n1 _ _ _ (aN z).symm) (λ y=>by subst y; rw [B3.out] at z; exact n2 _ (aN z).symm) (λ y=>by subst y; rw [B3.inn] at z; exact n2 _ (aN z).symm) z;have L4:LT Pt H4:=by
    rcases L3 with t | ⟨c',t1,t2⟩
    ·exact .inl (tk _ _ t (λ _ _ _=>nofun) λ _=>nofun)
    ·exact .inr ⟨c',tk _ _ t1 (λ _ _ _=>nofun) λ _=>nofun,tk _ _ t2 (λ _ _ _=>nofun) λ _=>nofun⟩
   refine ⟨_,rfl,p,dx,_,rfl,B4.obj,rfl,?_⟩;refine come _ _ _ _ _ B4 L4 e4 λ cv' H5 hcv' B5 L5 e5=>?_;obtain ⟨j',hj',hE'⟩:=hE.next O.w Ch;exact ⟨j',hj',_,ca',rs',cv',_,rfl,O.piv Ch,hE',hcv',B5,L5,e5⟩
end
section
variable {P:Program} {w:World} {K:W.Frag} {mg:Str->Option Value} {base:Heap} {f g:Addr} {fd gd:FuncData}
def a9T (K:W.Frag):Sp:=λ vs H Q _=>∃ (a:Addr) (ns:List Int) (k:Int),vs=[.ref a,.int k]/\SqL K H a (ns.map V.int)/\0<=k/\∀ c:Int,Q (.int c) H
theorem b3o:j8 ["script","k"] ["script","k"] (h8 a8d):=⟨rfl,rfl,rfl,by decide +kernel,rfl,by decide +kernel,by decide +kernel⟩
theorem b2Q {ns:List Int} {k:Int} (h0:0<=k) (h:k<((ns.map V.int).length:Int)):∃ v:Int,N5 (ns.map V.int) k=some (.int v):=by
 have hl:(ns.map V.int).length=ns.length:=aA _;have hk:k.toNat<ns.length:=by lia
 have ek:k=((k.toNat:Nat):Int):=by lia
 have q:N5 (ns.map V.int) ((k.toNat:Nat):Int)=some (.int ns[k.toNat]):=v7 (by rw [aD,aG hk]; rfl);rw [<- ek] at q;exact ⟨_,q⟩
theorem b1f {n:Nat} (F:Fun K "_law_cell_at" "_law_cell_at" a8d f fd) (T:u0 mg):FnOk P w K mg base D7 (n+1) f fd ["script","k"] (a9T K):=by
 refine F.ok b3o (λ vs H Q E h=>?_) (λ cdv A outer s H vs Q E hr h=>?_)
 ·obtain ⟨a,ns,k,rfl,_⟩:=h
  rfl
 obtain ⟨a,ns,k,rfl,hS,h0,q⟩:=h;refine ⟨_,i7 (w6 (m6 a0v (pv 1) (j3 j7 rfl T.len bE (a0 (pv 0) d0)) (p6 _)) (j0 (o4 (j5 j4 (pv 0) (pv 1) (λ _ _=>rfl)))) r9)
  (j0 (o4 g0)),?_⟩
 refine ⟨_,rfl,_,rfl,a,_,rfl,.inl hS,_,_,rfl,rfl,_,rfl,?_⟩;refine A6 (λ c=>?_) (λ c=>?_)
 ·obtain ⟨v,hv⟩:=b2Q h0 (of_decide_eq_true c)
  exact ⟨_,rfl,_,rfl,a,_,_,_,rfl,rfl,hS,hv,q v⟩
 ·exact q 0
def a6j (K:W.Frag):Sp:=λ vs H Q _=>∃ (c:Int) (many:Nat) (b:Int),vs=[.int c,.int (many:Int),.int b]/\many<=900/\0<b/\b<1073741824 ∧
 ∀ (r:Addr) (H':Hp) (ds:List Int),Same H H'->H' r=some (.lst (ds.map V.int))->ds.length=many->(∀ d∈ds,0<=d/\d<b)->Q (.ref r) H'
theorem scDraws:j8 ["cell","many","base","found","rest","stirred","k"] ["cell","many","base"] (h8 a5O):=⟨rfl,rfl,rfl,by decide +kernel,rfl,by decide +kernel,by decide +kernel⟩
theorem a8y {n:Nat} (F:Fun K "_law_draws" "_law_draws" a5O f fd) (T:u0 mg):FnOk P w K mg base D7 (n+1) f fd ["cell","many","base"] (a6j K):=by
 refine F.ok scDraws (λ vs H Q E h=>?_) (λ cdv A outer s H vs Q E hr h=>?_)
 ·obtain ⟨a,ns,k,rfl,_⟩:=h
  rfl
 obtain ⟨c,many,b,rfl,hm,hb0,hb1,q⟩:=h;refine ⟨_,i7 (m4 (i:=3) scDraws.nd rfl (aC rfl) (r6 d0))
  (i7 (m4 (i:=4) scDraws.nd rfl (aC rfl) (j6 a5F (pv 0) (v9 a7k rfl T.int jV (a0 (O8 a7b (pv 0) (j6 a5d g0 g0) (p6 _)) d0))))
  (i7 (m4 (i:=5) scDraws.nd rfl (aC rfl) (j6 C5 (pv 0) g0))
  (i7 (a0l PassesOwn.never rfl (E7 rfl T.range (a0 (j6 D0 (pv 1) g0) d0)) (m5 (i:=6) scDraws.nd rfl (aC rfl))
   (i7 (m4 (i:=5) scDraws.nd rfl (aC rfl) (j6 C5 (j6 D0 (j6 D0 (j6 D0 (j6 a5F (pv 5) (pv 5)) (j6 a5F g0 (pv 5))) (pv 6)) g0) g0))
    (j0 (w6 (PW.pt (a3R (m6 a1S (pv 6) g0 (p6 _)) (a1K (m6 a1S (pv 4) g0 (p6 _)))))
     (i7 (B8 (a1Z dR eY eZ J8 (pv 3) (a0 (j6 C5 (pv 4) (pv 2)) d0))) (j0 (m4 (i:=4) scDraws.nd rfl (aC rfl) (j6 a4g (pv 4) (pv 2)))))
     (j0 (w6 (m6 a1S (pv 6) g0 (p6 _)) (j0 (B8 (a1Z dR eY eZ J8 (pv 3) (a0 (j6 C5 (j6 a4g (pv 5) g0) (pv 2)) d0)))) r9))))))
  (j0 (o4 (pv 3)))))),?_⟩
 refine ⟨(by show 0<=sizeLine; decide),λ fl hfl=>?_⟩;refine ⟨_,rfl,_,rfl,_,_,rfl,rfl,⟨by decide,by decide,by decide⟩,_,_,rfl,rfl,.inr ⟨_,rfl,_,_,rfl,rfl,.inr ?_,?_⟩⟩
 ·constructor <;> (split <;> decide)
 refine ⟨_,rfl,_,_,rfl,rfl,(by show (0:Int)<2305843009213693951; decide),?_⟩;refine ⟨_,rfl,_,_,rfl,rfl,((many:Int)+3),rfl,by lia,by lia,?_⟩;have e3:((many:Int)+3).toNat=many+3:=by lia
 rw [e3];refine a1o (n:=many+3) (λ i σ H'=>∃ (r st:Int) (ds:List Int) (ks:Option V),σ=[some (.int c),some (.int (many:Int)),some (.int b),some (.ref fl),some (.int r),some (.int st),ks]/\H'=upd H fl (.lst (ds.map V.int))/\ds.length=i - 3/\(∀ d∈ds,0<=d/\d<b)/\0<=st/\st<2305843009213693951)
  ⟨_,_,[],none,rfl,rfl,rfl,λ d hd=>(by cases hd),fO _ (by decide),fP _ (by decide)⟩ ?_ ?_
 ·rintro i σ H' hi ⟨r,st,ds,ks,rfl,rfl,hl,hd,hs0,hs1⟩
  refine ⟨_,rfl,_,rfl,_,_,rfl,rfl,.inl ⟨by lia,by lia⟩,_,rfl,_,_,rfl,rfl,.inl ⟨by decide,by decide⟩,_,_,rfl,rfl,_,rfl,_,_,rfl,rfl,_,_,rfl,rfl,_,_,rfl,rfl,(by show (0:Int)<2305843009213693951; decide),?_⟩;have hs0':0<=(st*st+48271*st+(0+(i:Int))+1) % 2305843009213693951:=fO _ (by decide);have hs1':(st*st+48271*st+(0+(i:Int))+1) % 2305843009213693951<2305843009213693951:=fP _ (by decide);refine ⟨_,rfl,_,_,rfl,rfl,_,rfl,?_⟩;have hz:(ds.map V.int).length<sizeLine:=by rw [aA]; exact j9 (by lia)
  have more:∀ d:Int,(ds.map V.int)++[V.int d]=(ds++[d]).map V.int:=λ d=>by rw [aW]; rfl
  have mem:∀ d:Int,0<=d->d<b->∀ d'∈ds++[d],0<=d'/\d'<b:=λ d h0 h1 d' hd'=>by
   rcases aS.mp hd' with z | z
   ·exact hd d' z
   ·rw [aY.mp z]; exact ⟨h0,h1⟩
  refine A6 (λ c1=>?_) (λ c1=>?_)
  ·have c1':2<0+(i:Int):=of_decide_eq_true c1
   refine ⟨_,rfl,_,_,rfl,rfl,_,rfl,?_⟩;refine A6 (λ c2=>?_) (λ c2=>?_)
   ·refine ⟨_,rfl,.inl ⟨rfl,_,SqL.of upd_same⟩,_,rfl,_,rfl,_,_,rfl,rfl,hb0,fl,_,_,rfl,rfl,upd_same,hz,?_⟩
    refine ⟨_,rfl,_,rfl,_,_,rfl,rfl,⟨hb0,hb1⟩,?_⟩;refine ⟨_,_,ds++[r % b],_,rfl,?_,?_,mem _ (fO _ (by lia)) (fP _ hb0),hs0',hs1'⟩
    ·rw [R0,more]
    ·rw [aM,cX]; lia
   ·refine ⟨_,rfl,_,_,rfl,rfl,_,rfl,?_⟩
    refine A6 (λ c3=>?_) (λ c3=>absurd c1 c3);refine ⟨_,rfl,.inl ⟨rfl,_,SqL.of upd_same⟩,_,rfl,_,_,rfl,rfl,⟨by decide,by decide⟩,_,rfl,_,_,rfl,rfl,hb0,fl,_,_,rfl,rfl,upd_same,hz,?_⟩;refine ⟨_,_,ds++[(st*st+48271*st+(0+(i:Int))+1) % 2305843009213693951 / 4096 % b],_,rfl,?_,?_,mem _ (fO _ (by lia)) (fP _ hb0),hs0',hs1'⟩
    ·rw [R0,more]
    ·rw [aM,cX]; lia
  ·have c1':¬ 2<0+(i:Int):=of_decide_eq_false (eH.mpr c1)
   refine D6 ?_;refine ⟨_,rfl,_,_,rfl,rfl,_,rfl,?_⟩;refine A6 (λ c3=>absurd c3 c1) (λ c3=>?_);exact ⟨_,_,ds,_,rfl,rfl,by lia,hd,hs0',hs1'⟩
 ·intro σ H' hM_; refine C6 λ G_ hG_=>?_; obtain ⟨r,st,ds,ks,rfl,rfl,hl,hd,_⟩:=hM_; subst hG_
  exact ⟨_,rfl,q fl _ ds (Same.new hfl _) upd_same (by lia) hd⟩
end
theorem b1G {n:Nat} {k:Int} (h0:0<=k) (h1:k<(n:Int)):ixN n k=some k.toNat:=by
 unfold ixN;rw [if_pos h0,if_pos h1]
theorem b0N {α:Type} {xs:List α} {k:Int} (h0:0<=k) (h1:k<(xs.length:Int)):∃ v,v∈xs/\N5 xs k=some v:=by
 have hk:k.toNat<xs.length:=by lia
 refine ⟨xs[k.toNat],cP hk,?_⟩;unfold N5;rw [b1G h0 h1];exact aG hk
theorem a7g {ns:List Int} {k:Int} (h0:0<=k) (h1:k<(ns.length:Int)):∃ v,v∈ns/\N5 (ns.map V.int) k=some (.int v):=by
 obtain ⟨v,hv,e⟩:=b0N (xs:=ns.map V.int) h0 (by rw [aA]; exact h1);obtain ⟨n,hn,rfl⟩:=bH.mp hv;exact ⟨n,hn,e⟩
theorem map_set {ns:List Int} {j:Nat} {v:Int}:(ns.map V.int).set j (.int v)=(ns.set j v).map V.int:=by rw [gP]
structure HG (far:Int) (kt kg:Nat) (h:i9):Prop where
 lt:h.1.length=kt
 lg:h.2.length=kg
 t:∀ x∈h.1,1<=x/\x<=far
 g:∀ x∈h.2,0<=x/\x<=far
 p:∃ x∈h.2,0<x
section
variable {P:Program} {w:World} {K:W.Frag} {mg:Str->Option Value} {base:Heap} {f g:Addr} {fd gd:FuncData}
end
end Rim
namespace L2
open PySem
end L2
namespace Rim
open PySem L2
def a6G (ns:List Int):PyData:=.tuple (ns.map PyData.int)
def K5 (h:i9):PyData:=.tuple [a6G h.1,a6G h.2]
theorem a2u {K:W.Frag} {H:Hp}:∀ ns:List Int,Dps K H (ns.map V.int) (ns.map PyData.int)
 | []=>.nil
 | n::r=>.cons (.int n) (a2u r)
theorem HS.dp {K:W.Frag} {H:Hp} {v:V} {h:i9} (x:HS K H v h):Dp K H v (K5 h):=by
 obtain ⟨a,t,g,rfl,h1,h2,h3⟩:=x;exact .tup h1 (.cons (.tup h2 (a2u _)) (.cons (.tup h3 (a2u _)) .nil))
theorem Bk.dps {K:W.Frag} {H:Hp}:∀ {vs:List V} {hs:List i9},Bk K H vs hs->Dps K H vs (hs.map K5)
 | _,_,.nil=>.nil
 | _,_,.cons x r=>.cons x.dp (Bk.dps r)
theorem a2r:∀ ns:List Int,PyData.canLayAll0 (ns.map PyData.int)=true
 | []=>by rw [dL,PyData.canLayAll0]
 | n::r=>by rw [aV,PyData.canLayAll0,a2r r,PyData.canLay0]; rfl
theorem a7U (h:i9):(K5 h).canLay0=true:=by
 unfold K5 a6G;rw [PyData.canLay0,PyData.canLayAll0,PyData.canLay0,a2r,PyData.canLayAll0,PyData.canLay0,a2r,PyData.canLayAll0]; rfl
theorem a2f:∀ hs:List i9,PyData.canLayAll0 (hs.map K5)=true
 | []=>by rw [dL,PyData.canLayAll0]
 | h::r=>by rw [aV,PyData.canLayAll0,a7U,a2f r]; rfl
section
variable {P:Program} {w:World} {K:W.Frag} {mg:Str->Option Value} {base:Heap} {f g:Addr} {fd gd:FuncData}
end
section
variable {P:Program} {w:World} {K:W.Frag} {mg:Str->Option Value} {base:Heap} {f g:Addr} {fd gd:FuncData}
end
end Rim
namespace Rim
open PySem L2 Fr
def b5b (K:W.Frag):List V->Hp->VK->Prop:=λ vs H Q=>∃ (a:Addr) (ns:List Int),vs=[.ref a]/\SqA K H a (ns.map V.int)/\Q (.int ns.sum) H
theorem a9o (K:W.Frag) {X:Cx} (h:X.K=K) (hc:X.calm=true):G4 X (.builtin "sum") (b5b K):=by subst h; exact a9Y hc
theorem V9 (K:W.Frag) {X:Cx} (h:X.K=K):IxR X (b4F K):=by subst h; exact x5
def FrV (K:W.Frag) (H:Hp) (v:V) (f:Q2):Prop:=∃ a,v=.ref a/\SqT K H a [.int f.1,.int f.2]
def FrT (H:Hp) (v:V) (f:Q2):Prop:=∃ a,v=.ref a/\H a=some (.tup [.int f.1,.int f.2])
theorem FrT.v {K:W.Frag} {H:Hp} {v:V} {f:Q2} (h:FrT H v f):FrV K H v f:=by
 obtain ⟨a,e,q⟩:=h;exact ⟨a,e,SqT.of q⟩
theorem FrT.same {H H':Hp} {v:V} {f:Q2} (e:Same H H') (h:FrT H v f):FrT H' v f:=by
 obtain ⟨a,z,q⟩:=h;exact ⟨a,z,e _ _ q⟩
theorem FrV.same {K:W.Frag} {H H':Hp} {v:V} {f:Q2} (e:Same H H') (h:FrV K H v f):FrV K H' v f:=by
 obtain ⟨a,z,q⟩:=h;exact ⟨a,z,e.tseq q⟩
section
variable {P:Program} {w:World} {K:W.Frag} {mg:Str->Option Value} {base:Heap} {f g:Addr} {fd gd:FuncData}
structure Cal (P:Program) (w:World) (K:W.Frag) (mg:Str->Option Value) (base:Heap) (n:Nat) (x:Str) (ps:List Str) (sp:Sp) (fa:Addr) (d:FuncData):Prop where
 ok:FnOk P w K mg base D7 n fa d ps sp
 b:Binds K d ps []
 k:W.keepIn K (.ref fa)=true
 m:mg x=some (.ref fa)
def b1S:Sp:=λ vs H Q _=>∃ a b:Int,vs=[.int a,.int b]/\0<=b/\Q (.int (gI a b)) H
theorem scDiv:j8 ["one","other"] ["one","other"] (h8 b2k):=⟨rfl,rfl,rfl,by decide +kernel,rfl,by decide +kernel,by decide +kernel⟩
def b5y:St->Nat:=λ σ=>match σ with | [_,some (.int y)]=>y.toNat | _=>0
theorem b3l (x:Int):(if x<0 then -x else x)=gI x 0:=by
 rw [b1p]
 split <;> lia
theorem b3h {n:Nat} (F:Fun K "common_divisor" "common_divisor" b2k f fd) (T:u0 mg):FnOk P w K mg base D7 (n+1) f fd ["one","other"] b1S:=by
 refine F.ok scDiv (λ vs H Q E h=>?_) (λ cdv A outer s H vs Q E hr h=>?_)
 ·obtain ⟨a,b,rfl,_⟩:=h
  rfl
 obtain ⟨a,b,rfl,hb,q⟩:=h;refine ⟨_,i7 (a4X PassesOwn.never (m6 a6b (pv 1) g0 (p6 _)) (j0 (b2U (i:=0) (j:=1) rfl scDiv.nd rfl rfl (by decide) rfl rfl (a0 (pv 1) (a0 (j6 C5 (pv 0) (pv 1)) d0)) rfl)))
  (j0 (o4 (j3 a8f rfl T.abs (lZ) (a0 (pv 0) d0)))),?_⟩
 refine a8Y (λ σ H'=>∃ x y:Int,σ=[some (.int x),some (.int y)]/\H'=H/\0<=y/\gI x y=gI a b) (λ σ _=>b5y σ) ⟨a,b,rfl,rfl,hb,rfl⟩ ?_ (λ σ H Q Q' hq ⟨v,h1,h2,k,h3,q⟩=>⟨v,h1,h2,k,h3,hq _ _ q⟩);rintro σ H' ⟨x,y,rfl,rfl,hy,hg⟩;refine ⟨_,rfl,rfl,_,rfl,?_⟩;refine A6 (λ c=>?_) (λ c=>?_)
 ·have hy0:0<y:=by
   by_cases z:y=0
   ·subst z; simp at c
   ·lia
  have hm:=fO x (show y≠0 by lia);have hl:=fP x hy0;refine ⟨_,rfl,_,rfl,_,rfl,_,_,rfl,rfl,hy0,_,_,rfl,⟨y,x % y,rfl,rfl,hm,?_⟩,?_⟩
  ·rw [b0O]; exact hg
  ·show (x % y).toNat<y.toNat
   lia
 ·have hy0:y=0:=by
   by_cases z:y=0
   ·exact z
   ·exact absurd (by simp [z]) c
  subst hy0;refine ⟨_,rfl,_,rfl,?_⟩;rw [b3l,hg];exact q
end
theorem Big.mono {n m:Nat} {i:Int} (h:Big n i) (hn:n<=m):Big m i:=aO h (gO (by decide) hn)
theorem Big.mul {n m:Nat} {i j:Int} (h:Big n i) (k:Big m j):Big (n+m) (i*j):=by
 unfold Big at *;rw [iE,jW];exact Nat.mul_lt_mul_of_lt_of_lt h k
section
variable {P:Program} {w:World} {K:W.Frag} {mg:Str->Option Value} {base:Heap} {f g:Addr} {fd gd:FuncData} {n:Nat}
def b1Z:Sp:=λ vs H Q _=>∃ t b:Int,vs=[.int t,.int b]/\0<b/\b<2 ^ 8000/\∀ (v:V) (H':Hp),Same H H'->FrT H' v (low t b)->Q v H'
theorem scLow:j8 ["top","bottom","divisor"] ["top","bottom"] (h8 b2P):=⟨rfl,rfl,rfl,by decide +kernel,rfl,by decide +kernel,by decide +kernel⟩
theorem b2x {fa:Addr} {da:FuncData} (F:Fun K "lowest" "lowest" b2P f fd) (T:u0 mg) (C:Cal P w K mg base n "common_divisor" ["one","other"] b1S fa da):FnOk P w K mg base D7 (n+1) f fd ["top","bottom"] b1Z:=by
 refine F.ok scLow (λ vs H Q E h=>?_) (λ cdv A outer s H vs Q E hr h=>?_)
 ·obtain ⟨a,b,rfl,_⟩:=h
  rfl
 obtain ⟨t,b,rfl,hb,hb2,q⟩:=h;refine ⟨_,i7 (w6 (m6 M4 (pv 1) g0 (p6 _)) a2L r9)
  (i7 (m4 (i:=2) scLow.nd rfl (aC rfl) (m9 C.ok hr rfl C.m C.k C.b .nil t7 (a0 (pv 0) (a0 (pv 1) d0))))
  (i7 (w6 (m6 a0v (pv 1) g0 (p6 _)) a2L r9)
  (j0 (o4 (G5 (a0 (j6 a2A (pv 0) (pv 2)) (a0 (j6 a2A (pv 1) (pv 2)) d0))))))),?_⟩
 refine ⟨_,rfl,rfl,_,rfl,?_⟩;refine A6 (λ c=>?_) (λ _=>?_)
 ·have:=V.int.inj (of_decide_eq_true c); lia
 refine ⟨_,rfl,_,rfl,t,b,rfl,bG hb,?_⟩;refine ⟨_,rfl,_,_,rfl,rfl,_,rfl,?_⟩;refine A6 (λ c=>?_) (λ _=>?_)
 ·have:b<0:=of_decide_eq_true c; lia
 have hg:=a5e (a:=t) hb;have hgl:=b3F (a:=t) hb;refine ⟨_,rfl,_,rfl,_,_,rfl,rfl,⟨hg,jX hgl hb2⟩,_,rfl,_,rfl,_,_,rfl,rfl,⟨hg,jX hgl hb2⟩,(by show 2<=sizeLine; decide),λ p hp=>?_⟩;exact q _ _ (Same.new hp _) ⟨p,rfl,upd_same⟩
theorem G3 {α:Type} (a b:α):N5 [a,b] 0=some a:=v7 (j:=0) rfl
theorem O2 {α:Type} (a b:α):N5 [a,b] 1=some b:=v7 (j:=1) rfl
theorem M9 {K:W.Frag} (t:Value):W.kitOne K t t=some true:=by unfold W.kitOne; rw [if_pos (beq_self_eq_true _)]
theorem a3Y {K:W.Frag}:W.kitOne K (.type "int") (.type "bool")=some false:=by
 unfold W.kitOne;rw [if_neg (by decide)];rfl
end
section
variable {P:Program} {w:World} {K:W.Frag} {mg:Str->Option Value} {base:Heap} {f g:Addr} {fd gd:FuncData} {n:Nat}
def V7 (k:Nat) (m:Int):Prop:=0<=m/\m<(k:Int)
def a6F (K:W.Frag) (CN:Addr):Sp:=λ vs H Q E=>∃ (a:Addr) (xs:List V) (m:Int),vs=[.ref a,.int m]/\SqL K H a xs/\m.natAbs.log2<1920/\(∀ (i:Nat) x,m=(i:Int)->xs[i]?=some x->Q x H)/\(¬ V7 xs.length m->E (.ref CN) none H)
theorem b4K:j8 ["book","number"] ["book","number"] (h8 b3m):=⟨rfl,rfl,rfl,by decide +kernel,rfl,by decide +kernel,by decide +kernel⟩
theorem b2W {CN:Addr} (F:Fun K "house_of" "house_of" b3m f fd) (T:u0 mg) (kN:U7 K CN) (mN:mg "NoHouse"=some (.ref CN)):FnOk P w K mg base (V8 P w) (n+1) f fd ["book","number"] (a6F K CN):=by
 refine F.ok1 b4K (λ vs H Q E h=>?_) (λ cdv A outer s H vs Q E hr h=>?_)
 ·obtain ⟨a,xs,m,rfl,_⟩:=h
  rfl
 obtain ⟨a,xs,m,rfl,hS,hm,q,hE⟩:=h;refine ⟨_,i7 (w6 (V4 (a4q a4H a0v g0 (pv 1) (j3 j7 rfl T.len bE (a0 (pv 0) d0)))) (j0 (a0A kN rfl mN hr.hd (a0 (b1n (pv 1) (by decide)) d0))) r9)
  (j0 (o4 (j5 j4 (pv 0) (pv 1) (λ _ _=>rfl)))),?_⟩
 refine ⟨_,rfl,_,_,rfl,rfl,_,rfl,?_⟩;have bad:¬ V7 xs.length m->a8M (a4o (tFs (a4G 1)) a1B) CN E { nx:=λ _ H'=>Q .non H',rt:=Q } (O5 ["book","number"] [.ref a,.int m]) H:=λ hb=>⟨_,rfl,m,rfl,hm,λ x=>⟨(by show 1<=1000; decide),hE hb⟩⟩;refine A6 (λ c=>?_) (λ c=>?_)
 ·have c':0<=m:=of_decide_eq_true c
  refine ⟨_,rfl,a,_,rfl,.inl hS,_,_,rfl,rfl,_,rfl,?_⟩;refine A6 (λ d=>?_) (λ d=>?_)
  ·have d':¬ m<(xs.length:Int):=of_decide_eq_false (by simpa using d)
   exact bad λ z=>d' z.2
  ·have d':m<(xs.length:Int):=of_decide_eq_true (by simpa using d)
   obtain ⟨j,rfl⟩:∃ j:Nat,m=(j:Int):=⟨m.toNat,by lia⟩;have hi:j<xs.length:=by lia
   exact ⟨_,rfl,_,rfl,a,_,_,_,rfl,rfl,hS,v7 (aG hi),q j xs[j] rfl (aG hi)⟩
 ·have c':¬ 0<=m:=of_decide_eq_false (eH.mpr c)
  exact ⟨_,rfl,O1 (bad λ z=>c' z.1)⟩
end
end Rim
namespace L2
open PySem PySem.Spec PyProof.Rows
structure b1N (K:W.Frag) (P:Params) (d:Addr):Prop where
 ex:∃ es n,K.lookup d=some ⟨.type "dict",none,.dict es n,#[]⟩/\W.KeysLit P es.toList
def b5E (K:W.Frag) (P:Params):R2:=λ x y H Q=>∃ d z t,x=.ref d/\y=.str z/\b1N K P d/\W.nsIn K d z=some (some (.ref t))/\Q (.ref t) H
theorem a9b (K:W.Frag) (P:Params) {X:Cx} (hK:X.K=K) (hP:X.w.params=P):IxR X (b5E K P):=by
 subst hK;subst hP;intro value slice pins s σ H x y v u Q I rx ry h hs;obtain ⟨d,z,t,rfl,rfl,⟨es,n,hl,hk⟩,e,q⟩:=h
 cases rx;obtain ⟨tk,rfl⟩:=ry;obtain ⟨m,hm⟩:=I.fr;exact W.topItem_K hm I.mod.kin hl hk e ⟨.ref t,H,I.tok _,rfl,q⟩ (by first | exact hs | exact hs _ _)
end L2
namespace L2
open PySem
theorem b2T (K:W.Frag) {X:Cx} {tg l:Expr} {tl:TE} (h:X.K=K) (hl:PE X l tl):PI X tg l (b4a K tl):=by subst h; exact a5z hl
end L2
namespace Rim
open PySem L2 Fr
def Szw (z:Str):Prop:=z="any"\/z="one"\/z="less"\/z="more"
def N3 (z:Str):List Int:=if z="any" then [] else if z="one" then [1,-1] else if z="less" then [-1] else [1]
structure Sg (K:W.Frag) (Pm:Params) (mg:Str->Option Value) (d:Addr):Prop where
 m:mg "SIZE_SIGNS"=some (.ref d)
 k:b1N K Pm d
 tt:∀ z,Szw z->∃ t,W.nsIn K d z=some (some (.ref t))/\∀ H,SqT K H t ((N3 z).map V.int)
def y6 (z:Str) (h:i9):List Int:=h.1.map (λ x=>-x)++h.2++N3 z
section
variable {P:Program} {w:World} {K:W.Frag} {mg:Str->Option Value} {base:Heap} {f Pt d:Addr} {fd:FuncData} {n:Nat} {C:Addr}
def N4 (K:W.Frag):Sp:=λ vs H Q _=>∃ (ba:Addr) (xs:List V) (hs:List i9) (z:Str) (kt kg:Nat),vs=[.ref ba,.str z]/\Szw z/\SqL K H ba xs/\Bk K H xs hs/\hs.length<=100/\kt<=100/\kg<=100/\(∀ h∈hs,h.1.length=kt/\h.2.length=kg) ∧
 ∀ (r:Addr) (H':Hp) (rs:List Addr),Same H H'->H' r=some (.lst (rs.map V.ref))->rs.length=hs.length->(∀ (i:Nat) a h,rs[i]?=some a->hs[i]?=some h->H' a=some (.lst ((y6 z h).map V.int)))->Q (.ref r) H'
theorem scHr:j8 ["houses","sizes","signs"] ["houses","sizes"] (h8 P7):=⟨rfl,rfl,rfl,by decide +kernel,rfl,by decide +kernel,by decide +kernel⟩
theorem b1J:(["takes","gives","signs"]:List Str).Nodup:=by decide +kernel
theorem b3K:(["take"]:List Str).Nodup:=by decide +kernel
theorem a1M (z:Str):(N3 z).length<=2:=by
 unfold N3
 by_cases h1:z="any"
 ·rw [if_pos h1]; decide
 by_cases h2:z="one"
 ·rw [if_neg h1,if_pos h2]; decide
 by_cases h3:z="less"
 ·rw [if_neg h1,if_neg h2,if_pos h3]; decide
 ·rw [if_neg h1,if_neg h2,if_neg h3]; decide
noncomputable def hrT {cdv:Value} {A:Around} {outer:List Env} {s:Shared} {H:Hp} {E:XK} (N:u0 mg) (G:Sg K w.params mg d) :
  { t:TS // PSs (J1 D7 P w K mg base ["houses","sizes","signs"] "house_rows" (h8 P7) f cdv A outer s H E).nox (t0 P7) t } :=
 ⟨_,i7 (m4 (i:=2) scHr.nd rfl (eU rfl) (v9 A2 rfl N.list dD (a0 (j5 (a9b K w.params rfl rfl) (K3 (v:=.ref d) rfl G.m rfl) (pv 1) (λ _ _=>rfl)) d0)))
  (j0 (o4 (a1y ["takes","gives"] [2] rfl (M6 (pv 0))
   (λ _ _ _ _=>U4 K (n:=2) rfl rfl (p8 (m5 (i:=0) b1J rfl (aC rfl)) (p8 (m5 (i:=1) b1J rfl (aC rfl)) D3)))
   (λ _ _ _ _=>j6 x4 (j6 x4 (a1y ["take"] [] rfl (b2T K rfl (pv 0)) (λ _ _ _ _=>m5 (i:=0) b3K rfl (aC rfl)) (λ _ _ _ _=>C8 x9 (pv 0))) (v9 (a6d K rfl) rfl N.list dD (a0 (pv 1) d0))) (pv 2)))))⟩
theorem a3y (F:Fun K "house_rows" "house_rows" P7 f fd) (N:u0 mg) (G:Sg K w.params mg d):FnOk P w K mg base D7 (n+1) f fd ["houses","sizes"] (N4 K):=by
 refine F.ok scHr (λ vs H Q E h=>?_) (λ cdv A outer s H vs Q E hr h=>?_)
 ·obtain ⟨ba,xs,hs,z,kt,kg,rfl,_⟩:=h
  rfl
 obtain ⟨ba,xs,hs,z,kt,kg,rfl,hz,hB,hBk,hl,hkt,hkg,hlen,k⟩:=h;refine ⟨_,(hrT N G).2,?_⟩;obtain ⟨t,ht,hT⟩:=G.tt z hz;have xl:xs.length=hs.length:=Paired.length hBk;refine ⟨_,rfl,d,z,t,rfl,rfl,G.k,ht,t,_,rfl,.inr (hT _),λ sl hsl=>?_⟩;have e0:=Same.new hsl (.lst ((N3 z).map V.int));have hS0:upd H sl (.lst ((N3 z).map V.int)) sl=some (.lst ((N3 z).map V.int)):=upd_same;refine ⟨_,rfl,ba,rfl,⟨_,e0.seq hB⟩,λ l hl'=>?_⟩;refine a3V (K1 (e0.seq hB)) hl' (by rw [xl]; exact j9 (by lia)) (λ i y H2=>∃ a h,y=.ref a/\a≠l/\hs[i]?=some h/\H2 a=some (.lst ((y6 z h).map V.int)))
  (λ i y H2 H3 ⟨a,h,h1,h2,h3,h4⟩ e=>⟨a,h,h1,h2,h3,e a _ h2 h4⟩) (λ i x H2 ys N' hx e hl2 hN=>?_) (λ ys H2 e hl2 len pr=>?_)
 ·obtain ⟨h,hh,hHS⟩:=Paired.at hBk hx
  have hH2:=hHS.same (e0.trans e);obtain ⟨a,ta,ga,rfl,p1,p2,p3⟩:=hH2;have lh:=hlen h (bV hh);refine ⟨a,_,rfl,p1,rfl,_,_,rfl,_,_,rfl,rfl,?_,?_⟩
  ·refine ⟨by simp,λ k w ek=>?_⟩
   have:¬ k<2:=λ hk=>by
    unfold blkσ at ek;rw [bQ (by simpa using hk),dG] at ek
    split at ek <;> cases ek
   rw [bC (by lia),bC (by lia)]; exact ek
  refine ⟨_,rfl,ta,rfl,⟨_,p2⟩,λ a1 h1=>?_⟩;refine W7 (a2E p2) h1 (by rw [aA,lh.1]; exact j9 (by lia)) (λ x=>.int (-(vI x))) (λ j x H' N2 hx2 e2 hN2=>?_) ?_
  ·obtain ⟨x',rfl,_⟩:=a0B hx2
   exact ⟨Wk.set (by decide),_,rfl,_,rfl,hN2⟩
  have eg:(h.1.map V.int).map (λ x=>V.int (-(vI x)))=(h.1.map λ x=>-x).map V.int:=by rw [aT,aT]; rfl
  rw [eg];have s1:=Same.new h1 (.lst ((h.1.map λ x=>-x).map V.int));refine ⟨_,rfl,ga,_,rfl,.inr (s1.tseq p3),λ a2 h2=>?_⟩;have s2:=s1.trans (Same.new h2 (.lst (h.2.map V.int)));have n12:a1≠a2:=d9 upd_same h2;have sz:=j9 (show kt+kg+2<=1000 by lia);have sg:=a1M z;refine ⟨a1,a2,_,_,rfl,rfl,(by rw [c9 n12]; exact upd_same),upd_same,?_,λ a3 h3=>?_⟩
  ·rw [aA,aA,aA,lh.1,lh.2]; lia
  have s3:=s2.trans (Same.new h3 (.lst ((h.1.map λ x=>-x).map V.int++h.2.map V.int)));have sl3:=s3 _ _ (e _ _ hS0);refine ⟨_,rfl,a3,sl,_,_,rfl,rfl,upd_same,sl3,?_,λ a4 h4=>?_⟩
  ·rw [aM,aA,aA,aA,aA,lh.1,lh.2]; lia
  refine hN _ _ (s3.trans (Same.new h4 _)) ⟨a4,h,rfl,λ z'=>?_,hh,?_⟩
  ·rw [z',s3 _ _ hl2] at h4; cases h4
  ·rw [upd_same]
   unfold y6;rw [aW,aW]
 ·have hys:ys=(ys.map a4z).map V.ref:=by
   rw [aT];refine cJ λ i=>?_;rw [aD]
   cases qi:ys[i]? with
   | none=>rfl
   | some y =>
    obtain ⟨a,_,rfl,_⟩:=pr i y qi;rfl
  refine k l H2 (ys.map a4z) (e0.trans e) (by rw [hl2]; rw [<- hys]) (by rw [aA,len,xl]) λ i a h hi hh=>?_;rw [aD] at hi
  cases qi:ys[i]? with
  | none=>rw [qi] at hi; cases hi
  | some y =>
   obtain ⟨a',h',rfl,_,h3,h4⟩:=pr i y qi;rw [qi] at hi;have:a'=a:=aN hi;subst this;rw [hh] at h3
   cases h3;exact h4
end
def M0 (z:Str) (h:i9):List Int:=aJ h.1.length 0++h.2++N3 z
def O4 (z:Str) (h:i9):List Int:=h.1++aJ h.2.length 0++aJ (N3 z).length 0
def D8 (z:Str) (hs:List i9) (h:i9):List (List Int):=hs.map (y6 z)++[O4 z h]
def a0o (hs:List i9):List Int:=aJ hs.length 0++[1]
theorem S6 (k:Nat):(aJ k [V.int 0]).flatten=(aJ k (0:Int)).map V.int:=by
 induction k with
 | zero=>rfl
 | succ k ih=>rw [dH,fE,ih,dH,aV]; rfl
section
variable {P:Program} {w:World} {K:W.Frag} {mg:Str->Option Value} {base:Heap} {f Pt d:Addr} {fd:FuncData} {n:Nat} {C:Addr}
abbrev OfE (z:Str) (hs:List i9) (h:i9) (S:Lp.Bo):Prop:=Lp.Of (hs.length+1) (h.1.length+h.2.length+(N3 z).length) (V5 (D8 z hs h)) (J3 (a0o hs)) (J3 (M0 z h)) S
def a4j (K:W.Frag) (Pt:Addr):Sp:=λ vs H Q _=>∃ (ba:Addr) (hv:V) (xs:List V) (hs:List i9) (h:i9) (z:Str) (far:Int) (kt kg m q:Nat),vs=[.ref ba,hv,.str z]/\Szw z/\SqL K H ba xs/\Bk K H xs hs/\HS K H hv h/\HG far kt kg h/\(∀ h∈hs,HG far kt kg h)/\far<=2 ^ 60 ∧
 hs.length<=16/\kt<=20/\kg<=20/\m=hs.length+1/\q=h.1.length+h.2.length+(N3 z).length/\LT Pt H ∧
 (∀ (S:Lp.Bo) (H':Hp) (t aa wa:Addr),OfE z hs h S->(∀ j,j<q->¬ S.T m j<0)->Sz 4000 m q S->Same1 Pt H H'->LT Pt H'->H' t=some (.tup [.int (S.T m q),.ref aa,.ref wa,.int S.d]) →
  H' aa=some (.lst ((r8 m q S).map V.int))->H' wa=some (.lst ((K8 m q S).map V.int))->Q (.ref t) H') ∧
 ∀ (S:Lp.Bo) (H':Hp) (c:Nat),OfE z hs h S->c<q->S.T m c<0->(∀ i,i<m->¬ 0<S.T i c)->Same1 Pt H H'->LT Pt H'->Q .non H'
theorem scEa:j8 ["houses","house","sizes","takes","gives","signs","earned","paid"] ["houses","house","sizes"] (h8 Y8):=⟨rfl,rfl,rfl,by decide +kernel,rfl,by decide +kernel,by decide +kernel⟩
noncomputable def eaT {cdv:Value} {A:Around} {outer:List Env} {s:Shared} {H:Hp} {E:XK} {f1 f2:Addr} {d1 d2:FuncData} (N:u0 mg) (G:Sg K w.params mg d) (Cg:S4 P w K mg base n "greatest" ["goal","rows","bounds"] (P8 K C Pt) f1 d1) (Ch:S4 P w K mg base n "house_rows" ["houses","sizes"] (N4 K) f2 d2)
  (hr:Room n (A.deeper (cU "greatest_earned" (h8 Y8) s.heap.objs.size f cdv))) :
  { t:TS // PSs (J1 D7 P w K mg base ["houses","house","sizes","takes","gives","signs","earned","paid"] "greatest_earned" (h8 Y8) f cdv A outer s H E).nox (t0 Y8) t } :=
 ⟨_,i7 (K7 (pv 1) (a0r rfl (p8 (m5 (i:=3) scEa.nd rfl (aC rfl)) (p8 (m5 (i:=4) scEa.nd rfl (aC rfl)) D3))))
  (i7 (m4 (i:=5) scEa.nd rfl (aC rfl) (v9 A2 rfl N.list dD (a0 (j5 (a9b K w.params rfl rfl) (K3 (v:=.ref d) rfl G.m rfl) (pv 2) (λ _ _=>rfl)) d0)))
  (p7 (m4 (i:=6) scEa.nd rfl (aC rfl) (j6 x4 (j6 x4 (j6 U3 (r6 (a0 g0 d0)) (j3 j7 rfl N.len bE (a0 (pv 3) d0))) (v9 A2 rfl N.list dD (a0 (pv 4) d0))) (pv 5)))
  (p7 (m4 (i:=7) scEa.nd rfl (aC rfl) (j6 x4 (j6 x4 (v9 A2 rfl N.list dD (a0 (pv 3) d0)) (j6 U3 (r6 (a0 g0 d0)) (j3 j7 rfl N.len bE (a0 (pv 4) d0)))) (j6 U3 (r6 (a0 g0 d0)) (j3 j7 rfl N.len bE (a0 (pv 5) d0)))))
  (j0 (o4 (m9 Cg.ok hr rfl Cg.m Cg.k Cg.b .nil t7 (a0 (pv 6) (a0 (j6 x4 (m9 Ch.ok hr rfl Ch.m Ch.k Ch.b .nil t7 (a0 (pv 0) (a0 (pv 2) d0))) (r6 (a0 (pv 7) d0)))
   (a0 (j6 x4 (j6 U3 (r6 (a0 g0 d0)) (j3 j7 rfl N.len bE (a0 (pv 0) d0))) (r6 (a0 g0 d0))) d0)))))))))⟩
theorem b1R:∀ k,k<20->Lp.bnd (2 ^ 60) (k+1)<2 ^ 4000:=by decide +kernel
theorem Y9 {rows:List (List Int)} {i j:Nat} {row:List Int} (h:rows[i]?=some row):V5 rows i j=row.getD j 0:=by
 have e:rows.getD i []=row:=by rw [aI,h]; rfl
 unfold V5;rw [e]
theorem S8 {l:List Int} {M:Nat} (h:∀ x∈l,x.natAbs<=M) (j:Nat):(l.getD j 0).natAbs<=M:=by
 rw [aI]
 cases e:l[j]? with
 | none=>exact bU _
 | some x=>exact h x (bV e)
theorem a1G (z:Str):∀ x∈N3 z,x.natAbs<=2 ^ 60:=by
 unfold N3
 by_cases h1:z="any"
 ·rw [if_pos h1]; decide
 by_cases h2:z="one"
 ·rw [if_neg h1,if_pos h2]; decide
 by_cases h3:z="less"
 ·rw [if_neg h1,if_neg h2,if_pos h3]; decide
 ·rw [if_neg h1,if_neg h2,if_neg h3]; decide
theorem b4L {z:Str} {hs:List i9} {h:i9} {far:Int} {kt kg:Nat} (hh:HG far kt kg h) (hhs:∀ h∈hs,HG far kt kg h) (hf:far<=2 ^ 60) (q:Nat) :
  ∀ v,Lp.Fits (2 ^ 60) (hs.length+1+1) (Lp.Vv (hs.length+1) q (V5 (D8 z hs h)) (J3 (a0o hs)) (J3 (M0 z h)) v):=by
 have ht:∀ g:i9,HG far kt kg g->∀ x∈g.1,x.natAbs<=2 ^ 60:=λ g hg x hx=>by have:=hg.t x hx; lia
 have hg':∀ g:i9,HG far kt kg g->∀ x∈g.2,x.natAbs<=2 ^ 60:=λ g hg x hx=>by have:=hg.g x hx; lia
 have z0:∀ k:Nat,∀ x∈List.replicate k (0:Int),x.natAbs<=2 ^ 60:=λ k x hx=>by rw [(jY.mp hx).2]; decide
 have rows:∀ r∈D8 z hs h,∀ x∈r,x.natAbs<=2 ^ 60:=λ r hr x hx=>by
  unfold D8 at hr;rcases aS.mp hr with hr | hr
  ·obtain ⟨g,hg,rfl⟩:=bH.mp hr
   unfold y6 at hx;rcases aS.mp hx with hx | hx
   ·rcases aS.mp hx with hx | hx
    ·obtain ⟨y,hy,rfl⟩:=bH.mp hx
     have:=ht g (hhs g hg) y hy;rw [fZ]; exact this
    ·exact hg' g (hhs g hg) x hx
   ·exact a1G z x hx
  ·rw [aY.mp hr] at hx
   unfold O4 at hx;rcases aS.mp hx with hx | hx
   ·rcases aS.mp hx with hx | hx
    ·exact ht h hh x hx
    ·exact z0 _ x hx
   ·exact z0 _ x hx
 have goal:∀ x∈M0 z h,x.natAbs<=2 ^ 60:=λ x hx=>by
  unfold M0 at hx;rcases aS.mp hx with hx | hx
  ·rcases aS.mp hx with hx | hx
   ·exact z0 _ x hx
   ·exact hg' h hh x hx
  ·exact a1G z x hx
 have bnds:∀ x∈a0o hs,x.natAbs<=2 ^ 60:=λ x hx=>by
  unfold a0o at hx;rcases aS.mp hx with hx | hx
  ·exact z0 _ x hx
  ·rw [aY.mp hx]; decide
 intro v i _;unfold Lp.Vv
 split
 ·split
  ·unfold V5
   refine S8 (λ x hx=>?_) v;rw [aI] at hx
   cases e:(D8 z hs h)[i]? with
   | none=>rw [e] at hx; cases hx
   | some r=>rw [e] at hx; exact rows r (bV e) x hx
  ·split
   ·rw [fZ]; exact S8 goal v
   ·exact bU _
 ·split
  ·split <;> decide
  ·split
   ·exact S8 bnds i
   ·exact bU _
end
section
variable {P:Program} {w:World} {K:W.Frag} {mg:Str->Option Value} {base:Heap} {f Pt d:Addr} {fd:FuncData} {n:Nat} {C:Addr}
theorem b1D {H':Hp} {rs:List Addr} {hs:List i9} {z:Str} (hl:rs.length=hs.length) (h:∀ (i:Nat) a g,rs[i]?=some a->hs[i]?=some g->H' a=some (.lst ((y6 z g).map V.int))):RowsL K H' (rs.map V.ref) (hs.map (y6 z)):=by
 induction hs generalizing rs with
 | nil =>
  cases rs with
  | nil=>exact .nil
  | cons a r=>simp at hl
 | cons g hs ih =>
  cases rs with
  | nil=>simp at hl
  | cons a r=>exact .cons ⟨a,rfl,SqL.of (h 0 a g rfl rfl)⟩ (ih (by simpa using hl) λ i b g' h1 h2=>h (i+1) b g' (by simpa using h1) (by simpa using h2))
theorem a7S {f1 f2:Addr} {d1 d2:FuncData} (F:Fun K "greatest_earned" "greatest_earned" Y8 f fd) (N:u0 mg) (G:Sg K w.params mg d) (Cg:S4 P w K mg base n "greatest" ["goal","rows","bounds"] (P8 K C Pt) f1 d1) (Ch:S4 P w K mg base n "house_rows" ["houses","sizes"] (N4 K) f2 d2) :
  FnOk P w K mg base D7 (n+1) f fd ["houses","house","sizes"] (a4j K Pt):=by
 refine F.ok scEa (λ vs H Q E h=>?_) (λ cdv A outer s H vs Q E hr h=>?_)
 ·obtain ⟨ba,hv,xs,hs,h,z,far,kt,kg,m,q,rfl,_⟩:=h
  rfl
 obtain ⟨ba,hv,xs,hs,h,z,far,kt,kg,m,q,rfl,hz,hB,hBk,hHS,hh,hhs,hfar,h16,hkt,hkg,rfl,rfl,L,kT,kN⟩:=h;refine ⟨_,(eaT N G Cg Ch hr).2,?_⟩;obtain ⟨ha,ta,ga,rfl,p1,p2,p3⟩:=id hHS;obtain ⟨t,ht,hT⟩:=G.tt z hz;have xl:xs.length=hs.length:=Paired.length hBk;have sg:=a1M z;have s1k:=j9 (show (1000:Nat)<=1000 from aE _);have l1:=hh.lt;have l2:=hh.lg;refine ⟨_,rfl,ha,_,rfl,p1,rfl,_,_,rfl,_,_,rfl,rfl,?_⟩;refine ⟨_,rfl,d,z,t,rfl,rfl,G.k,ht,t,_,rfl,.inr (hT _),λ sl hsl=>?_⟩;have e0:=Same.new hsl (.lst ((N3 z).map V.int));have hS0:upd H sl (.lst ((N3 z).map V.int)) sl=some (.lst ((N3 z).map V.int)):=upd_same;refine ⟨λ σ' H1=>∃ ea:Addr,σ'=[some (.ref ba),some (.ref ha),some (.str z),some (.ref ta),some (.ref ga),some (.ref sl),some (.ref ea),none]/\Same (upd H sl (.lst ((N3 z).map V.int))) H1/\H1 ea=some (.lst ((M0 z h).map V.int)),?_,?_⟩
 ·refine ⟨(by show 1<=sizeLine; decide),λ a1 h1=>?_⟩
  have s1:=Same.new h1 (.lst [.int 0]);refine ⟨_,rfl,ta,_,rfl,.inr (s1.tseq (e0.tseq p2)),a1,_,_,rfl,rfl,upd_same,by lia,by rw [aA,l1]; lia,by rw [aA,l1,bD]; simp; lia,λ a2 h2=>?_⟩;rw [aA,bD,S6];have s2:=s1.trans (Same.new h2 (.lst ((aJ h.1.length (0:Int)).map V.int)));refine ⟨_,rfl,ga,_,rfl,.inr (s2.tseq (e0.tseq p3)),λ a3 h3=>?_⟩;have s3:=s2.trans (Same.new h3 (.lst (h.2.map V.int)));have n23:a2≠a3:=d9 upd_same h3;refine ⟨a2,a3,_,_,rfl,rfl,(by rw [c9 n23]; exact upd_same),upd_same,?_,λ a4 h4=>?_⟩
  ·rw [aA,aA,bK,l1,l2]; lia
  have s4:=s3.trans (Same.new h4 (.lst ((aJ h.1.length (0:Int)).map V.int++h.2.map V.int)));refine ⟨_,rfl,a4,sl,_,_,rfl,rfl,upd_same,s4 _ _ hS0,?_,λ a5 h5=>?_⟩
  ·rw [aM,aA,aA,aA,bK,l1,l2]; lia
  refine ⟨a5,rfl,s4.trans (Same.new h5 _),?_⟩;rw [upd_same];unfold M0;rw [aW,aW]
 intro σ1 H1 hM_; refine C6 λ G_ hG_=>?_; obtain ⟨ea,rfl,e1,he⟩:=hM_; subst hG_;have e01:=e0.trans e1;refine ⟨λ σ' H2=>∃ pa:Addr,σ'=[some (.ref ba),some (.ref ha),some (.str z),some (.ref ta),some (.ref ga),some (.ref sl),some (.ref ea),some (.ref pa)]/\Same H1 H2/\H2 pa=some (.lst ((O4 z h).map V.int)),?_,?_⟩
 ·refine ⟨_,rfl,ta,_,rfl,.inr (e01.tseq p2),λ a1 h1=>?_⟩
  have s1:=Same.new h1 (.lst (h.1.map V.int));refine ⟨(by show 1<=sizeLine; decide),λ a2 h2=>?_⟩;have s2:=s1.trans (Same.new h2 (.lst [.int 0]));have n12:a1≠a2:=d9 upd_same h2;refine ⟨_,rfl,ga,_,rfl,.inr (s2.tseq (e01.tseq p3)),a2,_,_,rfl,rfl,upd_same,by lia,by rw [aA,l2]; lia,by rw [aA,l2,bD]; simp; lia,λ a3 h3=>?_⟩;rw [aA,bD,S6];have s3:=s2.trans (Same.new h3 (.lst ((aJ h.2.length (0:Int)).map V.int)));have c1:=(Same.new h3 (.lst ((aJ h.2.length (0:Int)).map V.int))) a1 _ ((Same.new h2 (.lst [.int 0])) a1 _ upd_same);refine ⟨a1,a3,_,_,rfl,rfl,c1,upd_same,?_,λ a4 h4=>?_⟩
  ·rw [aA,aA,bK,l1,l2]; lia
  have s4:=s3.trans (Same.new h4 (.lst (h.1.map V.int++(aJ h.2.length (0:Int)).map V.int)));refine ⟨(by show 1<=sizeLine; decide),λ a5 h5=>?_⟩;have s5:=s4.trans (Same.new h5 (.lst [.int 0]));have lz:((N3 z).map V.int).length=(N3 z).length:=aA _;refine ⟨_,rfl,sl,_,rfl,.inl (SqL.of (s5 _ _ (e1 _ _ hS0))),a5,_,_,rfl,rfl,upd_same,by lia,by rw [lz]; lia,by rw [lz,bD]; simp; lia,λ a6 h6=>?_⟩;rw [lz,bD,S6];have c4:=(Same.new h6 (.lst ((aJ (N3 z).length (0:Int)).map V.int))) a4 _ ((Same.new h5 (.lst [.int 0])) a4 _ upd_same);refine ⟨a4,a6,_,_,rfl,rfl,c4,upd_same,?_,λ a7 h7=>?_⟩
  ·rw [aM,aA,aA,aA,bK,bK,l1,l2]; lia
  refine ⟨a7,rfl,(s5.trans (Same.new h6 _)).trans (Same.new h7 _),?_⟩;rw [upd_same];unfold O4;rw [aW,aW]
 intro σ2 H2 hM_; refine C6 λ G_ hG_=>?_; obtain ⟨pa,rfl,e2,hp⟩:=hM_; subst hG_;have e02:=e01.trans e2;refine ⟨_,rfl,_,rfl,_,rfl,?_⟩;refine ⟨ba,xs,hs,z,kt,kg,rfl,hz,e02.seq hB,hBk.same e02,by lia,by lia,by lia,λ g hg=>⟨(hhs g hg).lt,(hhs g hg).lg⟩,λ r H3 rs e3 hr3 lr hrs=>?_⟩;refine ⟨_,rfl,(by show 1<=sizeLine; decide),λ a1 h1=>?_⟩;have s1:=e3.trans (Same.new h1 (.lst [.ref pa]));have nr1:r≠a1:=d9 hr3 h1;refine ⟨r,a1,_,_,rfl,rfl,(by rw [c9 nr1]; exact hr3),upd_same,?_,λ a2 h2=>?_⟩
 ·rw [aA,lr]; simp; lia
 have t2:=(Same.new h1 (.lst [.ref pa])).trans (Same.new h2 (.lst (rs.map V.ref++[.ref pa])));have s2:=s1.trans (Same.new h2 (.lst (rs.map V.ref++[.ref pa])));refine ⟨(by show 1<=sizeLine; decide),λ a3 h3=>?_⟩;have t3:=t2.trans (Same.new h3 (.lst [.int 0]));have s3:=s2.trans (Same.new h3 (.lst [.int 0]));refine ⟨_,rfl,ba,_,rfl,.inl ((e02.trans s3).seq hB),a3,_,_,rfl,rfl,upd_same,by lia,by rw [xl]; lia,by rw [xl,bD]; simp; lia,λ a4 h4=>?_⟩;rw [xl,bD,S6];have t4:=t3.trans (Same.new h4 (.lst ((aJ hs.length (0:Int)).map V.int)));have s4:=s3.trans (Same.new h4 (.lst ((aJ hs.length (0:Int)).map V.int)));refine ⟨(by show 1<=sizeLine; decide),λ a5 h5=>?_⟩;have t5:=t4.trans (Same.new h5 (.lst [.int 1]));have s5:=s4.trans (Same.new h5 (.lst [.int 1]));have n45:a4≠a5:=d9 upd_same h5;refine ⟨a4,a5,_,_,rfl,rfl,(by rw [c9 n45]; exact upd_same),upd_same,?_,λ a6 h6=>?_⟩
 ·rw [aA,bK]; simp; lia
 have t6:=t5.trans (Same.new h6 (.lst ((aJ hs.length (0:Int)).map V.int++[.int 1])));have s6:=s5.trans (Same.new h6 (.lst ((aJ hs.length (0:Int)).map V.int++[.int 1])));have g3:∀ b o,upd (upd H3 a1 (.lst [.ref pa])) a2 (.lst (rs.map V.ref++[.ref pa])) b=some o->upd (upd (upd (upd (upd (upd H3 a1 (.lst [.ref pa])) a2 (.lst (rs.map V.ref++[.ref pa]))) a3 (.lst [.int 0])) a4 (.lst ((aJ hs.length (0:Int)).map V.int))) a5 (.lst [.int 1])) a6 (.lst ((aJ hs.length (0:Int)).map V.int++[.int 1])) b=some o :=
  (((Same.new h3 (.lst [.int 0])).trans (Same.new h4 (.lst ((aJ hs.length (0:Int)).map V.int)))).trans (Same.new h5 (.lst [.int 1]))).trans (Same.new h6 (.lst ((aJ hs.length (0:Int)).map V.int++[.int 1])))
 have eb:(aJ hs.length (0:Int)).map V.int++[.int 1]=(a0o hs).map V.int:=by unfold a0o; rw [aW]; rfl
 have hA:Same H (upd (upd (upd (upd (upd (upd H3 a1 (.lst [.ref pa])) a2 (.lst (rs.map V.ref++[.ref pa]))) a3 (.lst [.int 0])) a4 (.lst ((aJ hs.length (0:Int)).map V.int))) a5 (.lst [.int 1])) a6 (.lst ((aJ hs.length (0:Int)).map V.int++[.int 1]))):=e02.trans s6;refine ⟨ea,a2,a6,M0 z h,rs.map V.ref++[.ref pa],D8 z hs h,a0o hs,hs.length+1,h.1.length+h.2.length+(N3 z).length,2 ^ 60,rfl,SqL.of (s6 _ _ (e2 _ _ he)),SqL.of (g3 _ _ upd_same),?_,?_,?_,?_,?_,?_,by lia,by lia,?_,b4L hh hhs hfar _,b1R _ (by lia),L.same hA,λ S H' t' aa wa O hn sz e' L' g1 g2 g4=>kT S H' t' aa wa O hn sz (λ b o hb q'=>e' b o hb (hA b o q')) L' g1 g2 g4,λ S H' c O hc hneg hno e' L'=>kN S H' c O hc hneg hno (λ b o hb q'=>e' b o hb (hA b o q')) L'⟩
 ·unfold D8
  refine Paired.app ((b1D (K:=K) lr hrs).same t6) (.cons ⟨pa,rfl,SqL.of (s6 _ _ hp)⟩ .nil)
 ·rw [<- eb]; exact SqL.of upd_same
 ·unfold D8; simp
 ·unfold a0o; simp
 ·unfold M0; simp [jZ]
 ·intro r hr
  unfold D8 at hr;rcases aS.mp hr with hr | hr
  ·obtain ⟨g,hg,rfl⟩:=bH.mp hr
   unfold y6;rw [aM,aM,aA,(hhs g hg).lt,(hhs g hg).lg,l1,l2]
  ·rw [aY.mp hr]
   unfold O4;simp;lia
 ·intro i hi
  unfold J3 a0o;rw [aI]
  by_cases h':i<hs.length
  ·rw [bQ (by simpa using h'),dG,if_pos h']; exact cC _
  ·rw [cA (by simp; lia)]
   have:i - (aJ hs.length (0:Int)).length=0:=by simp; lia
   rw [this]; decide
end
section
variable {P:Program} {w:World} {K:W.Frag} {mg:Str->Option Value} {base:Heap} {f Pt d:Addr} {fd:FuncData} {n:Nat} {C:Addr}
theorem b5f:j8 ["book","number","sizes"] ["book","number","sizes"] (h8 a5J):=⟨rfl,rfl,rfl,by decide +kernel,rfl,by decide +kernel,by decide +kernel⟩
theorem scHa:j8 ["houses","house","sizes","found","top","amounts","weights","bottom"] ["houses","house","sizes"] (h8 b0c):=⟨rfl,rfl,rfl,by decide +kernel,rfl,by decide +kernel,by decide +kernel⟩
end
end Rim
namespace Lp
section
variable {m q:Nat} {A:Nat->Nat->Int} {b c:Nat->Int} {S:Bo}
theorem Of.way (O:Of m q A b c S) {cc:Nat} (hc:cc<q) (neg:S.T m cc<0) (no:∀ i,i<m->¬ 0<S.T i cc):∃ y:Nat->Int,(∀ j,j<q->0<=y j)/\(∀ i,i<m->sumTo (λ j=>A i j*y j) q<=0)/\0<sumTo (λ j=>c j*y j) q:=by
 have K0:=(O.k _).mp (O.w.ray_ker (c:=cc) (by lia));obtain ⟨rows,goal⟩:=ker0.mp K0;have zc:ray m S cc (q+m+1)=0:=by
  rw [<- O.w.oq];exact O.w.ray_out (by lia) (by lia) (by lia)
 have zg:ray m S cc (q+m) = - S.T m cc:=by
  rw [<- O.w.im];exact O.w.ray_in (by lia) (by lia)
 have nn:∀ v,v<q+m->0<=ray m S cc v:=λ v hv=>by
  rcases O.w.all v hv with ⟨i,hi,e⟩ | ⟨j,hj,e⟩
  ·rw [<- e,O.w.ray_in (by lia) (by lia)]
   have:=no i hi;lia
  ·rw [<- e]
   by_cases hjc:j=cc
   ·subst hjc
    rw [Wf.ray_c];exact bG O.w.pos
   ·rw [O.w.ray_out (by lia) (by lia) hjc]; exact cC _
 refine ⟨ray m S cc,λ j hj=>nn j (by lia),λ i hi=>?_,by rw [<- goal,zg]; lia⟩;have r0:=rows i hi;rw [zc,bB,dN] at r0;have n0:=nn (q+i) (by lia);lia
theorem Of.bounded (O:Of m q A b c S) {i0 l cc:Nat} (h0:i0<m) (hl:l<m) (hA:∀ j,j<q->A i0 j+A l j=c j) (hc:cc<q) (neg:S.T m cc<0) (no:∀ i,i<m->¬ 0<S.T i cc):False:=by
 obtain ⟨y,_,rows,goal⟩:=O.way hc neg no;have r0:=rows i0 h0;have rl:=rows l hl;have e:sumTo (λ j=>c j*y j) q=sumTo (λ j=>A i0 j*y j) q+sumTo (λ j=>A l j*y j) q:=by
  rw [<- R3];refine sum_congr λ j hj=>?_;rw [<- hA j hj,cQ]
 lia
end
end Lp
namespace Rim
open PySem L2 Fr
section
variable {P:Program} {w:World} {K:W.Frag} {mg:Str->Option Value} {base:Heap} {f Pt d:Addr} {fd:FuncData} {n:Nat} {C:Addr}
end
section
variable {P:Program} {w:World} {K:W.Frag} {mg:Str->Option Value} {base:Heap} {f Pt d:Addr} {fd:FuncData} {n:Nat} {C:Addr}
theorem b0t (xs:List V) (a b:Nat) (h:a<=b) (hb:b<=xs.length):A7 xs (some (a:Int)) (some (b:Int))=(xs.drop a).take (b - a):=by
 unfold A7;rw [HT.sIx_nat,HT.sIx_nat,gL hb,gL (by lia)]
end
theorem SqT.same1 {K:W.Frag} {P:Addr} {pos:Pos} {qual:Str} {H H':Hp} {a:Addr} {xs:List V} (T:LamTab P pos qual H) (e:Same1 P H H') (h:SqT K H a xs):SqT K H' a xs:=by
 have ne:∀ o,H a=some o->(∀ ps,o≠.tbl ps)->a≠P:=λ o q n z=>by
  subst z;rcases T with t | ⟨c,t,_⟩
  ·rw [q] at t; exact n _ (aN t)
  ·rw [q] at t; exact n _ (aN t)
 rcases h with (h | ⟨o,h⟩) | h
 ·exact .inl (.inl (e _ _ (ne _ h λ _=>nofun) h))
 ·exact .inl (.inr ⟨o,e _ _ (ne _ h λ _=>nofun) h⟩)
 ·exact .inr h
theorem HS.same1 {K:W.Frag} {Pt:Addr} {H H':Hp} {v:V} {h:i9} (T:LT Pt H) (e:Same1 Pt H H') (x:HS K H v h):HS K H' v h:=by
 obtain ⟨a,t,g,h0,h1,h2,h3⟩:=x;exact ⟨a,t,g,h0,SqT.same1 T e h1,SqT.same1 T e h2,SqT.same1 T e h3⟩
theorem Bk.same1 {K:W.Frag} {Pt:Addr} {H H':Hp} {vs:List V} {hs:List i9} (T:LT Pt H) (e:Same1 Pt H H') (x:Bk K H vs hs):Bk K H' vs hs:=Paired.imp' (λ _ _ r=>HS.same1 T e r) x
theorem D4 {l r:List Int} (j:Nat):(l++r).getD j 0=if j<l.length then l.getD j 0 else r.getD (j - l.length) 0:=by
 rw [aI,aI,aI]
 by_cases h:j<l.length
 ·rw [if_pos h,bQ h]
 ·rw [if_neg h,cA (by lia)]
theorem S7 (k j:Nat):(aJ k (0:Int)).getD j 0=0:=by
 rw [aI,dG]
 split <;> rfl
theorem a4T (l:List Int) (j:Nat):(l.map λ x=>-x).getD j 0 = - l.getD j 0:=by
 rw [aI,aI,aD]
 cases l[j]? <;> rfl
theorem a8j {z:Str} {hs:List i9} {h:i9} {i:Nat} (hi:hs[i]?=some h) (j:Nat):V5 (D8 z hs h) i j+V5 (D8 z hs h) hs.length j=J3 (M0 z h) j:=by
 have hil:i<hs.length:=(bN.mp hi).1;have e1:(D8 z hs h)[i]?=some (y6 z h):=by
  unfold D8;rw [bQ (by rw [aA]; exact hil),aD,hi]; rfl
 have e2:(D8 z hs h)[hs.length]?=some (O4 z h):=by
  unfold D8;rw [cA (by rw [aA]; exact aE _),aA,fM]; rfl
 rw [Y9 e1,Y9 e2];unfold J3 y6 O4 M0;simp only [D4,S7,a4T,aM,aA,bK]
 by_cases h1:j<h.1.length
 ·rw [if_pos (by lia),if_pos h1,if_pos (by lia),if_pos h1,if_pos (by lia),if_pos h1]; lia
 ·by_cases h2:j<h.1.length+h.2.length
  ·rw [if_pos h2,if_neg h1,if_pos h2,if_neg h1,if_pos h2,if_neg h1,dN]
  ·rw [if_neg h2,if_neg h2,if_neg h2,dN]
section
variable {P:Program} {w:World} {K:W.Frag} {mg:Str->Option Value} {base:Heap} {f Pt d CN:Addr} {fd:FuncData} {n:Nat} {C:Addr}
structure a0H (P:Program) (w:World) (K:W.Frag) (mg:Str->Option Value) (base:Heap) (n:Nat) (x:Str) (ps:List Str) (sp:Sp) (fa:Addr) (d:FuncData):Prop where
 ok:FnOk P w K mg base (V8 P w) n fa d ps sp
 b:Binds K d ps []
 k:W.keepIn K (.ref fa)=true
 m:mg x=some (.ref fa)
abbrev mE (hs:List i9):Nat:=hs.length+1
abbrev qE (z:Str) (h:i9):Nat:=h.1.length+h.2.length+(N3 z).length
structure U6 (K:W.Frag) (H:Hp) (ba:Addr) (xs:List V) (hs:List i9) (far:Int) (kt kg:Nat):Prop where
 l:SqL K H ba xs
 b:Bk K H xs hs
 g:∀ h∈hs,HG far kt kg h
 far:far<=2 ^ 60
 few:hs.length<=16
 t:kt<=20
 k:kg<=20
def Best (z:Str) (hs:List i9) (h:i9) (S:Lp.Bo):Prop:=OfE z hs h S/\(∀ j,j<qE z h->¬ S.T (mE hs) j<0)/\Sz 4000 (mE hs) (qE z h) S
def Q9 (K:W.Frag) (CN Pt:Addr):Sp:=λ vs H Q E=>∃ (ba:Addr) (xs:List V) (hs:List i9) (number:Int) (z:Str) (far:Int) (kt kg:Nat),vs=[.ref ba,.int number,.str z]/\Szw z/\U6 K H ba xs hs far kt kg/\number.natAbs.log2<1920/\LT Pt H ∧
 (∀ (i:Nat) (h:i9) (S:Lp.Bo) (H':Hp) (u:V),number=(i:Int)->hs[i]?=some h->Best z hs h S->Same1 Pt H H'->LT Pt H'->FrT H' u (low (S.T (mE hs) (qE z h)) S.d)->Q u H')/\(¬ V7 xs.length number->E (.ref CN) none H)
theorem a6U {z:Str} {hs:List i9} {h:i9} {S:Lp.Bo} (B:Best z hs h S):0<S.d/\S.d<2 ^ 8000:=by
 refine ⟨B.1.w.pos,?_⟩;have h1:S.d.natAbs<2 ^ 4000:=B.2.2.2;have h2:(2:Nat) ^ 4000<=2 ^ 8000:=gO (by decide) (by decide);have h3:S.d=(S.d.natAbs:Int):=by have:=B.1.w.pos; lia
 rw [h3]
 exact_mod_cast aO h1 h2
theorem b0p {m q:Nat} {A:Nat->Nat->Int} {b c:Nat->Int} {S:Lp.Bo} (O:Lp.Of m q A b c S) (sz:Sz 4000 m q S) {v:Nat} (hv:v<q):Big 4000 (Lp.valIn m S q v):=by
 have hv':v<q+m:=by lia
 rcases O.w.all v hv' with ⟨i,hi,e⟩ | ⟨j,hj,e⟩
 ·have:Lp.valIn m S q v=S.T i q:=by
   unfold Lp.valIn;rw [Lp.sum_one hi λ k hk hn=>if_neg λ z=>hn (O.w.ii k i hk hi (z.trans e.symm)),if_pos e]
  rw [this];exact sz.1 i q (by lia) (by lia)
 ·have:Lp.valIn m S q v=0:=Lp.sum_zero λ k hk=>if_neg λ z=>O.w.io k j hk hj (z.trans e.symm)
  rw [this]
  show (0:Int).natAbs<2 ^ 4000
  exact iI (by decide)
def a9V (K:W.Frag) (Pt:Addr):Sp:=λ vs H Q _=>∃ (ba:Addr) (hv:V) (xs:List V) (hs:List i9) (h:i9) (z:Str) (far:Int) (kt kg:Nat),vs=[.ref ba,hv,.str z]/\Szw z/\U6 K H ba xs hs far kt kg/\HS K H hv h/\HG far kt kg h/\LT Pt H ∧
 (∀ (S:Lp.Bo) (H':Hp) (u:V),Best z hs h S->Same1 Pt H H'->LT Pt H'->FrT H' u (low (S.T (mE hs) (qE z h)) S.d)->Q u H') ∧
 ∀ (S:Lp.Bo) (H':Hp) (c:Nat),OfE z hs h S->c<qE z h->S.T (mE hs) c<0->(∀ i,i<mE hs->¬ 0<S.T i c)->Same1 Pt H H'->LT Pt H'->Q .non H'
theorem b0R {f2 f3:Addr} {d2 d3:FuncData} (F:Fun K "held_against" "held_against" b0c f fd) (Ce:S4 P w K mg base n "greatest_earned" ["houses","house","sizes"] (a4j K Pt) f2 d2)
  (Cl:Cal P w K mg base n "lowest" ["top","bottom"] b1Z f3 d3):FnOk P w K mg base D7 (n+1) f fd ["houses","house","sizes"] (a9V K Pt):=by
 refine F.ok scHa (λ vs H Q E h=>?_) (λ cdv A outer s H vs Q E hr h=>?_)
 ·obtain ⟨ba,hv,xs,hs,h,z,far,kt,kg,rfl,_⟩:=h
  rfl
 obtain ⟨ba,hv,xs,hs,h,z,far,kt,kg,rfl,hz,B,hH,gh,L,kG,kN⟩:=h;refine ⟨_,i7 (m4 (i:=3) scHa.nd rfl (aC rfl) (m9 Ce.ok hr rfl Ce.m Ce.k Ce.b .nil t7 (a0 (pv 0) (a0 (pv 1) (a0 (pv 2) d0)))))
  (i7 (w6 (m6 a5L (pv 3) T8 (p6 _)) (j0 (o4 T8)) r9)
  (i7 (K7 (pv 3) (a0r rfl (p8 (m5 (i:=4) scHa.nd rfl (aC rfl)) (p8 (m5 (i:=5) scHa.nd rfl (aC rfl)) (p8 (m5 (i:=6) scHa.nd rfl (aC rfl)) (p8 (m5 (i:=7) scHa.nd rfl (aC rfl)) D3))))))
  (j0 (o4 (m9 Cl.ok hr rfl Cl.m Cl.k Cl.b .nil t7 (a0 (pv 4) (a0 (pv 7) d0))))))),?_⟩
 refine ⟨_,rfl,_,rfl,_,rfl,ba,hv,xs,hs,h,z,far,kt,kg,mE hs,qE z h,rfl,hz,B.l,B.b,hH,gh,B.g,B.far,B.few,B.t,B.k,rfl,rfl,L,λ S H' t aa wa O hn sz e' L' g1 g2 g3=>?_,λ S H' c O hc hneg hno e' L'=>?_⟩
 ·have Bs:Best z hs h S:=⟨O,hn,sz⟩
  obtain ⟨b1,b2⟩:=a6U Bs;refine ⟨_,rfl,rfl,_,rfl,D6 ?_⟩;refine ⟨_,rfl,t,_,rfl,SqT.of g1,rfl,_,_,rfl,_,_,rfl,_,_,rfl,_,_,rfl,rfl,?_⟩;exact ⟨_,rfl,_,rfl,_,_,rfl,b1,b2,λ u H2 e2 hu=>kG S H2 u Bs (λ b o hb q'=>e2 _ _ (e' b o hb q')) (L'.same e2) hu⟩
 ·refine ⟨_,rfl,rfl,_,rfl,O1 ?_⟩
  exact kN S H' c O hc hneg hno e' L'
theorem a8w {f1 f2:Addr} {d1 d2:FuncData} (F:Fun K "share" "share" a5J f fd) (Ch:a0H P w K mg base n "house_of" ["book","number"] (a6F K CN) f1 d1) (Ce:S4 P w K mg base n "held_against" ["houses","house","sizes"] (a9V K Pt) f2 d2):FnOk P w K mg base (V8 P w) (n+1) f fd ["book","number","sizes"] (Q9 K CN Pt):=by
 refine F.ok1 b5f (λ vs H Q E h=>?_) (λ cdv A outer s H vs Q E hr h=>?_)
 ·obtain ⟨ba,xs,hs,number,z,far,kt,kg,rfl,_⟩:=h
  rfl
 obtain ⟨ba,xs,hs,number,z,far,kt,kg,rfl,hz,B,lm,L,kG,kE⟩:=h;refine ⟨_,j0 (o4 (m9 Ce.ok hr rfl Ce.m Ce.k Ce.b .nil t7 (a0 (pv 0) (a0 (m9 Ch.ok hr rfl Ch.m Ch.k Ch.b .nil a0C (a0 (pv 0) (a0 (pv 1) d0))) (a0 (pv 2) d0))))),?_⟩;refine ⟨_,rfl,_,rfl,_,rfl,ba,xs,number,rfl,B.l,lm,λ i hv hi hx=>?_,kE⟩;obtain ⟨h,hh,hH⟩:=Paired.at B.b hx;have gh:=B.g h (bV hh);refine ⟨_,rfl,ba,hv,xs,hs,h,z,far,kt,kg,rfl,hz,B,hH,gh,L,λ S H' u Bs e' L' hu=>kG i h S H' u hi hh Bs e' L' hu,λ S H' c O hc hneg hno e' L'=>(O.bounded (i0:=i) (l:=hs.length) (by have:=(bN.mp hh).1; lia) (by lia) (λ j _=>a8j hh j) hc hneg hno).elim⟩
end
end Rim
namespace L2
open PySem
theorem Big.mono {n m:Nat} {i:Int} (h:Big n i) (hn:n<=m):Big m i:=Rim.Big.mono h hn
theorem Big.mul {n m:Nat} {i j:Int} (h:Big n i) (k:Big m j):Big (n+m) (i*j):=Rim.Big.mul h k
end L2
namespace Fr
end Fr
namespace Rim
open PySem L2 Fr
section
variable {P:Program} {w:World} {K:W.Frag} {mg:Str->Option Value} {base:Heap} {f:Addr} {fd:FuncData} {n:Nat}
end
section
variable {P:Program} {w:World} {K:W.Frag} {mg:Str->Option Value} {base:Heap} {f:Addr} {fd:FuncData} {n:Nat}
def a3W (z:Str) (s D:Int):Prop:=((z="one"\/z="less")->s<=D)/\((z="one"\/z="more")->D<=s)
theorem b0q:∀ {ws:List Int} {m:Nat},(∀ x∈ws,Big m x)->ws.length<=200->Big (m+200) ws.sum:=λ {ws m} h hl=>by
 have key:∀ l:List Int,(∀ x∈l,Big m x)->l.sum.natAbs<=l.length*2 ^ m:=λ l=>by
  induction l with
  | nil=>intro _; exact bU _
  | cons x r ih =>
   intro h;have h1:x.natAbs<2 ^ m:=h x cF;have h2:=ih λ y hy=>h y (bM _ hy);have h3:=Int.natAbs_add_le x r.sum;rw [bX,cV,gE];lia
 have h1:=key ws h;have h2:ws.length*2 ^ m<=200*2 ^ m:=iJ _ hl;have h3:200*2 ^ m<2 ^ (m+200):=by
  rw [jW,jA];exact Nat.mul_lt_mul_of_pos_left (by decide) (iI (by decide))
 exact cI (aZ h1 h2) h3
end
def col (rows:List (List Int)) (i:Nat):List Int:=rows.map λ r=>r.getD i 0
section
variable {P:Program} {w:World} {K:W.Frag} {mg:Str->Option Value} {base:Heap} {f g:Addr} {fd gd:FuncData} {n:Nat}
def X1 (j:Nat) (h:i9):List Int:=if j=0 then h.1 else h.2
end
end Rim
namespace L2
open PySem PySem.Spec PyProof.Rows
section
variable {xs ys:List V} {K:W.Frag} {l1 l2:Addr} {σ:St}
end
end L2
namespace Rim
open PySem L2 Fr
section
variable {P:Program} {w:World} {K:W.Frag} {mg:Str->Option Value} {base:Heap} {f:Addr} {fd:FuncData} {n:Nat}
def N7 (hs:List i9) (ws:List Int) (j i:Nat):Int:=(cD (·*·) (col (hs.map (X1 j)) i) ws).sum
end
theorem a8e {a b:Nat}:∀ {ns ws:List Int},(∀ x∈ns,Big a x)->(∀ x∈ws,Big b x)->∀ x∈List.zipWith (·*·) ns ws,Big (a+b) x
 | [],_,_,_,x,hx=>by simp at hx
 | _::_,[],_,_,x,hx=>by simp at hx
 | n::ns,w::ws,h1,h2,x,hx=>by
  rw [cG] at hx;rcases aH.mp hx with e | e
  ·rw [e]; exact (h1 n cF).mul (h2 w cF)
  ·exact a8e (λ y hy=>h1 y (bM _ hy)) (λ y hy=>h2 y (bM _ hy)) x e
section
variable {P:Program} {w:World} {K:W.Frag} {mg:Str->Option Value} {base:Heap} {f:Addr} {fd:FuncData} {n:Nat}
end
theorem W4 {α:Type} (a b c:α):N5 [a,b,c] 0=some a:=v7 (j:=0) rfl
theorem a3q {α:Type} (a b c:α):N5 [a,b,c] 1=some b:=v7 (j:=1) rfl
theorem a8g {α:Type} (a b c:α):N5 [a,b,c] 2=some c:=v7 (j:=2) rfl
theorem a3F:∀ {xs ys:List Int} {a b:Int},xs.length=ys.length->(cD (·*·) (xs++[a]) (ys++[b])).sum=(cD (·*·) xs ys).sum+a*b
 | [],[],a,b,_=>by simp
 | x::xs,y::ys,a,b,h=>by
  rw [bZ,bZ,cG,cG,bX,bX,a3F (by simpa using h),Int.add_assoc]
section
variable {P:Program} {w:World} {K:W.Frag} {mg:Str->Option Value} {base:Heap} {f:Addr} {fd:FuncData} {n:Nat}
structure PrN (pt pg:List Int) (ps D:Int) (kt kg:Nat):Prop where
 lt:pt.length=kt
 lg:pg.length=kg
 bt:∀ x∈pt,0<=x/\Big 5000 x
 bg:∀ x∈pg,0<=x/\Big 5000 x
 bs:Big 5000 ps
 d:0<D
 d2:D<2 ^ 4000
def O9 (h:i9) (pg:List Int) (ps:Int):Int:=(cD (·*·) h.2 pg).sum+ps
def pay (h:i9) (pt:List Int):Int:=(cD (·*·) h.1 pt).sum
end
section
variable {P:Program} {w:World} {K:W.Frag} {mg:Str->Option Value} {base:Heap} {f:Addr} {fd:FuncData} {n:Nat}
def a2B (z:Str) (ps:Int):Prop:=((z="any"\/z="less")->ps<=0)/\((z="any"\/z="more")->0<=ps)
theorem b2K:PyData.eqv (.list []) (.list [])=true:=by rw [PyData.eqv,PyData.eqvAll]
end
mutual
theorem W5:∀ d:PyData,d.canLay0=true->PyData.eqv d d=true
 | .none,_=>by rw [PyData.eqv]
 | .bool b,_=>by rw [PyData.eqv]; simp
 | .int i,_=>by rw [PyData.eqv]; simp
 | .str x,_=>by rw [PyData.eqv]; simp
 | .list xs,h=>by rw [PyData.eqv]; exact Y0 xs (by rw [PyData.canLay0] at h; exact h)
 | .tuple xs,h=>by rw [PyData.eqv]; exact Y0 xs (by rw [PyData.canLay0] at h; exact h)
 | .dict kvs,h=>by rw [PyData.canLay0] at h; cases h
theorem Y0:∀ ds:List PyData,PyData.canLayAll0 ds=true->PyData.eqvAll ds ds=true
 | [],_=>by rw [PyData.eqvAll]
 | d::r,h=>by
  rw [PyData.canLayAll0,dZ] at h;rw [PyData.eqvAll,W5 d h.1,Y0 r h.2]; rfl
end
def dF (x:Q2):PyData:=.tuple [.int x.1,.int x.2]
theorem FrV.dp {K:W.Frag} {H:Hp} {v:V} {x:Q2} (h:FrV K H v x):Dp K H v (dF x):=by
 obtain ⟨a,rfl,q⟩:=h;exact .tup q (.cons (.int _) (.cons (.int _) .nil))
theorem a1u (x:Q2):(dF x).canLay0=true:=by
 unfold dF;rw [PyData.canLay0,PyData.canLayAll0,PyData.canLay0,PyData.canLayAll0,PyData.canLay0,PyData.canLayAll0]; rfl
theorem b1P (x:Q2):(dF x).depth<=60:=by
 unfold dF;simp [PyData.depth,PyData.depthAll]
section
variable {P:Program} {w:World} {K:W.Frag} {mg:Str->Option Value} {base:Heap} {f:Addr} {fd:FuncData} {n:Nat}
end
section
variable {P:Program} {w:World} {K:W.Frag} {mg:Str->Option Value} {base:Heap} {f:Addr} {fd:FuncData} {n:Nat}
end
end Rim
namespace Lp
section
variable {m q:Nat} {A:Nat->Nat->Int} {b c:Nat->Int} {S S':Bo}
theorem a1Y {g h:Nat->Int}:∀ {n:Nat},(∀ k,k<n->g k<=h k)->sumTo g n<=sumTo h n
 | 0,_=>cC _
 | n+1,e=>Int.add_le_add (a1Y λ k hk=>e k (by lia)) (e n (by lia))
theorem a6W {g h:Nat->Int}:∀ n:Nat,sumTo (λ k=>g k - h k) n=sumTo g n - sumTo h n
 | 0=>rfl
 | n+1=>by
  show sumTo (λ k=>g k - h k) n+(g n - h n)=(sumTo g n+g n) - (sumTo h n+h n)
  rw [a6W n]; lia
theorem Of.weak (O:Of m q A b c S) (hn:∀ j,j<q->¬ S.T m j<0) {y:Nat->Int} {e:Int} (hy:∀ j,j<q->0<=y j) (hr:∀ i,i<m->sumTo (λ j=>A i j*y j) q<=b i*e):S.d*sumTo (λ j=>c j*y j) q<=e*S.T m q:=by
 obtain ⟨D1,D2⟩:=O.dual;have nn:∀ v,0<=valOut m q S v:=Of.valOut_nn λ j hj=>by have:=hn j hj; lia
 have e1:S.d*sumTo (λ j=>c j*y j) q=sumTo (λ j=>sumTo (λ i=>A i j*valOut m q S (q+i)) m*y j - valOut m q S j*y j) q:=by
  rw [<- x8];refine sum_congr λ j hj=>?_;rw [D1 j hj,cQ,kA,aR (c j) S.d,aX]
 have e2:sumTo (λ j=>sumTo (λ i=>A i j*valOut m q S (q+i)) m*y j - valOut m q S j*y j) q<=sumTo (λ j=>sumTo (λ i=>A i j*valOut m q S (q+i)) m*y j) q:=by
  refine a1Y λ j hj=>?_;have:=cK (nn j) (hy j hj);lia
 have e3:sumTo (λ j=>sumTo (λ i=>A i j*valOut m q S (q+i)) m*y j) q=sumTo (λ i=>valOut m q S (q+i)*sumTo (λ j=>A i j*y j) q) m:=by
  have x1:sumTo (λ j=>sumTo (λ i=>A i j*valOut m q S (q+i)) m*y j) q=sumTo (λ j=>sumTo (λ i=>valOut m q S (q+i)*(A i j*y j)) m) q:=by
   refine sum_congr λ j hj=>?_;rw [aR,<- x8];refine sum_congr λ i hi=>?_
   ac_rfl
  rw [x1,X7];refine sum_congr λ i hi=>?_;rw [x8]
 have e4:sumTo (λ i=>valOut m q S (q+i)*sumTo (λ j=>A i j*y j) q) m<=sumTo (λ i=>e*(b i*valOut m q S (q+i))) m:=by
  refine a1Y λ i hi=>?_;have:=fJ (hr i hi) (nn (q+i));have x:valOut m q S (q+i)*(b i*e)=e*(b i*valOut m q S (q+i)):=by ac_rfl
  rw [x] at this;exact this
 rw [x8,D2] at e4;rw [e1];rw [e3] at e2;exact jS e2 e4
theorem Of.slack (O:Of m q A b c S) (hn:∀ j,j<q->¬ S.T m j<0) {l:Nat} (hl:l<m) (hw:0<valOut m q S (q+l)):sumTo (λ j=>A l j*valIn m S q j) q=b l*S.d:=by
 obtain ⟨p1,p2⟩:=O.primal;have nn:∀ v,0<=valOut m q S v:=Of.valOut_nn λ j hj=>by have:=hn j hj; lia
 have nx:=O.valIn_nn
 by_cases h0:valIn m S q (q+l)=0
 ·have:=p1 l hl
  lia
 ·exfalso
  have hp:0<valIn m S q (q+l):=by have:=nx (q+l); lia
  obtain ⟨D1,D2⟩:=O.dual;have e1:S.d*sumTo (λ j=>c j*valIn m S q j) q<=sumTo (λ i=>valOut m q S (q+i)*sumTo (λ j=>A i j*valIn m S q j) q) m:=by
   have x1:S.d*sumTo (λ j=>c j*valIn m S q j) q=sumTo (λ j=>sumTo (λ i=>A i j*valOut m q S (q+i)) m*valIn m S q j - valOut m q S j*valIn m S q j) q:=by
    rw [<- x8];refine sum_congr λ j hj=>?_;rw [D1 j hj,cQ,kA,aR (c j) S.d,aX]
   have x2:sumTo (λ j=>sumTo (λ i=>A i j*valOut m q S (q+i)) m*valIn m S q j - valOut m q S j*valIn m S q j) q<=sumTo (λ j=>sumTo (λ i=>valOut m q S (q+i)*(A i j*valIn m S q j)) m) q:=by
    refine a1Y λ j hj=>?_;have y:=cK (nn j) (nx j);have z:sumTo (λ i=>A i j*valOut m q S (q+i)) m*valIn m S q j=sumTo (λ i=>valOut m q S (q+i)*(A i j*valIn m S q j)) m:=by
     rw [aR,<- x8];refine sum_congr λ i hi=>?_
     ac_rfl
    lia
   rw [X7] at x2;have x3:sumTo (λ i=>sumTo (λ j=>valOut m q S (q+i)*(A i j*valIn m S q j)) q) m=sumTo (λ i=>valOut m q S (q+i)*sumTo (λ j=>A i j*valIn m S q j) q) m:=sum_congr λ i hi=>by rw [x8]
   rw [x1,<- x3]; exact x2
  have e2:sumTo (λ i=>valOut m q S (q+i)*sumTo (λ j=>A i j*valIn m S q j) q) m<=sumTo (λ i=>S.d*(b i*valOut m q S (q+i)) - (if i=l then valOut m q S (q+l)*valIn m S q (q+l) else 0)) m:=by
   refine a1Y λ i hi=>?_;have y:=p1 i hi;have z:=cK (nn (q+i)) (nx (q+i));have ez:valOut m q S (q+i)*sumTo (λ j=>A i j*valIn m S q j) q=S.d*(b i*valOut m q S (q+i)) - valOut m q S (q+i)*valIn m S q (q+i):=by
    have:sumTo (λ j=>A i j*valIn m S q j) q=b i*S.d - valIn m S q (q+i):=by lia
    rw [this,fH]
    congr 1
    ac_rfl
   rw [ez]
   by_cases hil:i=l
   ·subst hil
    rw [if_pos rfl]; exact cC _
   ·rw [if_neg hil]; lia
  have e3:sumTo (λ i=>S.d*(b i*valOut m q S (q+i)) - (if i=l then valOut m q S (q+l)*valIn m S q (q+l) else 0)) m=S.d*S.T m q - valOut m q S (q+l)*valIn m S q (q+l):=by
   rw [a6W,x8,D2,sum_one hl λ i hi hne=>if_neg hne,if_pos rfl]
  rw [p2] at e1;have:=eI hw hp;lia
end
end Lp
namespace Rim
open PySem L2 Fr
abbrev t8 (l x:List Int):Int:=(cD (·*·) l x).sum
theorem a3J:∀ (l r x:List Int),t8 (l++r) x=t8 l (x.take l.length)+t8 r (x.drop l.length)
 | [],r,x=>by simp [t8]
 | a::l,r,[]=>by simp [t8]
 | a::l,r,y::x=>by
  have:=a3J l r x;unfold t8 at *;rw [bZ,cG,bX,this,cV,List.take_succ_cons,List.drop_succ_cons,cG,bX];lia
theorem a0I:∀ (l x:List Int),t8 (l.map λ y=>-y) x = - t8 l x
 | [],x=>by simp [t8]
 | a::l,[]=>by simp [t8]
 | a::l,y::x=>by
  have:=a0I l x;unfold t8 at *;rw [aV,cG,bX,this,cG,bX,eJ];lia
theorem Z7:∀ (k:Nat) (x:List Int),t8 (aJ k 0) x=0
 | 0,x=>by simp [t8]
 | k+1,[]=>by simp [t8]
 | k+1,y::x=>by
  have:=Z7 k x;unfold t8 at *;rw [dH,cG,bX,this]; lia
theorem S3:∀ (l x:List Int),t8 l x=t8 x l
 | [],x=>by simp [t8]
 | a::l,[]=>by simp [t8]
 | a::l,y::x=>by
  have:=S3 l x;unfold t8 at *;rw [cG,bX,this,cG,bX,aR]
theorem a8I:∀ {l x:List Int},(∀ y∈l,0<=y)->(∀ y∈x,0<=y)->0<=t8 l x
 | [],x,_,_=>by simp [t8]
 | a::l,[],_,_=>by simp [t8]
 | a::l,y::x,h1,h2=>by
  have:=a8I (l:=l) (x:=x) (λ z hz=>h1 z (.tail _ hz)) (λ z hz=>h2 z (.tail _ hz));unfold t8 at *;rw [cG,bX];have:=cK (h1 a (.head _)) (h2 y (.head _));lia
theorem J6:∀ (n:Nat) (l x:List Int),l.length=n->x.length=n->Lp.sumTo (λ j=>l.getD j 0*x.getD j 0) n=t8 l x
 | 0,l,x,h1,h2=>by
  rw [gA h1]; simp [t8,Lp.sumTo]
 | n+1,l,x,h1,h2=>by
  obtain ⟨l',a,rfl⟩:∃ l' a,l=l'++[a]:=⟨l.dropLast,l.getLast (by intro z; rw [z] at h1; cases h1),(iK _).symm⟩;obtain ⟨x',b,rfl⟩:∃ l' a,x=l'++[a]:=⟨x.dropLast,x.getLast (by intro z; rw [z] at h2; cases h2),(iK _).symm⟩;have l1:l'.length=n:=by simpa using h1
  have l2:x'.length=n:=by simpa using h2
  show Lp.sumTo _ n+_=_
  have e:Lp.sumTo (λ j=>(l'++[a]).getD j 0*(x'++[b]).getD j 0) n=Lp.sumTo (λ j=>l'.getD j 0*x'.getD j 0) n:=Lp.sum_congr λ j hj=>by
   rw [D4,D4,if_pos (by lia),if_pos (by lia)]
  rw [e,J6 n l' x' l1 l2]
  show _=(cD (·*·) (l'++[a]) (x'++[b])).sum
  rw [a3F (by lia)]
  show t8 l' x'+(l'++[a]).getD n 0*(x'++[b]).getD n 0=_
  rw [D4,D4,if_neg (by lia),if_neg (by lia),l1,l2,fM]; rfl
theorem a1n {n:Nat} {F:Nat->Int} {j:Nat} (h:j<n):((aF n).map F).getD j 0=F j:=by
 rw [aI,aD,bF h]; rfl
theorem a2e:∀ {l x:List Int},(∀ y∈l,0<=y)->(∀ y∈x,0<=y)->0<t8 l x->∃ j,j<x.length/\0<x.getD j 0
 | [],x,_,_,h=>by simp [t8] at h
 | a::l,[],_,_,h=>by simp [t8] at h
 | a::l,y::x,h1,h2,h=>by
  by_cases hy:0<y
  ·exact ⟨0,by simp,by simpa using hy⟩
  ·have y0:y=0:=by have:=h2 y (.head _); lia
   subst y0;have h':0<t8 l x:=by
    unfold t8 at *;rw [cG,bX] at h; lia
   obtain ⟨j,hj,hp⟩:=a2e (λ z hz=>h1 z (.tail _ hz)) (λ z hz=>h2 z (.tail _ hz)) h';exact ⟨j+1,by simp; lia,by simpa using hp⟩
theorem a2j:∀ {l x:List Int},(∀ y∈l,0<y)->(∀ y∈x,0<=y)->l.length=x.length->(∃ j,j<x.length/\0<x.getD j 0)->0<t8 l x
 | [],[],_,_,_,⟨j,hj,_⟩=>by simp at hj
 | a::l,y::x,h1,h2,hl,⟨j,hj,hp⟩=>by
  have nn:0<=t8 l x:=a8I (λ z hz=>bG (h1 z (.tail _ hz))) (λ z hz=>h2 z (.tail _ hz));have ya:=cK (bG (h1 a (.head _))) (h2 y (.head _))
  cases j with
  | zero =>
   have:0<a*y:=eI (h1 a (.head _)) (by simpa using hp);unfold t8 at *;rw [cG,bX]; lia
  | succ j =>
   have:=a2j (l:=l) (x:=x) (λ z hz=>h1 z (.tail _ hz)) (λ z hz=>h2 z (.tail _ hz)) (by simpa using hl) ⟨j,by simpa using hj,by simpa using hp⟩;unfold t8 at *;rw [cG,bX]; lia
 | [],_::_,_,_,hl,_=>by simp at hl
 | _::_,[],_,_,hl,_=>by simp at hl
theorem b0Q {m q:Nat} {A:Nat->Nat->Int} {b c:Nat->Int} {S:Lp.Bo} (O:Lp.Of m q A b c S) (sz:Sz 4000 m q S) {v:Nat} (hv:v<q+m):Big 4000 (Lp.valOut m q S v):=by
 rcases O.w.all v hv with ⟨i,hi,e⟩ | ⟨j,hj,e⟩
 ·have:Lp.valOut m q S v=0:=Lp.sum_zero λ k hk=>if_neg λ z=>O.w.io i k hi hk (e.trans z.symm)
  rw [this]
  show (0:Int).natAbs<2 ^ 4000
  exact iI (by decide)
 ·have:Lp.valOut m q S v=S.T m j:=by
   unfold Lp.valOut;rw [Lp.sum_one hj λ k hk hn=>if_neg λ z=>hn (O.w.oo k j hk hj (z.trans e.symm)),if_pos e]
  rw [this];exact sz.1 m j (by lia) (by lia)
section
variable {m q:Nat} {rows:List (List Int)} {bnd goal:List Int} {S:Lp.Bo}
theorem a3L (O:Lp.Of m q (V5 rows) (J3 bnd) (J3 goal) S) {i:Nat} {row:List Int} (hi:i<m) (hr:rows[i]?=some row) (hl:row.length=q):t8 row (r8 m q S)<=bnd.getD i 0*S.d:=by
 have h:=O.primal.1 i hi;have nn:=O.valIn_nn (q+i);have e:Lp.sumTo (λ j=>V5 rows i j*Lp.valIn m S q j) q=t8 row (r8 m q S):=by
  rw [<- J6 q row (r8 m q S) hl (by unfold r8; simp)];refine Lp.sum_congr λ j hj=>?_;rw [Y9 hr];unfold r8;rw [a1n hj]
 rw [e] at h
 show _<=J3 bnd i*S.d
 lia
theorem a5u (O:Lp.Of m q (V5 rows) (J3 bnd) (J3 goal) S) (hn:∀ j,j<q->¬ S.T m j<0) {i:Nat} {row:List Int} (hi:i<m) (hr:rows[i]?=some row) (hl:row.length=q) (hw:0<Lp.valOut m q S (q+i)):t8 row (r8 m q S)=bnd.getD i 0*S.d:=by
 have h:=O.slack hn hi hw;have e:Lp.sumTo (λ j=>V5 rows i j*Lp.valIn m S q j) q=t8 row (r8 m q S):=by
  rw [<- J6 q row (r8 m q S) hl (by unfold r8; simp)];refine Lp.sum_congr λ j hj=>?_;rw [Y9 hr];unfold r8;rw [a1n hj]
 rw [e] at h;exact h
theorem a5a (O:Lp.Of m q (V5 rows) (J3 bnd) (J3 goal) S) (hl:goal.length=q):t8 goal (r8 m q S)=S.T m q:=by
 have h:=O.primal.2;have e:Lp.sumTo (λ j=>J3 goal j*Lp.valIn m S q j) q=t8 goal (r8 m q S):=by
  rw [<- J6 q goal (r8 m q S) hl (by unfold r8; simp)];refine Lp.sum_congr λ j hj=>?_;unfold r8;rw [a1n hj]; rfl
 rw [e] at h;exact h
theorem a3A (O:Lp.Of m q (V5 rows) (J3 bnd) (J3 goal) S) (hn:∀ j,j<q->¬ S.T m j<0) (hl:rows.length=m) {j:Nat} (hj:j<q):goal.getD j 0*S.d<=t8 (col rows j) (K8 m q S):=by
 have h:=O.dual.1 j hj;have nn:0<=Lp.valOut m q S j:=Lp.Of.valOut_nn (λ j hj=>by have:=hn j hj; lia) j;have e:Lp.sumTo (λ i=>V5 rows i j*Lp.valOut m q S (q+i)) m=t8 (col rows j) (K8 m q S):=by
  rw [<- J6 m (col rows j) (K8 m q S) (by unfold col; rw [aA]; exact hl) (by unfold K8; simp)];refine Lp.sum_congr λ i hi=>?_;unfold K8;rw [a1n hi]
  congr 1
  unfold V5 col;rw [aI (l:=kC _ rows),aD,aI (l:=rows),aG (by lia)]; rfl
 rw [e] at h
 show J3 goal j*S.d<=_
 lia
theorem b1s (O:Lp.Of m q (V5 rows) (J3 bnd) (J3 goal) S) (hl:bnd.length=m):t8 bnd (K8 m q S)=S.T m q:=by
 have h:=O.dual.2;have e:Lp.sumTo (λ i=>J3 bnd i*Lp.valOut m q S (q+i)) m=t8 bnd (K8 m q S):=by
  rw [<- J6 m bnd (K8 m q S) hl (by unfold K8; simp)];refine Lp.sum_congr λ i hi=>?_;unfold K8;rw [a1n hi]; rfl
 rw [e] at h;exact h
theorem b3r (hn:∀ j,j<q->¬ S.T m j<0):∀ x∈K8 m q S,0<=x:=λ x hx=>by
 unfold K8 at hx;obtain ⟨i,_,rfl⟩:=bH.mp hx;exact Lp.Of.valOut_nn (λ j hj=>by have:=hn j hj; lia) _
theorem a6m {A:Nat->Nat->Int} {b c:Nat->Int} (O:Lp.Of m q A b c S):∀ x∈r8 m q S,0<=x:=λ x hx=>by
 unfold r8 at hx;obtain ⟨i,_,rfl⟩:=bH.mp hx;exact O.valIn_nn i
theorem a7h:K8 (m+1) q S=(K8 (m+1) q S).take m++[Lp.valOut (m+1) q S (q+m)]:=by
 unfold K8;rw [fN,aW,gQ (by simp)]; rfl
end
theorem b2Y (a b c xs:List Int):t8 (a++b++c) xs=t8 a (xs.take a.length)+t8 b ((xs.drop a.length).take b.length)+t8 c (xs.drop (a.length+b.length)):=by
 rw [a3J (a++b) c xs,a3J a b,aM,List.take_take,gL (by lia),List.drop_take,dU]
theorem a0F (a b c:List Int) (j:Nat):(a++b++c).getD j 0=if j<a.length then a.getD j 0 else if j<a.length+b.length then b.getD (j - a.length) 0 else c.getD (j - (a.length+b.length)) 0:=by
 rw [D4,aM]
 by_cases h1:j<a.length
 ·rw [if_pos (by lia),if_pos h1,D4,if_pos h1]
 ·by_cases h2:j<a.length+b.length
  ·rw [if_pos h2,if_neg h1,if_pos h2,D4,if_neg h1]
  ·rw [if_neg h2,if_neg h1,if_neg h2]
abbrev ptA (h:i9) (xs:List Int):List Int:=xs.take h.1.length
abbrev pgA (h:i9) (xs:List Int):List Int:=(xs.drop h.1.length).take h.2.length
abbrev psA (z:Str) (h:i9) (xs:List Int):Int:=t8 (xs.drop (h.1.length+h.2.length)) (N3 z)
theorem a6V {z:Str} {g h:i9} (h1:g.1.length=h.1.length) (h2:g.2.length=h.2.length) (xs:List Int):t8 (y6 z g) xs=O9 g (pgA h xs) (psA z h xs) - pay g (ptA h xs):=by
 unfold y6 O9 pay;rw [b2Y,aA,a0I,h1,h2,S3 (N3 z)];dsimp only [t8,ptA,pgA,psA];lia
theorem a9g {z:Str} {h:i9} (xs:List Int):t8 (O4 z h) xs=pay h (ptA h xs):=by
 unfold O4 pay;rw [b2Y,Z7,Z7];dsimp only [t8,ptA,pgA,psA];lia
theorem a9z {z:Str} {h:i9} (xs:List Int):t8 (M0 z h) xs=O9 h (pgA h xs) (psA z h xs):=by
 unfold M0 O9;rw [b2Y,Z7,bK,S3 (N3 z)];dsimp only [t8,ptA,pgA,psA];lia
theorem a8u (rows:List (List Int)) (r:List Int) (j:Nat):col (rows++[r]) j=col rows j++[r.getD j 0]:=by
 unfold col;rw [aW]; rfl
theorem a0O {a b:List Int} {x y:Int} (h:a.length=b.length):t8 (a++[x]) (b++[y])=t8 a b+x*y:=a3F h
theorem a2Z (s:Int):∀ (hs:List i9) (ws:List Int),hs.length=ws.length->t8 (hs.map λ _=>s) ws=s*ws.sum
 | [],[],_=>by simp [t8]
 | _::hs,w::ws,h=>by
  have:=a2Z s hs ws (by simpa using h);unfold t8 at *;rw [aV,cG,bX,this,bX,fG]
 | [],_::_,h=>by simp at h
 | _::_,[],h=>by simp at h
section
variable {z:Str} {hs:List i9} {h:i9} {kt kg:Nat} (hk:∀ g∈hs,g.1.length=kt/\g.2.length=kg)
include hk
theorem a7j (ws:List Int) {j:Nat} (hj:j<kt):t8 (col (hs.map (y6 z)) j) ws = - N7 hs ws 0 j:=by
 have e:col (hs.map (y6 z)) j=(col (hs.map (X1 0)) j).map λ y=>-y:=by
  unfold col;rw [aT,aT,aT];refine cS λ g hg=>?_
  show (y6 z g).getD j 0 = - (X1 0 g).getD j 0
  have:=hk g hg;unfold y6;rw [a0F,aA,if_pos (by lia),a4T]; rfl
 rw [e,a0I]; rfl
theorem a7m (ws:List Int) {j:Nat} (hj:j<kg):t8 (col (hs.map (y6 z)) (kt+j)) ws=N7 hs ws 1 j:=by
 have e:col (hs.map (y6 z)) (kt+j)=col (hs.map (X1 1)) j:=by
  unfold col;rw [aT,aT];refine cS λ g hg=>?_
  show (y6 z g).getD (kt+j) 0=(X1 1 g).getD j 0
  have:=hk g hg;unfold y6;rw [a0F,aA,if_neg (by lia),if_pos (by lia),this.1,dU]; rfl
 rw [e]; rfl
theorem a8A {ws:List Int} (hw:hs.length=ws.length) (t:Nat):t8 (col (hs.map (y6 z)) (kt+kg+t)) ws=(N3 z).getD t 0*ws.sum:=by
 have e:col (hs.map (y6 z)) (kt+kg+t)=hs.map λ _=>(N3 z).getD t 0:=by
  unfold col;rw [aT];refine cS λ g hg=>?_
  show (y6 z g).getD (kt+kg+t) 0=_
  have:=hk g hg;unfold y6;rw [a0F,aA,if_neg (by lia),if_neg (by lia),this.1,this.2,dU]
 rw [e,a2Z _ _ _ hw]
end
structure b5A (z:Str) (hs:List i9) (h:i9) (S:Lp.Bo) (kt kg:Nat) (ws:List Int):Prop where
 lw:ws.length=hs.length
 nn:∀ x∈ws,0<=x/\Big 20000 x
 size:a3W z ws.sum S.d
 takes:∀ j,j<kt->N7 hs ws 0 j<=h.1.getD j 0*S.T (mE hs) (qE z h)
 gives:∀ j,j<kg->h.2.getD j 0*S.d<=N7 hs ws 1 j
 pos:0<S.T (mE hs) (qE z h)
 le:h∈hs->S.T (mE hs) (qE z h)<=S.d
 fair:∀ g∈hs,O9 g (pgA h (r8 (mE hs) (qE z h) S)) (psA z h (r8 (mE hs) (qE z h) S))<=pay g (ptA h (r8 (mE hs) (qE z h) S))
 pays:pay h (ptA h (r8 (mE hs) (qE z h) S))=S.d
 earns:O9 h (pgA h (r8 (mE hs) (qE z h) S)) (psA z h (r8 (mE hs) (qE z h) S))=S.T (mE hs) (qE z h)
 pr:PrN (ptA h (r8 (mE hs) (qE z h) S)) (pgA h (r8 (mE hs) (qE z h) S)) (psA z h (r8 (mE hs) (qE z h) S)) S.d kt kg
 sign:a2B z (psA z h (r8 (mE hs) (qE z h) S))
theorem a6L {z:Str} {xs:List Int} (hz:Szw z) (nn:∀ x∈xs,0<=x):a2B z (t8 xs (N3 z)):=by
 rcases hz with rfl | rfl | rfl | rfl
 ·have:t8 xs (N3 "any")=0:=by show (cD _ xs []).sum=0; simp
  rw [this]; exact ⟨λ _=>cC _,λ _=>cC _⟩
 ·exact ⟨λ h=>absurd h (by decide),λ h=>absurd h (by decide)⟩
 ·refine ⟨λ _=>?_,λ h=>absurd h (by decide)⟩
  show (cD _ xs [-1]).sum<=0
  cases xs with
  | nil=>simp
  | cons x r=>have:=nn x (.head _); simp; lia
 ·refine ⟨λ h=>absurd h (by decide),λ _=>?_⟩
  show 0<=(cD _ xs [1]).sum
  cases xs with
  | nil=>simp
  | cons x r=>have:=nn x (.head _); simp; lia
theorem b0e {z:Str} {xs:List Int} (h:∀ x∈xs,Big 4000 x) (hl:xs.length<=200):Big 5000 (t8 xs (N3 z)):=by
 have:∀ y∈N3 z,Big 100 y:=λ y hy=>cI (a1G z y hy) (Nat.pow_lt_pow_right (by decide) (by decide));exact (b0q (a8e h this) (by rw [fF]; lia)).mono (by decide)
theorem a6l {z:Str} {hs:List i9} {h:i9} {S:Lp.Bo} {far:Int} {kt kg:Nat} (hz:Szw z) (B:Best z hs h S) (hG:∀ g∈hs,HG far kt kg g) (gh:HG far kt kg h) (kt1:1<=kt) (kt4:kt<=20) (kg4:kg<=20) :
  b5A z hs h S kt kg ((K8 (mE hs) (qE z h) S).take hs.length):=by
 obtain ⟨O,hn,sz⟩:=B;have hk:∀ g∈hs,g.1.length=kt/\g.2.length=kg:=λ g hg=>⟨(hG g hg).lt,(hG g hg).lg⟩;have sg:=a1M z;generalize hm:mE hs=m at *;generalize hq:qE z h=q at *;have hm':m=hs.length+1:=hm.symm;have hq':q=kt+kg+(N3 z).length:=by rw [<- hq]; show h.1.length+h.2.length+_=_; rw [gh.lt,gh.lg]
 replace O:Lp.Of m q (V5 (D8 z hs h)) (J3 (a0o hs)) (J3 (M0 z h)) S:=by rw [hm',<- hq]; exact O
 have lr:(D8 z hs h).length=m:=by unfold D8; simp [hm']
 have lrow:∀ g∈hs,(y6 z g).length=q:=λ g hg=>by unfold y6; simp [(hk g hg).1,(hk g hg).2,hq']; lia
 have lpaid:(O4 z h).length=q:=by unfold O4; simp [gh.lt,gh.lg,hq']; lia
 have lgoal:(M0 z h).length=q:=by unfold M0; simp [gh.lt,gh.lg,hq']; lia
 have lb:(a0o hs).length=m:=by unfold a0o; simp [hm']
 have la:(r8 m q S).length=q:=by unfold r8; simp
 have lw:(K8 m q S).length=m:=by unfold K8; simp
 have hsp:K8 m q S=(K8 m q S).take hs.length++[Lp.valOut m q S (q+hs.length)]:=by rw [hm']; exact a7h
 generalize hws:(K8 m q S).take hs.length=ws at *;generalize hwn:Lp.valOut m q S (q+hs.length)=wn at *;have lws:ws.length=hs.length:=by rw [<- hws,bP,lw]; lia
 have wnn:∀ x∈ws,0<=x/\Big 20000 x:=λ x hx=>by
  have hx':x∈K8 m q S:=by rw [hsp]; exact dJ _ hx
  refine ⟨b3r hn x hx',?_⟩;unfold K8 at hx';obtain ⟨k,hk',rfl⟩:=bH.mp hx';exact (b0Q O sz (by have:=cO.mp hk'; lia)).mono (by decide)
 have pos:=O.w.pos;have eT:wn=S.T m q:=by
  have:=b1s O lb;rw [hsp] at this;unfold a0o at this;rw [a0O (by rw [bK]; exact lws.symm),Z7] at this;lia
 have colA:∀ j,t8 (col (D8 z hs h) j) (K8 m q S)=t8 (col (hs.map (y6 z)) j) ws+(O4 z h).getD j 0*wn:=λ j=>by
  rw [hsp];unfold D8;rw [a8u,a0O (by unfold col; rw [aA,aA,lws])]
 have tk:∀ j,j<kt->N7 hs ws 0 j<=h.1.getD j 0*wn:=λ j hj=>by
  have:=a3A O hn lr (j:=j) (by lia);rw [colA,a7j hk ws hj] at this;unfold M0 O4 at this;rw [a0F,a0F,bK,if_pos (by rw [gh.lt]; lia),if_pos (by rw [gh.lt]; lia),S7] at this;lia
 have gv:∀ j,j<kg->h.2.getD j 0*S.d<=N7 hs ws 1 j:=λ j hj=>by
  have:=a3A O hn lr (j:=kt+j) (by lia);rw [colA,a7m hk ws hj] at this;unfold M0 O4 at this;rw [a0F,a0F,bK,bK,gh.lt,gh.lg,if_neg (by lia),if_pos (by lia),if_neg (by lia),if_pos (by lia),dU,S7] at this;lia
 have szc:∀ t,t<(N3 z).length->(N3 z).getD t 0*S.d<=(N3 z).getD t 0*ws.sum:=λ t ht=>by
  have:=a3A O hn lr (j:=kt+kg+t) (by lia);rw [colA,a8A hk lws.symm t] at this;unfold M0 O4 at this;rw [a0F,a0F,bK,bK,gh.lt,gh.lg,if_neg (by lia),if_neg (by lia),if_neg (by lia),if_neg (by lia),dU,S7] at this;lia
 have size:a3W z ws.sum S.d:=by
  rcases hz with rfl | rfl | rfl | rfl
  ·exact ⟨λ h=>absurd h (by decide),λ h=>absurd h (by decide)⟩
  ·have s0:(1:Int)*S.d<=1*ws.sum:=szc 0 (by decide)
   have s1:(-1:Int)*S.d <= -1*ws.sum:=szc 1 (by decide);exact ⟨λ _=>by lia,λ _=>by lia⟩
  ·have s1:(-1:Int)*S.d <= -1*ws.sum:=szc 0 (by decide)
   exact ⟨λ _=>by lia,λ h=>absurd h (by decide)⟩
  ·have s0:(1:Int)*S.d<=1*ws.sum:=szc 0 (by decide)
   exact ⟨λ h=>absurd h (by decide),λ _=>by lia⟩
 have posT:0<wn:=by
  obtain ⟨y,hy,y0⟩:=gh.p;obtain ⟨j,hj⟩:=iL hy;have hjl:j<kg:=by have:=(bN.mp hj).1; rw [gh.lg] at this; exact this
  have yD:h.2.getD j 0=y:=by rw [aI,hj]; rfl
  have g1:=gv j hjl;rw [yD] at g1;have g2:0<N7 hs ws 1 j:=kF (eI y0 pos) g1;have nnc:∀ x∈col (hs.map (X1 1)) j,0<=x:=λ x hx=>by
   unfold col at hx;obtain ⟨r,hr,rfl⟩:=bH.mp hx;obtain ⟨g,hg,rfl⟩:=bH.mp hr;have hg':=hG g hg;have hl:j<(X1 1 g).length:=by show j<g.2.length; rw [hg'.lg]; exact hjl
   rw [aI,aG hl];exact (hg'.g _ (cP hl)).1
  obtain ⟨k,hk1,hk2⟩:=a2e nnc (λ x hx=>(wnn x hx).1) g2;have pc:∀ x∈col (hs.map (X1 0)) 0,0<x:=λ x hx=>by
   unfold col at hx;obtain ⟨r,hr,rfl⟩:=bH.mp hx;obtain ⟨g,hg,rfl⟩:=bH.mp hr;have hg':=hG g hg;have hl:0<(X1 0 g).length:=by show 0<g.1.length; rw [hg'.lt]; lia
   rw [aI,aG hl];have:=(hg'.t _ (cP hl)).1
   show 0<(X1 0 g)[0]
   lia
  have g3:0<N7 hs ws 0 0:=a2j pc (λ x hx=>(wnn x hx).1) (by unfold col; rw [aA,aA,lws]) ⟨k,hk1,hk2⟩;have g4:=tk 0 (by lia);have hl:0<h.1.length:=by rw [gh.lt]; lia
  have h0:1<=h.1.getD 0 0:=by
   rw [aI,aG hl];exact (gh.t _ (cP hl)).1
  have g5:0<h.1.getD 0 0*wn:=kF g3 g4
  by_cases hw:0<wn
  ·exact hw
  ·have:=cK (show 0<=h.1.getD 0 0 by lia) (show 0 <= -wn by lia)
   rw [dB] at this;lia
 have fair:∀ g∈hs,O9 g (pgA h (r8 m q S)) (psA z h (r8 m q S))<=pay g (ptA h (r8 m q S)):=λ g hg=>by
  obtain ⟨k,hk'⟩:=iL hg;have hkl:=(bN.mp hk').1;have hr:(D8 z hs h)[k]?=some (y6 z g):=by
   unfold D8;rw [bQ (by rw [aA]; exact hkl),aD,hk']; rfl
  have:=a3L O (i:=k) (by lia) hr (lrow g hg);rw [a6V (h:=h) (by rw [(hk g hg).1,gh.lt]) (by rw [(hk g hg).2,gh.lg])] at this;unfold a0o at this;rw [D4,bK,if_pos hkl,S7,dP] at this;lia
 have hr:(D8 z hs h)[hs.length]?=some (O4 z h):=by
  unfold D8;rw [cA (by rw [aA]; exact aE _),aA,fM]; rfl
 have pays:pay h (ptA h (r8 m q S))=S.d:=by
  have:=a5u O hn (i:=hs.length) (by lia) hr lpaid (by rw [hwn]; exact posT);rw [a9g] at this;unfold a0o at this;rw [D4,bK,if_neg (by lia),fM] at this;rw [this];exact fY _
 have earns:O9 h (pgA h (r8 m q S)) (psA z h (r8 m q S))=S.T m q:=by rw [<- a9z]; exact a5a O lgoal
 have anb:∀ x∈r8 m q S,0<=x/\Big 4000 x:=λ x hx=>by
  refine ⟨a6m O x hx,?_⟩;unfold r8 at hx;obtain ⟨k,hk',rfl⟩:=bH.mp hx;exact b0p O sz (cO.mp hk')
 have d4:S.d<2 ^ 4000:=by
  have h1:S.d.natAbs<2 ^ 4000:=sz.2;have h3:S.d=(S.d.natAbs:Int):=by lia
  rw [h3]
  exact_mod_cast h1
 refine ⟨lws,wnn,size,λ j hj=>?_,gv,?_,?_,?_,?_,?_,?_,?_⟩
 ·rw [hm,hq,<- eT]; exact tk j hj
 ·rw [hm,hq,<- eT]; exact posT
 ·intro hin; rw [hm,hq,<- earns,<- pays]; exact fair h hin
 ·rw [hm,hq]; exact fair
 ·rw [hm,hq]; exact pays
 ·rw [hm,hq]; exact earns
 ·rw [hm,hq]
  refine ⟨?_,?_,λ x hx=>?_,λ x hx=>?_,?_,pos,d4⟩
  ·rw [bP,la,gh.lt]; lia
  ·rw [bP,cW,la,gh.lt,gh.lg]; lia
  ·have:=anb x (fA hx)
   exact ⟨this.1,this.2.mono (by decide)⟩
  ·have:=anb x (eL (fA hx))
   exact ⟨this.1,this.2.mono (by decide)⟩
  ·exact b0e (λ x hx=>(anb x (eL hx)).2) (by rw [cW,la]; lia)
 ·rw [hm,hq]
  exact a6L hz λ x hx=>(anb x (eL hx)).1
end Rim
namespace L2
open PySem PySem.Spec PyProof.Rows
theorem a7r {P:Program} {w:World} {K:W.Frag} {mg mb:Str->Option Value} {CX:CXT} {k:Nat} {fa a:Addr} {fd:FuncData} {x:Str} {sp:Sp} {s₁:Shared} {vs:List Value} {ns:List Int} {Ps:List Addr}
  (KX:K.In s₁.heap) (hns:s₁.heap.Ns mainGlobals mg) (hb:s₁.heap.Ns builtinsNs mb) (hbb:∀ x:Str,x≠"__name__"->mb x=bootBuiltins x) (hlim:s₁.heap.NoLimit) (hg:s₁.gens=#[])
  (ha:s₁.heap.get? a=some { cls:=.type "list",data:=.seq vs.toArray }) (hi:IntsAre vs ns) (hl:ns.length<=sizeLine) (hr:Room k callerA)
  (hT:∀ p∈Ps,∃ c,s₁.heap.TableAt c p #[]) (hKP:∀ p∈Ps,K.lookup p=none) (BM:T3 mg s₁.heap)
  (F:∀ base:Heap,K.In base->base.Ns mainGlobals mg->T3 mg base->FnOk P w K mg base CX k fa fd [x] sp) (hbind:∀ (s:Shared) (u:Value),BindsTo s fd ⟨[u],[]⟩ [(x,u)])
  (hsp:∀ H:Hp,(∀ p∈Ps,H p=some (.tbl #[]))->SqL K H a (ns.map V.int)->sp [.ref a] H (λ v _=>v=.bl true) λ _ _ _=>False)
  (hCX:∀ H e s',CX [] H s₁ (λ _ _ _=>False) e s'->False) :
  codeAny (model P w) callerA (.call (.ref fa) ⟨[.ref a],[]⟩) (λ r s'=>r=.ok (.ret (.bool true))/\OldK s₁.heap s'.heap/\s'.os=s₁.os/\AllBare s'.gens) s₁:=by
 have rv:=a3h hi;have lenV:=hi.length;have tabObj:∀ p∈Ps,s₁.heap.get? p=some { cls:=.none,data:=.fields #[] }:=λ p hp=>by
  obtain ⟨c,z⟩:=hT p hp;exact z.2
 have core:∀ H:Hp,(∀ b,H b=none\/(∃ o xs,H b=some (.frz o (.lst xs)))\/(b∈Ps/\H b=some (.tbl #[])))->(∀ p∈Ps,H p=some (.tbl #[]))->SqL K H a (ns.map V.int)->HOk P w H s₁.heap->(∀ b,H b≠none->b=a\/b∈Ps)->(H a≠none->K.lookup a=none) →
   codeAny (model P w) callerA (.call (.ref fa) ⟨[.ref a],[]⟩) (λ r s'=>r=.ok (.ret (.bool true))/\OldK s₁.heap s'.heap/\s'.os=s₁.os/\AllBare s'.gens) s₁:=by
  intro H hO hP hS hok hA hK;have base_of:∀ {b:Addr} {o:Obj},s₁.heap.get? b=some o->H b=none->(a2G s₁.heap H).get? b=some o:=λ e n=>a9C e n;have noA:∀ {b:Addr} {o:Obj} {es:Array DictEntry} {ep:Nat},s₁.heap.get? b=some o->o.data=.dict es ep->H b=none:=λ {b o es ep} e d=>by
   cases q:H b with
   | none=>rfl
   | some u =>
    rcases hA b (by rw [q]; simp) with e' | e'
    ·subst e'
     rw [ha] at e; cases e;have d':Data.seq vs.toArray _=Data.dict es ep:=d
     cases d'
    ·rw [tabObj b e'] at e; cases e
     have d':Data.fields #[]=Data.dict es ep:=d
     cases d'
  have nsK:∀ {b:Addr} {m:Str->Option Value},s₁.heap.Ns b m->(a2G s₁.heap H).Ns b m:=λ {b m} ⟨o,es,ep,e,d,r⟩=>⟨o,es,ep,base_of e (noA e d),d,r⟩;have hKb:K.In (a2G s₁.heap H):=λ b o e=>base_of (KX b o e) (by
   cases q:H b with
   | none=>rfl
   | some u =>
    rcases hA b (by rw [q]; simp) with e' | e'
    ·subst e'
     rw [hK (by rw [q]; simp)] at e; cases e
    ·rw [hKP b e'] at e; cases e)
  have hM:Mod K mg (a2G s₁.heap H):=⟨hKb,nsK hns,⟨mb,nsK hb,hbb⟩,let ⟨mc,h1,h2⟩:=hlim; ⟨mc,nsK h1,h2⟩⟩;have BM':T3 mg (a2G s₁.heap H):=by
   obtain ⟨bm,ob,b1,b2,b3,b4,b5,b6⟩:=BM;refine ⟨bm,ob,b1,b2,base_of b3 ?_,b4,b5,b6⟩
   cases q:H bm with
   | none=>rfl
   | some u =>
    rcases hA bm (by rw [q]; simp) with e' | e'
    ·subst e'
     rw [ha] at b3; cases b3; exact absurd b4 (by intro z; injection z with z; exact absurd z (by decide))
    ·rw [tabObj bm e'] at b3; cases b3; cases b4
  have e0:Env0 P w K mg (a2G s₁.heap H) callerA [] s₁ H:=⟨rfl,hM,λ b o e=>b1g e,iU (a7Z _ _),trivial,λ b hb=>absurd (show b∈([]:List Addr) from hb) (by simp),hok,.of_eq hg⟩;refine codeAny_mono ((F _ hKb (nsK hns) BM').run callerA [] s₁ H ⟨[.ref a],[]⟩ [.ref a] [.ref a] _ _ hr e0 (hbind s₁ (.ref a)) (.cons rfl .nil) (hsp H hP hS)) λ r s' h=>?_
  cases r with
  | error e=>exact (hCX H e s' h).elim
  | ok fl =>
   cases fl with
   | next=>exact bO h
   | brk=>exact bO h
   | cont=>exact bO h
   | ret u =>
    obtain ⟨v,H',os,bare,un,hok',r',q⟩:=h;have q':v=.bl true:=q;subst q';obtain rfl:u=Value.bool true:=r';refine ⟨rfl,⟨λ b o e=>?_,λ b o e=>un.there b o e (by simp)⟩,os,bare⟩;rcases hO b with q | ⟨ob,xs,z⟩ | ⟨hbP,z⟩
    ·exact .inl (un.keep b o e q (by intro z; exact absurd (show b∈([]:List Addr) from z) (by simp)) (by simp))
    ·have z2:=un.frzs b ob _ z
     obtain ⟨e1,_⟩:=hok b _ z;obtain ⟨e2,_⟩:=hok' b _ z2;rw [e] at e1; cases e1;exact .inl e2
    ·obtain ⟨more,z2⟩:=un.tbls b _ z
     have e2:s'.heap.get? b=some { cls:=.none,data:=.fields (#[]++more) }:=hok' b _ z2;rw [tabObj b hbP] at e; cases e;obtain ⟨c,ht⟩:=hT b hbP;exact .inr (.inl ⟨ht.isCodeTable,rfl,#[],more,rfl,e2⟩)
 have aP:a ∉ Ps:=λ z=>by
  have:=tabObj a z;rw [ha] at this; cases this
 cases hk:K.lookup a with
 | some o =>
  have e:=KX a o hk;rw [ha] at e
  cases e;refine core (λ b=>if b∈Ps then some (.tbl #[]) else none) (λ b=>?_) (λ p hp=>if_pos hp) (.inr ⟨_,vs.toArray,_,hk,rfl,rfl,rfl,by rw [aU,lenV]; exact hl,by simpa using rv⟩) (λ b u z=>?_) (λ b z=>?_) λ z=>absurd (if_neg aP) z
  ·by_cases hb:b∈Ps
   ·exact .inr (.inr ⟨hb,if_pos hb⟩)
   ·exact .inl (if_neg hb)
  ·by_cases hb:b∈Ps
   ·have z':=(if_pos hb).symm.trans z
    cases z';exact tabObj b hb
   ·have z':=(if_neg hb).symm.trans z
    cases z'
  ·by_cases hb:b∈Ps
   ·exact .inr hb
   ·exact absurd (if_neg hb) z
 | none =>
  refine core (λ b=>if b=a then some (.frz { cls:=.type "list",data:=.seq vs.toArray } (.lst (ns.map V.int))) else if b∈Ps then some (.tbl #[]) else none) (λ b=>?_) (λ p hp=>?_) (.inl (.inr ⟨{ cls:=.type "list",data:=.seq vs.toArray },if_pos rfl⟩)) (λ b u z=>?_) (λ b z=>?_) λ _=>hk
  ·by_cases hb:b=a
   ·exact .inr (.inl ⟨_,_,if_pos hb⟩)
   ·by_cases hb2:b∈Ps
    ·exact .inr (.inr ⟨hb2,(if_neg hb).trans (if_pos hb2)⟩)
    ·exact .inl ((if_neg hb).trans (if_neg hb2))
  ·have hb:p≠a:=λ z=>aP (z ▸ hp)
   exact (if_neg hb).trans (if_pos hp)
  ·by_cases hb:b=a
   ·have z':=(if_pos hb).symm.trans z
    cases z';subst hb;exact ⟨ha,by rw [aA]; exact hl,vs,_,rv,ha⟩
   ·by_cases hb2:b∈Ps
    ·have z':=((if_neg hb).trans (if_pos hb2)).symm.trans z
     cases z';exact tabObj b hb2
    ·have z':=((if_neg hb).trans (if_neg hb2)).symm.trans z
     cases z'
  ·by_cases hb:b=a
   ·exact .inl hb
   ·by_cases hb2:b∈Ps
    ·exact .inr hb2
    ·exact absurd ((if_neg hb).trans (if_neg hb2)) z
theorem walk_ofT {l:W.OpenLaw} {n k:Nat} {q:Program} {loose:List Str} {XP:(Str->Option Value)->Heap->Prop} {YP:World->Heap->Prop} {d:DefRec} {K:Params->W.Frag} {CX:World->CXT} {sp:World->Sp} {x:Str} {Ts:List (Addr×Addr)}
  (hn:l.most=some n) (hn2:n<=sizeLine) (hdf:d.params.defaults=[]) (hr:Room k callerA)
  (hY:∀ (w:World) (h:Heap),YP w h->(K w.params).In h/\∀ t∈Ts,h.get? t.2=some (W.tabObj #[]))
  (hC:∀ (w:World),∀ t∈Ts,W.codeHdIn (K w.params) t.1 t.2=true/\(K w.params).lookup t.2=none)
  (F:∀ (w:World) (mg:Str->Option Value) (fa:Addr) (h:Heap),(K w.params).In h->h.Ns mainGlobals mg->mg d.name=some (.ref fa) →
   ∃ fd:FuncData,(∀ (s:Shared) (u:Value),BindsTo s fd ⟨[u],[]⟩ [(x,u)]) ∧
    ∀ base:Heap,(K w.params).In base->base.Ns mainGlobals mg->T3 mg base->(∀ t∈Ts,W.CodeHd base t.1 t.2)->FnOk l.prog w (K w.params) mg base (CX w) k fa fd [x] (sp w))
  (hsp:∀ (w:World) (H:Hp) (a:Addr) (ns:List Int),ns.length<=n->(∀ t∈Ts,H t.2=some (.tbl #[]))->SqL (K w.params) H a (ns.map V.int)->sp w [.ref a] H (λ v _=>v=.bl true) λ _ _ _=>False)
  (hCX:∀ (w:World) (H:Hp) (s:Shared) (e:Value) (s':Shared),CX w [] H s (λ _ _ _=>False) e s'->False) :
  W.WalkO q loose XP YP l.row.toRowW d [] (λ f vs=>hW f vs):=by
 refine Att.attach_call hn hdf λ w s₀ s₁ mg mb fa o pm cd doc a vs ns G Y ho hd hcd hmg hobj hints hlen hg=>?_;obtain ⟨KX,hTb⟩:=hY w _ Y;obtain ⟨fd,hb,hF⟩:=F w mg fa _ KX G.T.g hmg;have mem:∀ p∈Ts.map (·.2),∃ t∈Ts,t.2=p:=λ p hp=>by
  obtain ⟨t,h1,h2⟩:=bH.mp hp;exact ⟨t,h1,h2⟩
 refine a7r (Ps:=Ts.map (·.2)) KX G.T.g G.T.b G.T.builtins G.T.nolimit hg hobj hints (aZ hlen hn2) hr (λ p hp=>?_) (λ p hp=>?_) G.T.bmain (λ base kb nb bm=>hF base kb nb bm λ t ht=>W.codeHd_of_K kb (hC w t ht).1) hb (λ H hP hS=>hsp w H a ns hlen (λ t ht=>hP _ (List.mem_map_of_mem ht)) hS) λ H e s'=>hCX w H s₁ e s'
 ·obtain ⟨t,h1,rfl⟩:=mem p hp
  exact ⟨t.1,(W.codeHd_of_K KX (hC w t h1).1).tab (hTb t h1)⟩
 ·obtain ⟨t,h1,rfl⟩:=mem p hp
  exact (hC w t h1).2
end L2
namespace L2
open PySem
theorem a3D {X:Cx} {P:Program} {w:World}:V3 (V8 P w) X E0:=λ _ _ _ _ _ _ _ ⟨_,_,_,_,_,_,_,h⟩=>h.elim
theorem Same.to1 {P:Addr} {H H':Hp} (e:Same H H'):Same1 P H H':=λ b o _ h=>e b o h
theorem Same1.trans {P:Addr} {H H1 H2:Hp} (a:Same1 P H H1) (b:Same1 P H1 H2):Same1 P H H2:=λ c o n h=>b c o n (a c o n h)
theorem Same1.write {P a:Addr} {H H':Hp} {o:HO} (e:Same1 P H H') (h:H a=none):Same1 P H (upd H' a o):=λ b u n q=>by
 rw [c9 (d9 q h)]; exact e b u n q
theorem Same1.get {P:Addr} {pos:Pos} {qual:Str} {H H':Hp} {b:Addr} {o:HO} (T:LamTab P pos qual H) (e:Same1 P H H') (h:H b=some o) (n:∀ ps,o≠.tbl ps):H' b=some o:=e b o (λ z=>by
 subst z;rcases T with t | ⟨c,t,_⟩
 ·rw [h] at t; exact n _ (aN t)
 ·rw [h] at t; exact n _ (aN t)) h
theorem LamTab.write {P a:Addr} {pos:Pos} {qual:Str} {H:Hp} {xs:List V} {o:HO} (T:LamTab P pos qual H) (h:H a=some (.lst xs)):LamTab P pos qual (upd H a o):=by
 rcases T with e | ⟨c,e1,e2⟩
 ·exact .inl (by rw [c9 (λ z=>by rw [z,h] at e; cases e)]; exact e)
 ·exact .inr ⟨c,by rw [c9 (λ z=>by rw [z,h] at e1; cases e1)]; exact e1,by rw [c9 (λ z=>by rw [z,h] at e2; cases e2)]; exact e2⟩
end L2
namespace Rim
open PySem L2 Fr
theorem a0q:∀ ns:List Int,PyData.depthAll (ns.map PyData.int)<=3
 | []=>by simp [PyData.depthAll]
 | n::r=>by
  rw [aV,PyData.depthAll];exact gB.mpr ⟨by simp [PyData.depth],a0q r⟩
theorem a4x (h:i9):(K5 h).depth<=8:=by
 unfold K5 a6G;have h1:=a0q h.1;have h2:=a0q h.2;rw [PyData.depth,PyData.depthAll,PyData.depth,PyData.depthAll,PyData.depth,PyData.depthAll];lia
theorem a0m:∀ hs:List i9,PyData.depthAll (hs.map K5)<=8
 | []=>by simp [PyData.depthAll]
 | h::r=>by
  rw [aV,PyData.depthAll];exact gB.mpr ⟨a4x h,a0m r⟩
theorem O6 {j:Nat} (h:j<=1000):((j:Int)).natAbs.log2<1920:=by
 rw [Int.natAbs_natCast]
 by_cases h0:j=0
 ·subst h0; decide
 ·exact Nat.lt_trans ((iC h0).mpr (cI h (show 1000<2 ^ 10 by decide))) (by decide)
section
variable {P:Program} {w:World} {K:W.Frag} {mg:Str->Option Value} {base:Heap} {f Pt d:Addr} {fd:FuncData} {n:Nat} {C:Addr}
end
section
variable {P:Program} {w:World} {K:W.Frag} {mg:Str->Option Value} {base:Heap} {f Pt d:Addr} {fd:FuncData} {n:Nat} {C:Addr}
end
structure b6a (z:Str) (hs:List i9) (h:i9) (S:Lp.Bo) (kt kg:Nat) (ws:List Int):Prop where
 lw:ws.length=hs.length
 nn:∀ x∈ws,0<=x/\Big 20000 x
 size:a3W z ws.sum (S.T (mE hs) (qE z h))
 takes:∀ j,j<kt->N7 hs ws 0 j<=h.1.getD j 0*S.T (mE hs) (qE z h)
 gives:∀ j,j<kg->h.2.getD j 0*S.d<=N7 hs ws 1 j
 pos:0<S.T (mE hs) (qE z h)
 le:S.T (mE hs) (qE z h)<=S.d
 fair:∀ g∈hs,O9 g (pgA h (r8 (mE hs) (qE z h) S)) (psA z h (r8 (mE hs) (qE z h) S))<=pay g (ptA h (r8 (mE hs) (qE z h) S))
 pays:pay h (ptA h (r8 (mE hs) (qE z h) S)) - psA z h (r8 (mE hs) (qE z h) S)=S.d
 gvs:t8 h.2 (pgA h (r8 (mE hs) (qE z h) S))=S.T (mE hs) (qE z h)
 pr:PrN (ptA h (r8 (mE hs) (qE z h) S)) (pgA h (r8 (mE hs) (qE z h) S)) (psA z h (r8 (mE hs) (qE z h) S)) (S.T (mE hs) (qE z h)) kt kg
 sign:a2B z (psA z h (r8 (mE hs) (qE z h) S))
section
variable {P:Program} {w:World} {K:W.Frag} {mg:Str->Option Value} {base:Heap} {f Pt d CN:Addr} {fd:FuncData} {n:Nat} {C:Addr}
end
end Rim
namespace Lp
section
variable {m q:Nat} {A:Nat->Nat->Int} {b c:Nat->Int} {S:Bo}
theorem Of.bounded1 (O:Of m q A b c S) {l cc:Nat} (hl:l<m) (hA:∀ j,j<q->A l j=c j) (hc:cc<q) (neg:S.T m cc<0) (no:∀ i,i<m->¬ 0<S.T i cc):False:=by
 have K0:=(O.k _).mp (O.w.ray_ker (c:=cc) (by omega));obtain ⟨rows,goal⟩:=ker0.mp K0;have zc:ray m S cc (q+m+1)=0:=by
  rw [<- O.w.oq];exact O.w.ray_out (by omega) (by omega) (by omega)
 have zg:ray m S cc (q+m) = - S.T m cc:=by
  rw [<- O.w.im];exact O.w.ray_in (by omega) (by omega)
 have nl:0<=ray m S cc (q+l):=by
  rcases O.w.all (q+l) (by omega) with ⟨i,hi,e⟩ | ⟨j,hj,e⟩
  ·rw [<- e,O.w.ray_in (by omega) (by omega)]
   have:=no i hi;omega
  ·rw [<- e]
   by_cases hjc:j=cc
   ·subst hjc
    rw [Wf.ray_c];exact bG O.w.pos
   ·rw [O.w.ray_out (by omega) (by omega) hjc]; exact cC _
 have rl:=rows l hl;rw [zc,bB,dN] at rl;have e:sumTo (λ j=>c j*ray m S cc j) q=sumTo (λ j=>A l j*ray m S cc j) q:=sum_congr λ j hj=>by rw [hA j hj]
 rw [zg,e] at goal;omega
end
end Lp
namespace Rim
open PySem L2 Fr
def S5 (z:Str) (g:i9):List Int:=y6 z g++[g.2.sum - g.1.sum]
def J7 (z:Str) (h:i9):List Int:=aJ (h.1.length+h.2.length+(N3 z).length) 0++[1]
def K2 (z:Str) (hs:List i9) (h:i9):List (List Int):=hs.map (S5 z)++[(S5 z h).map (λ x=>-x),J7 z h]
def a0b (hs:List i9):List Int:=aJ hs.length 0++[0,1]
abbrev mF (hs:List i9):Nat:=hs.length+2
abbrev qF (z:Str) (h:i9):Nat:=h.1.length+h.2.length+(N3 z).length+1
abbrev OfF (z:Str) (hs:List i9) (h:i9) (S:Lp.Bo):Prop:=Lp.Of (mF hs) (qF z h) (V5 (K2 z hs h)) (J3 (a0b hs)) (J3 (J7 z h)) S
def a6X (z:Str) (hs:List i9) (h:i9) (S:Lp.Bo):Prop:=OfF z hs h S/\(∀ j,j<qF z h->¬ S.T (mF hs) j<0)/\Sz 4000 (mF hs) (qF z h) S
theorem b1I:(["takes","gives"]:List Str).Nodup:=by decide +kernel
theorem b1L:(["row","floor"]:List Str).Nodup:=by decide +kernel
theorem b4b:(["one"]:List Str).Nodup:=by decide +kernel
section
variable {P:Program} {w:World} {K:W.Frag} {mg:Str->Option Value} {base:Heap} {f Pt d:Addr} {fd:FuncData} {n:Nat} {C:Addr}
def a6y (K:W.Frag) (Pt:Addr):Sp:=λ vs H Q _=>∃ (ba:Addr) (xs:List V) (hs:List i9) (i:Nat) (h:i9) (z:Str) (far:Int) (kt kg:Nat),vs=[.ref ba,.int i,.str z]/\Szw z/\U6 K H ba xs hs far kt kg/\far<=2 ^ 50/\hs[i]?=some h/\LT Pt H ∧
 ∀ (S:Lp.Bo) (H':Hp) (t aa wa:Addr),a6X z hs h S->Same1 Pt H H'->LT Pt H'->H' t=some (.tup [.int (S.T (mF hs) (qF z h)),.ref aa,.ref wa,.int S.d]) →
  H' aa=some (.lst ((r8 (mF hs) (qF z h) S).map V.int))->H' wa=some (.lst ((K8 (mF hs) (qF z h) S).map V.int))->Q (.ref t) H'
theorem scFl:j8 ["houses","number","sizes","rows","floors","firm","goal"] ["houses","number","sizes"] (h8 a1f):=⟨rfl,rfl,rfl,by decide +kernel,rfl,by decide +kernel,by decide +kernel⟩
noncomputable def flT {cdv:Value} {A:Around} {outer:List Env} {s:Shared} {H:Hp} {E:XK} {f1 f2:Addr} {d1 d2:FuncData} (N:u0 mg) (Cg:S4 P w K mg base n "greatest" ["goal","rows","bounds"] (P8 K C Pt) f1 d1) (Ch:S4 P w K mg base n "house_rows" ["houses","sizes"] (N4 K) f2 d2)
  (hr:Room n (A.deeper (cU "greatest_floor" (h8 a1f) s.heap.objs.size f cdv))) :
  { t:TS // PSs (J1 D7 P w K mg base ["houses","number","sizes","rows","floors","firm","goal"] "greatest_floor" (h8 a1f) f cdv A outer s H E).nox (t0 a1f) t } :=
 ⟨_,i7 (m4 (i:=3) scFl.nd rfl (aC rfl) (m9 Ch.ok hr rfl Ch.m Ch.k Ch.b .nil t7 (a0 (pv 0) (a0 (pv 2) d0))))
  (p7 (a0g (i:=4) ["takes","gives"] [] scFl.nd rfl rfl rfl (M6 (pv 0)) (λ _ _ _ _=>U4 K (n:=2) rfl rfl (p8 (m5 (i:=0) b1I rfl (aC rfl)) (p8 (m5 (i:=1) b1I rfl (aC rfl)) D3)))
   (λ _ _ _ _=>j6 a2v (j3 (a9o K rfl rfl) rfl N.sum kH (a0 (pv 1) d0)) (j3 (a9o K rfl rfl) rfl N.sum kH (a0 (pv 0) d0))))
  (p7 (a0g (i:=3) ["row","floor"] [] scFl.nd rfl rfl rfl (a8t true true K rfl rfl N.zip (a0 (pv 3) (a0 (pv 4) d0))) (λ _ _ _ _=>U4 K (n:=2) rfl rfl (p8 (m5 (i:=0) b1L rfl (aC rfl)) (p8 (m5 (i:=1) b1L rfl (aC rfl)) D3)))
   (λ _ _ _ _=>j6 x4 (pv 0) (r6 (a0 (pv 1) d0))))
  (p7 (a0g (i:=5) ["one"] [] scFl.nd rfl rfl rfl (M6 (j5 j4 (pv 3) (pv 1) (λ _ _=>rfl))) (λ _ _ _ _=>m5 (i:=0) b4b rfl (aC rfl)) (λ _ _ _ _=>C8 x9 (pv 0)))
  (p7 (m4 (i:=6) scFl.nd rfl (aC rfl) (j6 x4 (j6 U3 (r6 (a0 g0 d0)) (j6 a2v (j3 j7 rfl N.len bE (a0 (pv 5) d0)) g0)) (r6 (a0 g0 d0))))
  (j0 (o4 (m9 Cg.ok hr rfl Cg.m Cg.k Cg.b .nil t7 (a0 (pv 6) (a0 (j6 x4 (pv 3) (r6 (a0 (pv 5) (a0 (pv 6) d0))))
   (a0 (j6 x4 (j6 U3 (r6 (a0 g0 d0)) (j3 j7 rfl N.len bE (a0 (pv 0) d0))) (r6 (a0 g0 (a0 g0 d0)))) d0))))))))))⟩
end
theorem a3S:∀ {l:List Int} {M:Nat},(∀ x∈l,x.natAbs<=M)->l.sum.natAbs<=l.length*M
 | [],_,_=>by simp
 | a::r,M,h=>by
  have h1:=h a (.head _);have h2:=a3S (l:=r) (M:=M) λ x hx=>h x (.tail _ hx);rw [bX,cV,gE];omega
theorem a4N {z:Str} {g:i9} {far:Int} {kt kg:Nat} (hg:HG far kt kg g) (hf:far<=2 ^ 50) (hkt:kt<=20) (hkg:kg<=20):∀ x∈S5 z g,x.natAbs<=2 ^ 60:=λ x hx=>by
 have ht:∀ x∈g.1,x.natAbs<=2 ^ 50:=λ x hx=>by have:=hg.t x hx; omega
 have hg':∀ x∈g.2,x.natAbs<=2 ^ 50:=λ x hx=>by have:=hg.g x hx; omega
 have p:(2:Nat) ^ 50<=2 ^ 60:=by decide
 unfold S5 y6 at hx;rcases aS.mp hx with hx | hx
 ·rcases aS.mp hx with hx | hx
  ·rcases aS.mp hx with hx | hx
   ·obtain ⟨y,hy,rfl⟩:=bH.mp hx
    have:=ht y hy;rw [fZ]; omega
   ·have:=hg' x hx; omega
  ·exact a1G z x hx
 ·rw [aY.mp hx]
  have h1:=a3S ht;have h2:=a3S hg';rw [hg.lt] at h1;rw [hg.lg] at h2;have h3:kt*2 ^ 50<=20*2 ^ 50:=iJ _ hkt;have h4:kg*2 ^ 50<=20*2 ^ 50:=iJ _ hkg;have h5:20*2 ^ 50+20*2 ^ 50<=(2:Nat) ^ 60:=by decide
  omega
theorem S9 {z:Str} {g:i9}:(S5 z g).length=g.1.length+g.2.length+(N3 z).length+1:=by unfold S5 y6; simp [jZ]
theorem b3B {z:Str} {hs:List i9} {h:i9} {far:Int} {kt kg:Nat} (hh:HG far kt kg h) (hhs:∀ h∈hs,HG far kt kg h) (hf:far<=2 ^ 50) (hkt:kt<=20) (hkg:kg<=20) (q:Nat) :
  ∀ v,Lp.Fits (2 ^ 60) (mF hs+1) (Lp.Vv (mF hs) q (V5 (K2 z hs h)) (J3 (a0b hs)) (J3 (J7 z h)) v):=by
 have z0:∀ k:Nat,∀ x∈List.replicate k (0:Int),x.natAbs<=2 ^ 60:=λ k x hx=>by rw [(jY.mp hx).2]; decide
 have goal:∀ x∈J7 z h,x.natAbs<=2 ^ 60:=λ x hx=>by
  unfold J7 at hx;rcases aS.mp hx with hx | hx
  ·exact z0 _ x hx
  ·rw [aY.mp hx]; decide
 have rows:∀ r∈K2 z hs h,∀ x∈r,x.natAbs<=2 ^ 60:=λ r hr x hx=>by
  unfold K2 at hr;rcases aS.mp hr with hr | hr
  ·obtain ⟨g,hg,rfl⟩:=bH.mp hr
   exact a4N (hhs g hg) hf hkt hkg x hx
  ·simp only [aH,bA,or_false] at hr
   rcases hr with rfl | rfl
   ·obtain ⟨y,hy,rfl⟩:=bH.mp hx
    have:=a4N (z:=z) hh hf hkt hkg y hy;rw [fZ]; exact this
   ·exact goal x hx
 have bnds:∀ x∈a0b hs,x.natAbs<=2 ^ 60:=λ x hx=>by
  unfold a0b at hx;rcases aS.mp hx with hx | hx
  ·exact z0 _ x hx
  ·simp only [aH,bA,or_false] at hx
   rcases hx with rfl | rfl <;> decide
 intro v i _;unfold Lp.Vv
 split
 ·split
  ·unfold V5
   refine S8 (λ x hx=>?_) v;rw [aI] at hx
   cases e:(K2 z hs h)[i]? with
   | none=>rw [e] at hx; cases hx
   | some r=>rw [e] at hx; exact rows r (bV e) x hx
  ·split
   ·rw [fZ]; exact S8 goal v
   ·exact bU _
 ·split
  ·split <;> decide
  ·split
   ·exact S8 bnds i
   ·exact bU _
theorem a5T {z:Str} {hs:List i9} {h:i9} (j:Nat):V5 (K2 z hs h) (hs.length+1) j=J3 (J7 z h) j:=by
 have:(K2 z hs h)[hs.length+1]?=some (J7 z h):=by
  unfold K2;rw [cA (by simp),aA,dU]; rfl
 rw [Y9 this]; rfl
section
variable {P:Program} {w:World} {K:W.Frag} {mg:Str->Option Value} {base:Heap} {f Pt d:Addr} {fd:FuncData} {n:Nat} {C:Addr}
theorem a9J {H':Hp} {rs:List Addr} {hs:List i9} {z:Str} (hl:rs.length=hs.length) (h:∀ (i:Nat) a g,rs[i]?=some a->hs[i]?=some g->H' a=some (.lst ((S5 z g).map V.int))):RowsL K H' (rs.map V.ref) (hs.map (S5 z)):=by
 induction hs generalizing rs with
 | nil =>
  cases rs with
  | nil=>exact .nil
  | cons a r=>simp at hl
 | cons g hs ih =>
  cases rs with
  | nil=>simp at hl
  | cons a r=>exact .cons ⟨a,rfl,SqL.of (h 0 a g rfl rfl)⟩ (ih (by simpa using hl) λ i b g' h1 h2=>h (i+1) b g' (by simpa using h1) (by simpa using h2))
theorem a8P {f1 f2:Addr} {d1 d2:FuncData} (F:Fun K "greatest_floor" "greatest_floor" a1f f fd) (N:u0 mg) (Cg:S4 P w K mg base n "greatest" ["goal","rows","bounds"] (P8 K C Pt) f1 d1) (Ch:S4 P w K mg base n "house_rows" ["houses","sizes"] (N4 K) f2 d2) :
  FnOk P w K mg base D7 (n+1) f fd ["houses","number","sizes"] (a6y K Pt):=by
 refine F.ok scFl (λ vs H Q E h=>?_) (λ cdv A outer s H vs Q E hr h=>?_)
 ·obtain ⟨ba,xs,hs,i,h,z,far,kt,kg,rfl,_⟩:=h
  rfl
 obtain ⟨ba,xs,hs,i,h,z,far,kt,kg,rfl,hz,B,hf,hh,L,k⟩:=h;refine ⟨_,(flT N Cg Ch hr).2,?_⟩;have xl:xs.length=hs.length:=Paired.length B.b;have few:=B.few;have k20:=B.t;have k21:=B.k;have sg:=a1M z;have gh:=B.g h (bV hh);have hil:i<hs.length:=(bN.mp hh).1;have s1k:=j9 (show (1000:Nat)<=1000 from aE _);have lrow:∀ g∈hs,(S5 z g).length=kt+kg+(N3 z).length+1:=λ g hg=>by rw [S9,(B.g g hg).lt,(B.g g hg).lg]
 refine ⟨_,rfl,_,rfl,ba,xs,hs,z,kt,kg,rfl,hz,B.l,B.b,by omega,by omega,by omega,λ g hg=>⟨(B.g g hg).lt,(B.g g hg).lg⟩,λ r H1 rs e1 hr1 lr hrs=>?_⟩;refine ⟨λ σ' H2=>∃ fl:Addr,σ'=[some (.ref ba),some (.int i),some (.str z),some (.ref r),some (.ref fl),none,none]/\Same H1 H2/\H2 fl=some (.lst ((hs.map λ g=>g.2.sum - g.1.sum).map V.int)),?_,?_⟩
 ·refine ⟨_,rfl,ba,rfl,⟨_,e1.seq B.l⟩,λ l hl=>?_⟩
  refine a3V (K1 (e1.seq B.l)) hl (by omega) (λ j y _=>∃ g,hs[j]?=some g/\y=.int (g.2.sum - g.1.sum)) (λ _ _ _ _ r _=>r) (λ j x H2 ys N' hx e hl2 hN=>?_) (λ ys H2 e hl2 len pr=>?_)
  ·obtain ⟨g,hg,⟨a,ta,ga,rfl,p1,p2,p3⟩⟩:=Paired.at B.b hx
   have e':=e1.trans e;refine ⟨a,_,rfl,e'.tseq p1,rfl,_,_,rfl,_,_,rfl,rfl,?_,?_⟩
   ·refine ⟨by simp,λ k w ek=>?_⟩
    have:¬ k<2:=λ hk=>by
     unfold blkσ at ek;rw [bQ (by simpa using hk),dG] at ek
     split at ek <;> cases ek
    rw [bC (by omega),bC (by omega)]; exact ek
   exact ⟨_,rfl,ga,_,rfl,.inr (e'.tseq p3),_,rfl,ta,_,rfl,.inr (e'.tseq p2),_,_,rfl,rfl,hN _ _ (Same.refl _) ⟨g,hg,rfl⟩⟩
  ·refine ⟨l,rfl,e,?_⟩
   rw [hl2]
   congr 2
   refine cJ λ j=>?_
   by_cases hj:j<ys.length
   ·obtain ⟨g,g1,g2⟩:=pr j _ (aG hj)
    rw [aG hj,g2,aD,aD,g1]; rfl
   ·rw [bL (by omega),bL (by rw [aA,aA]; omega)]
 rintro σ1 H2 ⟨fl,rfl,e2,hfl⟩;refine ⟨λ σ' H3=>∃ (ra:Addr) (rs':List Addr),σ'=[some (.ref ba),some (.int i),some (.str z),some (.ref ra),some (.ref fl),none,none]/\Same H2 H3/\H3 ra=some (.lst (rs'.map V.ref))/\rs'.length=hs.length/\∀ (j:Nat) a g,rs'[j]?=some a->hs[j]?=some g->H3 a=some (.lst ((S5 z g).map V.int)),?_,?_⟩
 ·refine ⟨_,rfl,_,rfl,r,fl,rfl,⟨_,SqL.of (e2 _ _ hr1)⟩,⟨_,SqL.of hfl⟩,λ l hl=>?_⟩
  refine a5Y (b1:=true) (b2:=true) (SqL.of (e2 _ _ hr1)) (SqL.of hfl) hl (by rw [aA,lr]; omega) (λ j y H3=>∃ a g,y=.ref a/\a≠l/\hs[j]?=some g/\H3 a=some (.lst ((S5 z g).map V.int)))
   (λ j y H3 H4 ⟨a,g,h1,h2,h3,h4⟩ e=>⟨a,g,h1,h2,h3,e a _ h2 h4⟩) (λ j x y H3 zs N' hx hy e hl2 hN=>?_) (λ zs H3 e hl2 len pr=>?_)
  ·obtain ⟨ra,hra,rfl⟩:∃ ra,rs[j]?=some ra/\x=.ref ra:=by
    rw [aD] at hx
    cases q1:rs[j]? with
    | none=>rw [q1] at hx; cases hx
    | some v=>rw [q1] at hx; cases hx; exact ⟨v,rfl,rfl⟩
   have hjl:j<hs.length:=by rw [<- lr]; exact (bN.mp hra).1
   have hg:hs[j]?=some hs[j]:=aG hjl;have hrow:=hrs j ra _ hra hg;have hyv:y=.int (hs[j].2.sum - hs[j].1.sum):=by
    rw [aD,aD,hg] at hy;exact (aN hy).symm
   subst hyv;generalize hs[j]=g at *;have gg:=B.g g (bV hg);refine ⟨_,rfl,_,rfl,(by show 1<=sizeLine; decide),λ a1 h1=>?_⟩;have n1:ra≠a1:=d9 (e _ _ (e2 _ _ hrow)) h1;refine ⟨ra,a1,_,_,rfl,rfl,(by rw [c9 n1]; exact e _ _ (e2 _ _ hrow)),upd_same,?_,λ a2 h2=>?_⟩
   ·rw [aA]
    unfold y6;simp [gg.lt,gg.lg];omega
   have s2:=(Same.new h1 (.lst [V.int (g.2.sum - g.1.sum)])).trans (Same.new h2 (.lst ((y6 z g).map V.int++[V.int (g.2.sum - g.1.sum)])));refine hN _ _ s2 ⟨a2,g,rfl,λ zz=>?_,hg,?_⟩
   ·rw [zz,(Same.new h1 (.lst [V.int (g.2.sum - g.1.sum)])) _ _ hl2] at h2; cases h2
   ·rw [upd_same]
    unfold S5;rw [aW]; rfl
  ·have hzs:zs=(zs.map a4z).map V.ref:=by
    rw [aT];refine cJ λ j=>?_;rw [aD]
    cases qj:zs[j]? with
    | none=>rfl
    | some y =>
     obtain ⟨a,_,rfl,_⟩:=pr j y qj;rfl
   refine ⟨l,zs.map a4z,rfl,e,by rw [hl2]; rw [<- hzs],by rw [aA,len,aA,aA,aA,lr,Nat.min_self],λ j a g hj hg=>?_⟩;rw [aD] at hj
   cases qj:zs[j]? with
   | none=>rw [qj] at hj; cases hj
   | some y =>
    obtain ⟨a',g',rfl,_,h3,h4⟩:=pr j y qj;rw [qj] at hj;have:a'=a:=aN hj;subst this;rw [hg] at h3
    cases h3;exact h4
 rintro σ2 H3 ⟨ra,rs',rfl,e3,hra,lr',hrs'⟩;have hi':i<rs'.length:=by omega
 have hri:rs'[i]?=some rs'[i]:=aG hi';generalize rs'[i]=ri at hri;have hrow:=hrs' i ri h hri hh;refine ⟨λ σ' H4=>∃ fa:Addr,σ'=[some (.ref ba),some (.int i),some (.str z),some (.ref ra),some (.ref fl),some (.ref fa),none]/\Same H3 H4/\H4 fa=some (.lst (((S5 z h).map λ x=>-x).map V.int)),?_,?_⟩
 ·refine ⟨_,rfl,_,rfl,ra,_,_,.ref ri,rfl,rfl,SqL.of hra,v7 (by rw [aD,hri]; rfl),ri,rfl,⟨_,SqL.of hrow⟩,λ l hl=>?_⟩
  refine W7 (K1 (SqL.of hrow)) hl (by rw [aA,lrow h (bV hh)]; omega) (λ x=>.int (-(vI x))) (λ j x H' N2 hx2 e2 hN2=>?_) ?_
  ·obtain ⟨x',rfl,_⟩:=a0B hx2
   exact ⟨Wk.set (by decide),_,rfl,_,rfl,hN2⟩
  have eg:((S5 z h).map V.int).map (λ x=>V.int (-(vI x)))=((S5 z h).map λ x=>-x).map V.int:=by rw [aT,aT]; rfl
  rw [eg];exact ⟨l,rfl,Same.new hl _,upd_same⟩
 rintro σ3 H4 ⟨fa,rfl,e4,hfa⟩;have lfa:(((S5 z h).map λ x=>-x).map V.int).length=kt+kg+(N3 z).length+1:=by rw [aA,aA,lrow h (bV hh)]
 refine ⟨λ σ' H5=>∃ ga:Addr,σ'=[some (.ref ba),some (.int i),some (.str z),some (.ref ra),some (.ref fl),some (.ref fa),some (.ref ga)]/\Same H4 H5/\H5 ga=some (.lst ((J7 z h).map V.int)),?_,?_⟩
 ·refine ⟨(by show 1<=sizeLine; decide),λ a1 h1=>?_⟩
  have s1:=Same.new h1 (.lst [.int 0]);have ek:((kt+kg+(N3 z).length+1:Nat):Int) - 1=((h.1.length+h.2.length+(N3 z).length:Nat):Int):=by rw [gh.lt,gh.lg]; omega
  refine ⟨_,rfl,fa,_,rfl,.inl (SqL.of (s1 _ _ hfa)),_,_,rfl,rfl,a1,_,_,rfl,rfl,upd_same,by rw [lfa,ek]; omega,by rw [lfa,ek,gh.lt,gh.lg]; omega,by rw [lfa,ek,bD,gh.lt,gh.lg]; simp; omega,λ a2 h2=>?_⟩;rw [lfa,ek,bD,S6];have s2:=s1.trans (Same.new h2 (.lst ((aJ (h.1.length+h.2.length+(N3 z).length) (0:Int)).map V.int)));refine ⟨(by show 1<=sizeLine; decide),λ a3 h3=>?_⟩;have s3:=s2.trans (Same.new h3 (.lst [.int 1]));have n23:a2≠a3:=d9 upd_same h3;refine ⟨a2,a3,_,_,rfl,rfl,(by rw [c9 n23]; exact upd_same),upd_same,?_,λ a4 h4=>?_⟩
  ·rw [aA,bK,gh.lt,gh.lg]; simp; omega
  refine ⟨a4,rfl,s3.trans (Same.new h4 _),?_⟩;rw [upd_same];unfold J7;rw [aW]; rfl
 rintro σ4 H5 ⟨ga,rfl,e5,hga⟩;have e35:=e4.trans e5;refine ⟨_,rfl,_,rfl,_,rfl,_,rfl,(by show 2<=sizeLine; decide),λ a1 h1=>?_⟩;have s1:=Same.new h1 (.lst [V.ref fa,V.ref ga]);have nr1:ra≠a1:=d9 (e35 _ _ hra) h1;refine ⟨ra,a1,_,_,rfl,rfl,(by rw [c9 nr1]; exact e35 _ _ hra),upd_same,?_,λ a2 h2=>?_⟩
 ·rw [aA,lr']; simp; omega
 have s2:=s1.trans (Same.new h2 (.lst (rs'.map V.ref++[V.ref fa,V.ref ga])));refine ⟨(by show 1<=sizeLine; decide),λ a3 h3=>?_⟩;have s3:=s2.trans (Same.new h3 (.lst [.int 0]));have e05:=e1.trans (e2.trans (e3.trans e35));refine ⟨_,rfl,ba,_,rfl,.inl ((e05.trans s3).seq B.l),a3,_,_,rfl,rfl,upd_same,by omega,by rw [xl]; omega,by rw [xl,bD]; simp; omega,λ a4 h4=>?_⟩;rw [xl,bD,S6];have s4:=s3.trans (Same.new h4 (.lst ((aJ hs.length (0:Int)).map V.int)));refine ⟨(by show 2<=sizeLine; decide),λ a5 h5=>?_⟩;have s5:=s4.trans (Same.new h5 (.lst [.int 0,.int 1]));have n45:a4≠a5:=d9 upd_same h5;refine ⟨a4,a5,_,_,rfl,rfl,(by rw [c9 n45]; exact upd_same),upd_same,?_,λ a6 h6=>?_⟩
 ·rw [aA,bK]; simp; omega
 have s6:=s5.trans (Same.new h6 (.lst ((aJ hs.length (0:Int)).map V.int++[.int 0,.int 1])));have eb:(aJ hs.length (0:Int)).map V.int++[.int 0,.int 1]=(a0b hs).map V.int:=by unfold a0b; rw [aW]; rfl
 have hA:=e05.trans s6;have g2:=(((Same.new h3 (.lst [.int 0])).trans (Same.new h4 (.lst ((aJ hs.length (0:Int)).map V.int)))).trans (Same.new h5 (.lst [.int 0,.int 1]))).trans (Same.new h6 (.lst ((aJ hs.length (0:Int)).map V.int++[.int 0,.int 1])));refine ⟨ga,a2,a6,J7 z h,rs'.map V.ref++[V.ref fa,V.ref ga],K2 z hs h,a0b hs,mF hs,qF z h,2 ^ 60,rfl,SqL.of (s6 _ _ hga),SqL.of (g2 _ _ upd_same),?_,?_,?_,?_,?_,?_,by show hs.length+2<900; omega,by show h.1.length+h.2.length+(N3 z).length+1<900; rw [gh.lt,gh.lg]; omega,?_,b3B gh B.g hf k20 k21 _,b1R _ (by show hs.length+2<20; omega),L.same hA,
  λ S H' t' aa wa O hn sz e' L' q1 q2 q3=>k S H' t' aa wa ⟨O,hn,sz⟩ (λ b o hb q'=>e' b o hb (hA b o q')) L' q1 q2 q3,λ S H' c O hc hneg hno e' L'=>(O.bounded1 (l:=hs.length+1) (by show hs.length+1<hs.length+2; omega) (λ j _=>a5T j) hc hneg hno).elim⟩
 ·unfold K2
  refine Paired.app ((a9J (K:=K) lr' hrs').same (e35.trans s6)) (.cons ⟨fa,rfl,SqL.of (s6 _ _ (e5 _ _ hfa))⟩ (.cons ⟨ga,rfl,SqL.of (s6 _ _ hga)⟩ .nil))
 ·rw [<- eb]; exact SqL.of upd_same
 ·unfold K2; simp
 ·unfold a0b; simp
 ·unfold J7; simp
 ·intro r' hr'
  unfold K2 at hr';rcases aS.mp hr' with hr' | hr'
  ·obtain ⟨g,hg,rfl⟩:=bH.mp hr'
   rw [lrow g hg]
   show _=h.1.length+h.2.length+(N3 z).length+1
   rw [gh.lt,gh.lg]
  ·simp only [aH,bA,or_false] at hr'
   rcases hr' with rfl | rfl
   ·rw [aA,S9]
   ·unfold J7; simp
 ·intro j hj
  unfold J3 a0b;rw [aI]
  by_cases h':j<hs.length
  ·rw [bQ (by simpa using h'),dG,if_pos h']; exact cC _
  ·rw [cA (by simp; omega),bK]
   have hj':j<hs.length+2:=hj;have:j - hs.length=0\/j - hs.length=1:=by omega
   rcases this with q' | q' <;> rw [q'] <;> decide
end
structure b1U (z:Str) (hs:List i9) (h:i9) (pt pg:List Int) (ps:Int):Prop where
 lt:pt.length=h.1.length
 lg:pg.length=h.2.length
 tp:∀ x∈pt,0<x
 gp:∀ x∈pg,0<x
 sign:a2B z ps
 fair:∀ g∈hs,O9 g pg ps<=pay g pt
 firm:O9 h pg ps=pay h pt
def a2o (z:Str) (hs:List i9) (h:i9):Prop:=∃ pt pg ps,b1U z hs h pt pg ps
theorem a3z:∀ {l x y:List Int},x.length=y.length->t8 l (cD (·+·) x y)=t8 l x+t8 l y
 | [],x,y,_=>by simp [t8]
 | a::l,[],[],_=>by simp [t8]
 | a::l,b::x,c::y,h=>by
  have:=a3z (l:=l) (x:=x) (y:=y) (by simpa using h);unfold t8 at *;simp only [cG,bX];rw [this,fG]; omega
 | a::l,[],c::y,h=>by simp at h
 | a::l,b::x,[],h=>by simp at h
theorem a4C:∀ {l:List Int} {k:Nat} {f:Int},l.length=k->t8 l (aJ k f)=l.sum*f
 | [],k,f,_=>by simp [t8]
 | a::l,0,f,h=>by simp at h
 | a::l,k+1,f,h=>by
  have:=a4C (l:=l) (k:=k) (f:=f) (by simpa using h);unfold t8 at *;rw [dH,cG,bX,this,bX,cQ]
abbrev upL (xs:List Int) (f:Int):List Int:=xs.map (·+f)
theorem a9f {l xs:List Int} {f:Int} (h:l.length=xs.length):t8 l (upL xs f)=t8 l xs+l.sum*f:=by
 have e:upL xs f=cD (·+·) xs (aJ xs.length f):=by
  unfold upL;refine cJ λ i=>?_
  by_cases hi:i<xs.length
  ·rw [aD,iH,dG,if_pos hi,aG hi]; rfl
  ·rw [bL (by simp; omega),bL (by simp; omega)]
 rw [e,a3z (by simp),a4C h]
theorem a0J {z:Str} {g h:i9} (h1:g.1.length=h.1.length) (h2:g.2.length=h.2.length) {xs:List Int} {fl:Int} (hl:xs.length=h.1.length+h.2.length+(N3 z).length) :
  t8 (S5 z g) (xs++[fl])=O9 g (upL (pgA h xs) fl) (psA z h xs) - pay g (upL (ptA h xs) fl):=by
 unfold S5;rw [a0O (by unfold y6; simp [h1,h2,hl]; omega),a6V h1 h2];unfold O9 pay;have e1:t8 g.2 (upL (pgA h xs) fl)=t8 g.2 (pgA h xs)+g.2.sum*fl:=a9f (by rw [h2,bP,cW]; omega);have e2:t8 g.1 (upL (ptA h xs) fl)=t8 g.1 (ptA h xs)+g.1.sum*fl:=a9f (by rw [h1,bP]; omega);dsimp only [t8] at *;rw [e1,e2,jR];omega
theorem a4Q {m q:Nat} {S:Lp.Bo}:r8 m (q+1) S=(r8 m (q+1) S).take q++[Lp.valIn m S (q+1) q]:=by
 unfold r8;rw [fN,aW,gQ (by simp)]; rfl
section
variable {z:Str} {hs:List i9} {h:i9} {S:Lp.Bo} {kt kg i:Nat}
theorem a0X (xs:List Int) (fl:Int) (hl:xs.length=h.1.length+h.2.length+(N3 z).length):t8 (J7 z h) (xs++[fl])=fl:=by
 unfold J7;rw [a0O (by simp [hl]),Z7,fL,fY]
theorem b2e (i:Nat) {g:i9} (hg:hs[i]?=some g):(K2 z hs h)[i]?=some (S5 z g):=by
 have hil:i<hs.length:=(bN.mp hg).1;unfold K2;rw [bQ (by rw [aA]; exact hil),aD,hg]; rfl
theorem b2c:(K2 z hs h)[hs.length]?=some ((S5 z h).map λ x=>-x):=by
 unfold K2;rw [cA (by simp),aA,fM]; rfl
theorem a1L (hi:i<=hs.length):(a0b hs).getD i 0=0:=by
 unfold a0b;rw [D4,bK]
 by_cases h1:i<hs.length
 ·rw [if_pos h1,S7]
 ·rw [if_neg h1,show i - hs.length=0 by omega]; rfl
theorem a4V (hz:Szw z) (B:a6X z hs h S) (hk:∀ g∈hs,g.1.length=kt/\g.2.length=kg) (hh:hs[i]?=some h) (hp:0<S.T (mF hs) (qF z h)) :
  b1U z hs h (upL (ptA h ((r8 (mF hs) (qF z h) S).take (qE z h))) (S.T (mF hs) (qF z h))) (upL (pgA h ((r8 (mF hs) (qF z h) S).take (qE z h))) (S.T (mF hs) (qF z h))) (psA z h ((r8 (mF hs) (qF z h) S).take (qE z h))):=by
 obtain ⟨O,hn,sz⟩:=B;have kh:=hk h (bV hh);have hsp:r8 (mF hs) (qF z h) S=(r8 (mF hs) (qF z h) S).take (qE z h)++[Lp.valIn (mF hs) S (qF z h) (qE z h)]:=a4Q;have la:(r8 (mF hs) (qF z h) S).length=qE z h+1:=by unfold r8; simp
 have lx:((r8 (mF hs) (qF z h) S).take (qE z h)).length=h.1.length+h.2.length+(N3 z).length:=by rw [bP,la]; show min (h.1.length+h.2.length+(N3 z).length) (h.1.length+h.2.length+(N3 z).length+1)=_; omega
 have nn:=a6m O;have eT:Lp.valIn (mF hs) S (qF z h) (qE z h)=S.T (mF hs) (qF z h):=by
  have:=a5a O (by unfold J7; simp);rw [hsp,a0X _ _ lx] at this;exact this
 generalize hxs:(r8 (mF hs) (qF z h) S).take (qE z h)=xs at *;have xnn:∀ x∈xs,0<=x:=λ x hx=>nn x (by rw [hsp]; exact dJ _ hx);have fair:∀ g∈hs,O9 g (upL (pgA h xs) (S.T (mF hs) (qF z h))) (psA z h xs)<=pay g (upL (ptA h xs) (S.T (mF hs) (qF z h))):=λ g hg=>by
  obtain ⟨k,hk'⟩:=iL hg;have hkl:=(bN.mp hk').1;have kg':=hk g hg;have:=a3L O (i:=k) (by show k<hs.length+2; omega) (b2e k hk') (by rw [S9,kg'.1,kg'.2,kh.1.symm,kh.2.symm]);rw [hsp,a0J (h:=h) (by rw [kg'.1,kh.1]) (by rw [kg'.2,kh.2]) lx,a1L (by omega),dP,eT] at this;omega
 refine ⟨by simp [lx]; omega,by simp [lx]; omega,λ x hx=>?_,λ x hx=>?_,a6L hz λ x hx=>xnn x (eL hx),fair,?_⟩
 ·obtain ⟨y,hy,rfl⟩:=bH.mp hx
  have:=xnn y (fA hy); omega
 ·obtain ⟨y,hy,rfl⟩:=bH.mp hx
  have:=xnn y (eL (fA hy)); omega
 ·have f1:=fair h (bV hh)
  have:=a3L O (i:=hs.length) (by show hs.length<hs.length+2; omega) b2c (by rw [aA,S9]);rw [hsp,a0I,a0J (h:=h) rfl rfl lx,a1L (aE _),dP,eT] at this;omega
theorem a4u (hz:Szw z) (B:a6X z hs h S) (hk:∀ g∈hs,g.1.length=kt/\g.2.length=kg) (hh:hs[i]?=some h) (R:a2o z hs h):0<S.T (mF hs) (qF z h):=by
 obtain ⟨O,hn,sz⟩:=B;obtain ⟨pt,pg,ps,R⟩:=R;have kh:=hk h (bV hh);obtain ⟨sx,sl,snn,sv⟩:∃ sx:List Int,sx.length=(N3 z).length/\(∀ x∈sx,0<=x)/\t8 sx (N3 z)=ps:=by
  have sg:=R.sign;rcases hz with rfl | rfl | rfl | rfl
  ·have h1:=sg.1 (.inl rfl)
   have h2:=sg.2 (.inl rfl);exact ⟨[],rfl,nofun,by show (0:Int)=ps; omega⟩
  ·by_cases h0:0<=ps
   ·refine ⟨[ps,0],rfl,λ x hx=>?_,?_⟩
    ·simp only [aH,bA,or_false] at hx
     rcases hx with rfl | rfl
     ·exact h0
     ·exact cC _
    ·show ps*1+(0 * -1+0)=ps; omega
   ·refine ⟨[0,-ps],rfl,λ x hx=>?_,?_⟩
    ·simp only [aH,bA,or_false] at hx
     rcases hx with rfl | rfl
     ·exact cC _
     ·omega
    ·show 0*1+(-ps * -1+0)=ps; omega
  ·have h1:=sg.1 (.inr rfl)
   exact ⟨[-ps],rfl,λ x hx=>by rw [aY.mp hx]; omega,by show -ps * -1+0=ps; omega⟩
  ·have h1:=sg.2 (.inr rfl)
   exact ⟨[ps],rfl,λ x hx=>by rw [aY.mp hx]; exact h1,by show ps*1+0=ps; omega⟩
 have hxl:(pt.map (· - 1)++pg.map (· - 1)++sx).length=h.1.length+h.2.length+(N3 z).length:=by simp [R.lt,R.lg,sl]; omega
 have e1:upL (ptA h (pt.map (· - 1)++pg.map (· - 1)++sx)) 1=pt:=by
  unfold ptA upL;rw [dI,gQ (by simp [R.lt]),aT];refine (cS λ x _=>?_).trans (kJ _)
  show x - 1+1=x; omega
 have e2:upL (pgA h (pt.map (· - 1)++pg.map (· - 1)++sx)) 1=pg:=by
  unfold pgA upL;rw [dI,kK (by simp [R.lt]),gQ (by simp [R.lg]),aT];refine (cS λ x _=>?_).trans (kJ _)
  show x - 1+1=x; omega
 have e3:psA z h (pt.map (· - 1)++pg.map (· - 1)++sx)=ps:=by
  unfold psA;rw [kK (by simp [R.lt,R.lg])]; exact sv
 generalize hx0:pt.map (· - 1)++pg.map (· - 1)++sx=xs at *;have xnn:∀ x∈xs++[1],0<=x:=λ x hx=>by
  rcases aS.mp hx with hx | hx
  ·rw [<- hx0] at hx
   rcases aS.mp hx with hx | hx
   ·rcases aS.mp hx with hx | hx
    ·obtain ⟨y,hy,rfl⟩:=bH.mp hx
     have:=R.tp y hy; omega
    ·obtain ⟨y,hy,rfl⟩:=bH.mp hx
     have:=R.gp y hy; omega
   ·exact snn x hx
  ·rw [aY.mp hx]; decide
 have lq:(xs++[1]).length=qF z h:=by rw [aM,hxl]; rfl
 have toD:∀ {row:List Int} {i:Nat},(K2 z hs h)[i]?=some row->row.length=qF z h->Lp.sumTo (λ j=>V5 (K2 z hs h) i j*(xs++[1]).getD j 0) (qF z h)=t8 row (xs++[1]):=λ {row i} hr hl=>by
  rw [<- J6 (qF z h) row (xs++[1]) hl lq];exact Lp.sum_congr λ j _=>by rw [Y9 hr]
 have key:=O.weak hn (y:=λ j=>(xs++[1]).getD j 0) (e:=1) (λ j hj=>?_) λ k hk'=>?_
 ·have eg:Lp.sumTo (λ j=>J3 (J7 z h) j*(xs++[1]).getD j 0) (qF z h)=1:=by
   have:=J6 (qF z h) (J7 z h) (xs++[1]) (by unfold J7; simp) lq;rw [a0X _ _ hxl] at this;exact this
  rw [eg] at key;have:=O.w.pos;omega
 ·rw [aI,aG (by rw [lq]; exact hj)]
  exact xnn _ (cP _)
 ·have hk2:k<hs.length+2:=hk'
  show _<=J3 (a0b hs) k*1
  rw [eP]
  by_cases c1:k<hs.length
  ·have hg:hs[k]?=some hs[k]:=aG c1
   have kg':=hk hs[k] (cP c1);rw [toD (b2e k hg) (by rw [S9,kg'.1,kg'.2,kh.1.symm,kh.2.symm]),a0J (h:=h) (by rw [kg'.1,kh.1]) (by rw [kg'.2,kh.2]) hxl,e1,e2,e3]
   show _<=(a0b hs).getD k 0
   rw [a1L (by omega)];have:=R.fair hs[k] (cP c1);omega
  ·by_cases c2:k=hs.length
   ·subst c2
    rw [toD b2c (by rw [aA,S9]),a0I,a0J (h:=h) rfl rfl hxl,e1,e2,e3]
    show _<=(a0b hs).getD hs.length 0
    rw [a1L (aE _)];have:=R.firm;omega
   ·have c3:k=hs.length+1:=by omega
    subst c3;have hr:(K2 z hs h)[hs.length+1]?=some (J7 z h):=by
     unfold K2;rw [cA (by simp),aA,dU]; rfl
    rw [toD hr (by unfold J7; simp),a0X _ _ hxl]
    show (1:Int)<=(a0b hs).getD (hs.length+1) 0
    unfold a0b;rw [D4,bK,if_neg (by omega),dU]; decide
theorem b0U (hz:Szw z) (B:a6X z hs h S) (hk:∀ g∈hs,g.1.length=kt/\g.2.length=kg) (hh:hs[i]?=some h):0<S.T (mF hs) (qF z h) ↔ a2o z hs h :=
 ⟨λ hp=>⟨_,_,_,a4V hz B hk hh hp⟩,a4u hz B hk hh⟩
end
end Rim
namespace L2
open PySem
section
variable {fr:List Nat} {tc:TT} {σ:St} {H1:Hp} {p:Addr} {D:Hp->Prop} {P:Addr} {pos:Pos} {qual:Str} {n:Nat}
theorem a8q (T:LamTab P pos qual H1) (hp:H1 p=none) (hz:n<sizeLine) (F:Nat->Bool)
  (step:∀ (i:Nat) H ys (N:Bool->Hp->Prop),i<n->Same1 P H1 H->LamTab P pos qual H->H p=some (.lst ys)->(∀ H3,Same1 P H H3->LamTab P pos qual H3->N (F i) H3)->tc ((blkσ 1 fr σ).set 0 (some (.int (i:Int)))) H N)
  (hd:∀ H,Same1 P H1 H->LamTab P pos qual H->H p=some (.lst (((aF n).filter F).map λ (i:Nat)=>V.int (i:Int)))->D H):lcI 1 fr (M7 0) tc (a4G 0) σ (Itr 0 n) H1 p D:=by
 refine ⟨λ i m ys H=>m=n - i/\i<=n/\ys=((aF i).filter F).map (λ (i:Nat)=>V.int (i:Int))/\Same1 P H1 H/\LamTab P pos qual H/\H p=some (.lst ys),⟨n,by simp,bU _,rfl,(Same.new hp _).to1,T.same (Same.new hp _),upd_same⟩,?_⟩;rintro i m ys H ⟨rfl,hi,rfl,e,L,hH⟩
 by_cases hlt:i<n
 ·refine .inr ⟨hlt,λ x H' y=>?_⟩
  obtain ⟨rfl,rfl⟩:=y;rw [fL];have tk:(aF (i+1)).filter F=(aF i).filter F++[i].filter F:=by rw [fN,gK]
  refine ⟨Wk.set (by decide),step i _ _ _ hlt e L hH λ H3 e3 L3=>?_⟩;have h3:=e3.get L hH nofun
  cases hq:F i with
  | false =>
   rw [if_neg bY];refine ⟨n - (i+1),by omega,rfl,hlt,?_,e.trans e3,L3,h3⟩;rw [tk]; simp [hq]
  | true =>
   rw [if_pos rfl];refine ⟨.int (i:Int),?_,h3,?_,n - (i+1),by omega,rfl,hlt,?_,(e.trans e3).write hp,L3.write h3,upd_same⟩
   ·show ((blkσ 1 fr σ).set 0 (some (.int (i:Int))))[0]?=some (some (.int (i:Int)))
    rw [bR (by simp [blkσ])]
   ·have h1:=fW F (aF i)
    rw [dQ] at h1;rw [aA];omega
   ·rw [tk]; simp [hq]
 ·have:i=n:=by omega
  subst this;exact .inl ⟨Nat.le_refl _,hd H e L hH⟩
end
end L2
namespace Rim
open PySem L2 Fr
open Classical in
noncomputable def a2J (z:Str) (hs:List i9):List Nat:=(aF hs.length).filter λ i=>decide (a2o z hs (hs.getD i ([],[])))
section
variable {P:Program} {w:World} {K:W.Frag} {mg:Str->Option Value} {base:Heap} {f Pt d:Addr} {fd:FuncData} {n:Nat} {C:Addr}
def a1H (K:W.Frag) (Pt:Addr):Sp:=λ vs H Q _=>∃ (ba:Addr) (xs:List V) (hs:List i9) (z:Str) (far:Int) (kt kg:Nat),vs=[.ref ba,.str z]/\Szw z/\U6 K H ba xs hs far kt kg/\far<=2 ^ 50/\LT Pt H ∧
 ∀ (H':Hp) (r:Addr),Same1 Pt H H'->LT Pt H'->H r=none->H' r=some (.lst ((a2J z hs).map λ (i:Nat)=>V.int (i:Int)))->Q (.ref r) H'
theorem b5N:j8 ["book","sizes"] ["book","sizes"] (h8 a5D):=⟨rfl,rfl,rfl,by decide +kernel,rfl,by decide +kernel,by decide +kernel⟩
theorem b5v:(["number","book","sizes"]:List Str).Nodup:=by decide +kernel
theorem a9j {f1:Addr} {d1:FuncData} (F:Fun K "rim_of" "rim_of" a5D f fd) (N:u0 mg) (Cf:S4 P w K mg base n "greatest_floor" ["houses","number","sizes"] (a6y K Pt) f1 d1):FnOk P w K mg base D7 (n+1) f fd ["book","sizes"] (a1H K Pt):=by
 refine F.ok b5N (λ vs H Q E h=>?_) (λ cdv A outer s H vs Q E hr h=>?_)
 ·obtain ⟨ba,xs,hs,z,far,kt,kg,rfl,_⟩:=h
  rfl
 obtain ⟨ba,xs,hs,z,far,kt,kg,rfl,hz,B,hf,L,k⟩:=h;refine ⟨_,j0 (o4 (a9v ["number"] [0,1] rfl (E7 rfl N.range (a0 (j3 j7 rfl N.len bE (a0 (pv 0) d0)) d0)) (λ _ _ _ _=>m5 (i:=0) b5v rfl (aC rfl))
  (λ _ _ _ _=>m6 a1S (j5 (V9 K rfl) (m9 Cf.ok hr rfl Cf.m Cf.k Cf.b .nil t7 (a0 (pv 1) (a0 (pv 0) (a0 (pv 2) d0)))) g0 (λ _ _=>rfl)) g0 (p6 _)) (λ _ _ _ _=>pv 0))),?_⟩
 have xl:xs.length=hs.length:=Paired.length B.b;have few:=B.few;have s1k:=j9 (show (1000:Nat)<=1000 from aE _);have hk:∀ g∈hs,g.1.length=kt/\g.2.length=kg:=λ g hg=>⟨(B.g g hg).lt,(B.g g hg).lg⟩;refine ⟨_,rfl,ba,_,rfl,.inl B.l,_,rfl,by omega,by omega,?_⟩;rw [xl,bD];intro p hp;refine a8q (n:=hs.length) L hp (by omega) _ (λ i H2 ys N' hi e L2' hp2 hN=>?_) (λ H2 e L2' hp2=>k H2 p e L2' hp hp2);have hh:hs[i]?=some hs[i]:=aG hi;refine ⟨_,rfl,_,rfl,_,rfl,ba,xs,hs,i,hs[i],z,far,kt,kg,rfl,hz,⟨SqL.same1 L e B.l,Bk.same1 L e B.b,B.g,B.far,B.few,B.t,B.k⟩,hf,hh,L2',λ S H3 t aa wa BF e3 L3 ht _ _=>?_⟩;refine ⟨t,_,0,_,rfl,rfl,SqT.of ht,v7 (j:=0) rfl,_,_,rfl,rfl,_,rfl,?_⟩;have hd:hs.getD i ([],[])=hs[i]:=by rw [aI,hh]; rfl
 have eb:decide (S.T (mF hs) (qF z hs[i])>0)=(λ i=>@decide (a2o z hs (hs.getD i ([],[]))) (iM _)) i:=by
  have:=b0U hz BF hk hh
  show _=@decide (a2o z hs (hs.getD i ([],[]))) (iM _)
  rw [hd]
  by_cases c:0<S.T (mF hs) (qF z hs[i])
  ·have c2:=this.mp c
   rw [decide_eq_true (show S.T (mF hs) (qF z hs[i])>0 from c)];simp [c2]
  ·have c2:¬ a2o z hs hs[i]:=λ q=>c (this.mpr q)
   rw [decide_eq_false (show ¬ S.T (mF hs) (qF z hs[i])>0 from c)];simp [c2]
 rw [eb];exact hN H3 e3 L3
end
end Rim
namespace Rim
open PySem L2 Fr
structure Mx (z:Str) (hs:List i9) (ws:List Int) (D:Int):Prop where
 lw:ws.length=hs.length
 nn:∀ x∈ws,0<=x
 d:0<D
 size:a3W z ws.sum D
structure Px (z:Str) (hs:List i9) (kt kg:Nat) (pt pg:List Int) (ps:Int):Prop where
 lt:pt.length=kt
 lg:pg.length=kg
 tn:∀ x∈pt,0<=x
 gn:∀ x∈pg,0<=x
 sign:a2B z ps
 fair:∀ g∈hs,O9 g pg ps<=pay g pt
theorem E2 (a b:Int) (l x:List Int):t8 (a::l) (b::x)=a*b+t8 l x:=rfl
theorem a2y {f:i9->List Int} {k:Nat}:∀ {hs:List i9} {ws p:List Int},ws.length=hs.length->(∀ g∈hs,(f g).length=k)->p.length=k →
  t8 (hs.map λ g=>t8 (f g) p) ws=t8 ((aF k).map λ j=>t8 (hs.map λ g=>(f g).getD j 0) ws) p
 | [],ws,p,_,_,hp=>by
  have e:∀ (l:List Nat) (p:List Int),t8 (l.map λ _=>(0:Int)) p=0:=λ l=>by
   induction l with
   | nil=>intro p; simp [t8]
   | cons a r ih =>
    intro p
    cases p with
    | nil=>simp [t8]
    | cons b p=>rw [aV,E2,ih p]; omega
  show (0:Int)=_
  rw [show ((aF k).map λ j=>t8 (([]:List i9).map λ g=>(f g).getD j 0) ws)=(aF k).map λ _=>(0:Int) from cS λ j _=>by simp [t8],e]
 | g::hs,[],p,h,_,_=>by simp at h
 | g::hs,w::ws,p,h,hk,hp=>by
  have ih:=a2y (f:=f) (k:=k) (hs:=hs) (ws:=ws) (p:=p) (by simpa using h) (λ x hx=>hk x (.tail _ hx)) hp;rw [aV,E2,ih];have e1:((aF k).map λ j=>t8 ((g::hs).map λ g=>(f g).getD j 0) (w::ws))=cD (·+·) ((f g).map λ x=>x*w) ((aF k).map λ j=>t8 (hs.map λ g=>(f g).getD j 0) ws):=by
   have lg:=hk g (.head _);refine cJ λ j=>?_
   by_cases hj:j<k
   ·rw [aD,bF hj,iH,aD,aD,bF hj,aG (by rw [lg]; exact hj)]
    simp only [eX];rw [aV,E2,aI,aG (by rw [lg]; exact hj)]; rfl
   ·rw [bL (by simp; omega),bL (by simp; omega)]
  rw [e1,S3 (cD _ _ _) p,a3z (by simp [hk g (.head _)]),S3 p,S3 p]
  congr 1
  have:∀ (l p:List Int),t8 (l.map λ x=>x*w) p=t8 l p*w:=λ l=>by
   induction l with
   | nil=>intro p; simp [t8]
   | cons a r ih =>
    intro p
    cases p with
    | nil=>simp [t8]
    | cons b p =>
     rw [aV,E2,E2,ih p,cQ]
     congr 1
     ac_rfl
  rw [this]
theorem a0R:∀ {l m p:List Int},l.length=m.length->(∀ x∈p,0<=x)->(∀ j,j<l.length->l.getD j 0<=m.getD j 0)->t8 l p<=t8 m p
 | [],[],p,_,_,_=>cC _
 | a::l,b::m,[],_,_,_=>cC _
 | a::l,b::m,c::p,h,hp,hj=>by
  have ih:=a0R (l:=l) (m:=m) (p:=p) (by simpa using h) (λ x hx=>hp x (.tail _ hx)) λ j hl=>by
   have:=hj (j+1) (by simpa using hl)
   simpa using this
  have h0:a<=b:=by simpa using hj 0 (by simp)
  rw [E2,E2];have:=eK h0 (hp c (.head _));omega
 | [],_::_,_,h,_,_=>by simp at h
 | _::_,[],_,h,_,_=>by simp at h
theorem Z3 (s:Int):∀ (l p:List Int),t8 (l.map λ x=>x*s) p=t8 l p*s
 | [],p=>by simp [t8]
 | a::l,[]=>by simp [t8]
 | a::l,b::p=>by
  rw [aV,E2,E2,Z3 s l p,cQ]
  congr 1
  ac_rfl
section
variable {z:Str} {hs:List i9} {h:i9} {kt kg:Nat} {ws pt pg:List Int} {D ps:Int}
theorem a6r (j i:Nat):N7 hs ws j i=t8 (hs.map λ g=>(X1 j g).getD i 0) ws:=by
 unfold N7 col;rw [aT]; rfl
theorem a9u (hz:Szw z) (M:Mx z hs ws D) (P:Px z hs kt kg pt pg ps) (hk:∀ g∈hs,g.1.length=kt/\g.2.length=kg) :
  t8 ((aF kg).map λ j=>N7 hs ws 1 j) pg+ps*D<=t8 ((aF kt).map λ j=>N7 hs ws 0 j) pt:=by
 have e0:t8 (hs.map λ g=>pay g pt) ws=t8 ((aF kt).map λ j=>N7 hs ws 0 j) pt:=by
  have:=a2y (f:=λ g=>g.1) (hs:=hs) (ws:=ws) (p:=pt) M.lw (λ g hg=>(hk g hg).1) P.lt;rw [show (λ j=>N7 hs ws 0 j)=λ j=>t8 (hs.map λ g=>g.1.getD j 0) ws from funext λ j=>a6r 0 j];exact this
 have e1:t8 (hs.map λ g=>t8 g.2 pg) ws=t8 ((aF kg).map λ j=>N7 hs ws 1 j) pg:=by
  have:=a2y (f:=λ g=>g.2) (hs:=hs) (ws:=ws) (p:=pg) M.lw (λ g hg=>(hk g hg).2) P.lg;rw [show (λ j=>N7 hs ws 1 j)=λ j=>t8 (hs.map λ g=>g.2.getD j 0) ws from funext λ j=>a6r 1 j];exact this
 have e2:t8 (hs.map λ g=>O9 g pg ps) ws=t8 (hs.map λ g=>t8 g.2 pg) ws+ps*ws.sum:=by
  have:∀ (hs:List i9) (ws:List Int),hs.length=ws.length->t8 (hs.map λ g=>O9 g pg ps) ws=t8 (hs.map λ g=>t8 g.2 pg) ws+ps*ws.sum:=λ hs=>by
   induction hs with
   | nil =>
    intro ws hl;rw [gA hl.symm]; simp [t8]
   | cons g r ih =>
    intro ws hl
    cases ws with
    | nil=>simp at hl
    | cons w ws =>
     have:=ih ws (by simpa using hl);rw [aV,aV,E2,E2,this,bX];have e:O9 g pg ps=t8 g.2 pg+ps:=rfl;rw [e,cQ,fG];omega
  exact this hs ws M.lw.symm
 have le:t8 (hs.map λ g=>O9 g pg ps) ws<=t8 (hs.map λ g=>pay g pt) ws:=by
  refine a0R (by simp) M.nn λ j hj=>?_;have hj':j<hs.length:=by simpa using hj
  rw [aI,aI,aD,aD,aG hj'];exact P.fair _ (cP hj')
 have sz:ps*D<=ps*ws.sum:=by
  obtain ⟨s1,s2⟩:=M.size;obtain ⟨g1,g2⟩:=P.sign;rcases hz with c | c | c | c
  ·have:=g1 (.inl c); have:=g2 (.inl c)
   have:ps=0:=by omega
   rw [this]; simp
  ·have a1:=s1 (.inl c)
   have a2:=s2 (.inl c);have:ws.sum=D:=by omega
   rw [this]; exact cC _
  ·have a1:=g1 (.inr c)
   have a2:=s1 (.inr c);have:=fJ a2 (show 0 <= -ps by omega);rw [eJ,eJ] at this;omega
  ·have a1:=g2 (.inr c)
   have a2:=s2 (.inr c);exact fJ a2 a1
 rw [e0,e2,e1] at le;omega
structure Shr (z:Str) (hs:List i9) (h:i9) (kt kg:Nat) (A B:Int) (ws:List Int) (D:Int):Prop where
 m:Mx z hs ws D
 t:∀ j,j<kt->N7 hs ws 0 j*B<=h.1.getD j 0*A*D
 g:∀ j,j<kg->h.2.getD j 0*D<=N7 hs ws 1 j
structure Gro (z:Str) (hs:List i9) (h:i9) (kt kg:Nat) (A B:Int) (ws:List Int) (D:Int):Prop where
 m:Mx z hs ws D
 t:∀ j,j<kt->N7 hs ws 0 j<=h.1.getD j 0*D
 g:∀ j,j<kg->h.2.getD j 0*A*D<=N7 hs ws 1 j*B
theorem a5b {k:Nat} {F:Nat->Int} {j:Nat} (h:j<k):((aF k).map F).getD j 0=F j:=a1n h
theorem Shr.weak {A B:Int} (hz:Szw z) (S:Shr z hs h kt kg A B ws D) (P:Px z hs kt kg pt pg ps) (hk:∀ g∈hs,g.1.length=kt/\g.2.length=kg) (h1:h.1.length=kt) (h2:h.2.length=kg) (hB:0<B):O9 h pg ps*B<=A*pay h pt:=by
 have L:=a9u hz S.m P hk;have dp:=S.m.d;have a1:t8 h.2 pg*D<=t8 ((aF kg).map λ j=>N7 hs ws 1 j) pg:=by
  rw [<- Z3];refine a0R (by simp [h2]) P.gn λ j hj=>?_;have hj':j<kg:=by simpa [h2] using hj
  rw [a5b hj',aI,aD,aG (by omega)];have:=S.g j hj';rw [aI,aG (by omega)] at this;exact this
 have a2:t8 ((aF kt).map λ j=>N7 hs ws 0 j) pt*B<=t8 h.1 pt*(A*D):=by
  rw [<- Z3,<- Z3];refine a0R (by simp [h1]) P.tn λ j hj=>?_;have hj':j<kt:=by simpa using hj
  rw [aI,aD,aD,bF hj',aI,aD,aG (by omega)];have:=S.t j hj';rw [aI,aG (by omega)] at this
  show N7 hs ws 0 j*B<=h.1[j]*(A*D)
  rw [<- aX]; exact this
 refine iG (a:=D) ?_ dp;have e1:O9 h pg ps=t8 h.2 pg+ps:=rfl;have e2:pay h pt=t8 h.1 pt:=rfl;rw [e1,e2];have b1:=eK L (bG hB);have b2:=eK a1 (bG hB);have x1:(t8 h.2 pg+ps)*B*D=t8 h.2 pg*D*B+ps*D*B:=by rw [cQ,cQ]; congr 1 <;> ac_rfl
 have x2:A*t8 h.1 pt*D=t8 h.1 pt*(A*D):=by ac_rfl
 rw [cQ] at b1;rw [x1,x2];omega
def IsShare (z:Str) (hs:List i9) (h:i9) (kt kg:Nat) (A B:Int):Prop:=0<B/\(∃ ws D,Shr z hs h kt kg A B ws D)/\∃ pt pg ps,Px z hs kt kg pt pg ps/\0<pay h pt/\O9 h pg ps*B=A*pay h pt
theorem IsShare.le {A B A' B':Int} (hz:Szw z) (I:IsShare z hs h kt kg A B) (hk:∀ g∈hs,g.1.length=kt/\g.2.length=kg) (h1:h.1.length=kt) (h2:h.2.length=kg) (hB:0<B') {ws:List Int} {D:Int} (S:Shr z hs h kt kg A' B' ws D):A*B'<=A'*B:=by
 obtain ⟨b,_,pt,pg,ps,P,pp,e⟩:=I;have w:=S.weak hz P hk h1 h2 hB;refine iG (a:=pay h pt) ?_ pp;have x:=eK w (bG b);have y1:O9 h pg ps*B'*B=O9 h pg ps*B*B':=by ac_rfl
 rw [y1,e] at x;have y2:A*pay h pt*B'=A*B'*pay h pt:=by ac_rfl
 have y3:A'*pay h pt*B=A'*B*pay h pt:=by ac_rfl
 omega
theorem IsShare.eq {A B A' B':Int} (hz:Szw z) (I:IsShare z hs h kt kg A B) (J:IsShare z hs h kt kg A' B') (hk:∀ g∈hs,g.1.length=kt/\g.2.length=kg) (h1:h.1.length=kt) (h2:h.2.length=kg):A*B'=A'*B:=by
 obtain ⟨_,⟨ws,D,S⟩,_⟩:=id J;obtain ⟨_,⟨ws',D',S'⟩,_⟩:=id I;have a:=I.le hz hk h1 h2 J.1 S;have b:=J.le hz hk h1 h2 I.1 S';omega
theorem Best.is {S:Lp.Bo} {far:Int} (hz:Szw z) (B:Best z hs h S) (hG:∀ g∈hs,HG far kt kg g) (gh:HG far kt kg h) (kt1:1<=kt) (kt4:kt<=20) (kg4:kg<=20):IsShare z hs h kt kg (S.T (mE hs) (qE z h)) S.d:=by
 have T:=a6l hz B hG gh kt1 kt4 kg4;have dp:=B.1.w.pos;refine ⟨dp,⟨_,_,⟨T.lw,λ x hx=>(T.nn x hx).1,dp,T.size⟩,λ j hj=>?_,T.gives⟩,_,_,_,⟨T.pr.lt,T.pr.lg,λ x hx=>(T.pr.bt x hx).1,λ x hx=>(T.pr.bg x hx).1,T.sign,T.fair⟩,by rw [T.pays]; exact dp,by rw [T.pays,T.earns]⟩;exact eK (T.takes j hj) (bG dp)
end
section
variable {z:Str} {hs:List i9} {h:i9} {kt kg i:Nat}
end
section
variable {z:Str} {hs hs':List i9} {h:i9} {kt kg:Nat} {far:Int}
end
theorem a0N {X:Cx} {l:List Stmt}:PSs X l λ _ _ _=>False:=λ _ _ _ _ _ _ h=>h.elim
structure ShU (z:Str) (hs:List i9) (h:i9) (kt kg:Nat) (A B:Int):Prop where
 s:IsShare z hs h kt kg A B
 a:Big 20000 A
 p:0<A
 b:0<B
 c:B<2 ^ 8000
theorem Best.u {z:Str} {hs:List i9} {h:i9} {kt kg:Nat} {S:Lp.Bo} {far:Int} (hz:Szw z) (B:Best z hs h S) (hG:∀ g∈hs,HG far kt kg g) (gh:HG far kt kg h) (kt1:1<=kt) (kt4:kt<=20) (kg4:kg<=20):ShU z hs h kt kg (S.T (mE hs) (qE z h)) S.d:=by
 have T:=a6l hz B hG gh kt1 kt4 kg4;obtain ⟨b1,b2⟩:=a6U B;exact ⟨B.is hz hG gh kt1 kt4 kg4,(B.2.2.1 _ _ (by omega) (by omega)).mono (by decide),T.pos,b1,b2⟩
theorem ShU.fr {z:Str} {hs:List i9} {h:i9} {kt kg:Nat} {A B A' B':Int} {far:Int} (hz:Szw z) (x:ShU z hs h kt kg A B) (y:IsShare z hs h kt kg A' B') (hG:∀ g∈hs,HG far kt kg g) (gh:HG far kt kg h):Fr.low A B=Fr.low A' B' :=
 b3c x.b y.1 (x.s.eq hz y (λ g hg=>⟨(hG g hg).lt,(hG g hg).lg⟩) gh.lt gh.lg)
def G8 {α:Type} (l:List α) (i:Nat):List α:=l.take i++l.drop (i+1)
theorem a4r {α:Type} {l:List α} {i:Nat} {g:α} (h:g∈G8 l i):g∈l:=by
 rcases aS.mp h with h | h
 ·exact fA h
 ·exact eL h
theorem a0U {α:Type} {l:List α} {i:Nat}:(G8 l i).length<=l.length:=by unfold G8; simp; omega
theorem Paired.take {α β:Type} {F:α->β->Prop}:∀ {l₁:List α} {l₂:List β} (i:Nat),aL F l₁ l₂->aL F (l₁.take i) (l₂.take i)
 | _,_,0,_=>.nil
 | _,_,_+1,.nil=>.nil
 | _,_,i+1,.cons r t=>.cons r (Paired.take i t)
theorem Paired.drop {α β:Type} {F:α->β->Prop}:∀ {l₁:List α} {l₂:List β} (i:Nat),aL F l₁ l₂->aL F (l₁.drop i) (l₂.drop i)
 | _,_,0,h=>h
 | _,_,_+1,.nil=>.nil
 | _,_,i+1,.cons _ t=>Paired.drop i t
theorem Paired.app {α β:Type} {F:α->β->Prop}:∀ {l₁ m₁:List α} {l₂ m₂:List β},aL F l₁ l₂->aL F m₁ m₂->aL F (l₁++m₁) (l₂++m₂)
 | _,_,_,_,.nil,h=>h
 | _,_,_,_,.cons r t,h=>.cons r (Paired.app t h)
theorem Bk.out {K:W.Frag} {H:Hp} {xs:List V} {hs:List i9} (i:Nat) (B:Bk K H xs hs):Bk K H (G8 xs i) (G8 hs i):=Paired.app (Paired.take i B) (Paired.drop (i+1) B)
section
variable {P:Program} {w:World} {K:W.Frag} {mg:Str->Option Value} {base:Heap} {f Pt d CN CB:Addr} {fd:FuncData} {n:Nat} {C:Addr}
def a9e (K:W.Frag) (CN Pt:Addr):Sp:=λ vs H Q E=>∃ (ba:Addr) (xs:List V) (hs:List i9) (number:Int) (z:Str) (far:Int) (kt kg:Nat),vs=[.ref ba,.int number,.str z]/\Szw z/\U6 K H ba xs hs far kt kg/\1<=kt/\number.natAbs.log2<1920/\LT Pt H ∧
 (∀ (i:Nat) (h:i9) (A B:Int) (H':Hp) (u:V),number=(i:Int)->hs[i]?=some h->ShU z hs h kt kg A B->Same1 Pt H H'->LT Pt H'->FrT H' u (low A B)->Q u H')/\(¬ V7 xs.length number->E (.ref CN) none H)
theorem Z0 (F:FnOk P w K mg base (V8 P w) n f fd ["book","number","sizes"] (Q9 K CN Pt)):FnOk P w K mg base (V8 P w) n f fd ["book","number","sizes"] (a9e K CN Pt):=F.imp λ vs H Q E h=>by
 obtain ⟨ba,xs,hs,number,z,far,kt,kg,rfl,hz,B,kt1,lm,L,kG,kE⟩:=h;exact ⟨ba,xs,hs,number,z,far,kt,kg,rfl,hz,B,lm,L,λ i h S H' u hi hh Bs e L' hu=>kG i h _ _ H' u hi hh (Bs.u hz B.g (B.g h (bV hh)) kt1 B.t B.k) e L' hu,kE⟩
def a2O (K:W.Frag) (CN:Addr):Sp:=λ vs H Q E=>∃ (a:Addr) (xs:List V) (m:Int),vs=[.ref a,.int m]/\SqL K H a xs/\xs.length<=1000/\m.natAbs.log2<1920 ∧
 (∀ (i:Nat) (l:Addr) (H':Hp),m=(i:Int)->i<xs.length->Same H H'->H l=none->H' l=some (.lst (G8 xs i))->Q (.ref l) H')/\(¬ V7 xs.length m->E (.ref CN) none H)
theorem b5Q:j8 ["houses","number"] ["houses","number"] (h8 a2z):=⟨rfl,rfl,rfl,by decide +kernel,rfl,by decide +kernel,by decide +kernel⟩
theorem a5R {f1:Addr} {d1:FuncData} (F:Fun K "without" "without" a2z f fd) (Ch:a0H P w K mg base n "house_of" ["book","number"] (a6F K CN) f1 d1):FnOk P w K mg base (V8 P w) (n+1) f fd ["houses","number"] (a2O K CN):=by
 refine F.ok1 b5Q (λ vs H Q E h=>?_) (λ cdv A outer s H vs Q E hr h=>?_)
 ·obtain ⟨a,xs,m,rfl,_⟩:=h
  rfl
 obtain ⟨a,xs,m,rfl,hS,hl,hm,q,hE⟩:=h;refine ⟨_,i7 (B8 (m9 Ch.ok hr rfl Ch.m Ch.k Ch.b .nil a0C (a0 (pv 0) (a0 (pv 1) d0))))
  (PSs.nox (j0 (o4 (j6 x4 (A0 B6 (pv 0) D9 (A4 (pv 1))) (A0 B6 (pv 0) (A4 (j6 D0 (pv 1) g0)) D9))))),?_⟩
 refine ⟨_,rfl,_,rfl,a,xs,m,rfl,hS,hm,λ i x hi hx=>?_,hE⟩;subst hi;have hil:=(bN.mp hx).1;refine ⟨_,rfl,_,rfl,_,rfl,a,_,rfl,hS,λ a1 h1=>?_⟩;rw [X6 _ _ (by omega)];have s1:=Same.new h1 (.lst (xs.take i));refine ⟨_,rfl,_,rfl,_,_,rfl,rfl,_,rfl,a,_,rfl,s1.seq hS,λ a2 h2=>?_⟩;rw [show ((i:Int)+1)=((i+1:Nat):Int) by omega,T0 _ _ (by omega)];have s2:=Same.new h2 (.lst (xs.drop (i+1)));refine ⟨a1,a2,_,_,rfl,rfl,s2 _ _ upd_same,upd_same,?_,λ p hp=>?_⟩
 ·have:=j9 (show (1000:Nat)<=1000 from aE _)
  simp; omega
 have s3:=Same.new hp (.lst (xs.take i++xs.drop (i+1)));refine q i p _ rfl hil ((s1.trans s2).trans s3) ?_ upd_same
 cases e:H p with
 | none=>rfl
 | some o=>rw [s2 _ _ (s1 _ _ e)] at hp; cases hp
end
end Rim
namespace L2
open PySem PySem.Spec PyProof.Rows
theorem b1B {prog:Program} {w:World} {A:Around} {E:Value->Shared->Prop} {s:Shared} {c:Value} {Q:Bool->Shared->Prop} (h:∀ b,Q b s):wpAny (model prog w) A (Builtin.SmallTypes.calledThroughType c) Q E s:=by
 unfold Builtin.SmallTypes.calledThroughType;exact wpAny_bind (wpAny_stack_any λ st=>wpAny_pure (h _))
section
variable {prog:Program} {w:World} {A:Around} {E:Value->Shared->Prop} {s:Shared}
end
section
variable {b:Bool} {xs:List V} {K:W.Frag} {l:Addr} {fr:List Nat} {te:TE} {σ:St} {H1:Hp} {p:Addr} {D:Hp->Prop}
end
end L2
set_option maxHeartbeats 1000000
namespace L2
open PySem PySem.Spec PyProof.Rows
abbrev T1 (h:Heap) (z ti to:Addr) (f0:Value) (f1:Bool):Prop :=
 h.get? z=some { cls:=.type "zip",dict:=none,data:=.fields #[f0,.bool f1,.bool false,.ref ti,.ref to],slots:=#[] }
def Zf (v:Value):Prop:=v=.none\/∃ a:Nat,v=rawInt a
section
variable {prog:Program} {w:World} {A:Around} {E:Value->Shared->Prop} {s:Shared}
theorem a4n {a:Addr} {Q:Option Obj->Shared->Prop} (h:Q (s.heap.get? a) s):wpAny (model prog w) A (loadIfAlive a) Q E s:=λ Γ p _=>by
 show Sem.wp (model prog w) Γ (.loadIfAlive a .pure) _ _ p s
 rw [Sem.wp_loadIfAlive];exact h
theorem a6N {z ti to:Addr} {f0:Value} {f1:Bool} {Q:Bool->Shared->Prop} (q0:T1 s.heap z ti to f0 f1) (z0:Zf f0) (h1:Q true s) (h2:∀ h',T1 h' z ti to f0 true->Heap.SameBut z s.heap h'->Q false { s with heap:=h' }) :
  wpAny (model prog w) A (Builtin.SmallTypes.ownedTupleIsFree (.ref z)) Q E s:=by
 unfold Builtin.SmallTypes.ownedTupleIsFree;refine wpAny_bind (wpAny_field q0 rfl (x:=f0) rfl ?_);rcases z0 with rfl | ⟨a,rfl⟩
 ·exact wpAny_pure h1
 ·show wpAny _ _ (loadIfAlive (a:Int).toNat >>= _) _ _ s
  refine wpAny_bind (a4n ?_)
  cases hg:s.heap.get? (a:Int).toNat with
  | none=>exact wpAny_pure h1
  | some o =>
   show wpAny _ _ (field (.ref z) 1 >>= _) _ _ s
   refine wpAny_bind (wpAny_field q0 rfl (x:=.bool f1) rfl ?_)
   cases f1 with
   | true=>exact wpAny_pure (h2 s.heap q0 ⟨rfl,λ _ _=>rfl⟩)
   | false =>
    show wpAny _ _ (setField (.ref z) 1 (.bool true) >>= _) _ _ s
    exact wpAny_bind (wpAny_setField_rec q0 (by simp) λ u1 z1 s1=>wpAny_pure (h2 u1 z1 s1))
theorem b1k {b1 b2:Bool} {z ti to j1 j2 t1 t2:Addr} {k1 k2:Nat} {f0:Value} {f1:Bool} {xs ys:Array Value} {x y a b:Value} {Q:Value->Shared->Prop} (D:ZipApart z ti to j1 j2 t1 t2)
  (q0:T1 s.heap z ti to f0 f1) (z0:Zf f0) (p1:IsPair s.heap ti (.ref j1) (.ref j2)) (p2:IsPair s.heap to a b)
  (i1:ItB b1 s.heap j1 t1 k1) (i2:ItB b2 s.heap j2 t2 k2) (l1:IsB b1 s.heap t1 xs) (l2:IsB b2 s.heap t2 ys) (ex:xs[k1]?=some x) (ey:ys[k2]?=some y)
  (q:∀ h' f0' f1' a' b',T1 h' z ti to f0' f1'->Zf f0'->IsPair h' to a' b'->ItB b1 h' j1 t1 (k1+1)->ItB b2 h' j2 t2 (k2+1)->IsPair h' s.heap.objs.size x y->h'.objs.size=s.heap.objs.size+1 →
   (∀ c o,c≠z->c≠to->c≠j1->c≠j2->s.heap.get? c=some o->h'.get? c=some o)->Q (.ref s.heap.objs.size) { s with heap:=h' }) :
  wpAny (model prog w) A (Builtin.«zip.__next__» ⟨[.ref z],[]⟩) (λ fin s'=>∃ v,fin=.done (.ret v)/\Q v s') E s:=by
 show wpAny _ _ (field (.ref z) 2 >>= _) _ _ _
 refine wpAny_bind (wpAny_field q0 rfl (x:=.bool false) rfl (show wpAny _ _ (field (.ref z) 3 >>= _) _ _ _ from wpAny_bind (wpAny_field q0 rfl (x:=.ref ti) rfl (wpAny_bind (wpAny_seqItems p1 rfl ?_)))))
 show wpAny _ _ (do let free <- Builtin.SmallTypes.ownedTupleIsFree (.ref z); _) _ _ _
 refine wpAny_bind (a6N q0 z0 ?_ λ v1 z1 s1=>?_)
 ·simp only [if_true]
  refine wpAny_bind (wpAny_rule (wpAny_bind (wpAny_field q0 rfl (x:=.ref to) rfl (wpAny_bind (wpAny_setField_rec q0 (by simp) λ u1 z1 s1=>?_)))));have z1':T1 u1 z ti to .ellipsis f1:=z1;refine wpAny_bind ?_;simp only [gH,gJ,dY,eV];refine wpAny_bind (wpAny_bind (wpAny_onRaise (show wpAny _ _ (Builtin.SmallTypes.nextOf (.ref j1) >>= _) _ _ _ from wpAny_bind (K9 (i1.extBut s1.extBut D.i1z) (l1.extBut s1.extBut D.l1z) ex λ u2 j1' s2=>wpAny_pure ?_))));have to2:IsPair u2 to a b:=s2.extBut _ _ D.TOi1 (s1.extBut _ _ D.TOz p2);refine wpAny_bind (wpAny_seqItems to2 rfl (wpAny_bind (wpAny_updateSeq_pair to2 λ u3 to3 s3=>wpAny_bind (wpAny_letGo (wpAny_pure ?_)))));have to3':IsPair u3 to x b:=to3;refine wpAny_bind (wpAny_bind (wpAny_onRaise (show wpAny _ _ (Builtin.SmallTypes.nextOf (.ref j2) >>= _) _ _ _ from wpAny_bind (K9 (((i2.extBut s1.extBut D.i2z).extBut s2.extBut D.i12.symm).extBut s3.extBut D.TOi2.symm)
   (((l2.extBut s1.extBut D.l2z).extBut s2.extBut D.l2i1).extBut s3.extBut D.l2TO) ey λ u4 j2' s4=>wpAny_pure ?_))))
  have to4:IsPair u4 to x b:=s4.extBut _ _ D.TOi2 to3';refine wpAny_bind (wpAny_seqItems to4 rfl (wpAny_bind (wpAny_updateSeq_pair to4 λ u5 to5 s5=>wpAny_bind (wpAny_letGo (wpAny_pure (wpAny_pure ?_))))));have to5':IsPair u5 to x y:=to5;refine wpAny_bind (wpAny_seqItems to5' rfl (wpAny_bind (wpAny_newTuple ?_)));have sz:u5.objs.size=s.heap.objs.size:=by rw [s5.1,s4.1,s3.1,s2.1,s1.1]
  have z5:T1 u5 z ti to .ellipsis f1:=s5.extBut _ _ D.TOz.symm (s4.extBut _ _ D.i2z.symm (s3.extBut _ _ D.TOz.symm (s2.extBut _ _ D.i1z.symm z1')));have kp:∀ c o,c≠z->c≠to->c≠j1->c≠j2->s.heap.get? c=some o->u5.get? c=some o:=λ c o n1 n2 n3 n4 e=>s5.extBut _ _ n2 (s4.extBut _ _ n4 (s3.extBut _ _ n2 (s2.extBut _ _ n3 (s1.extBut _ _ n1 e))));have a1:ItB b1 u5 j1 t1 (k1+1):=((j1'.extBut s3.extBut D.TOi1.symm).extBut s4.extBut D.i12).extBut s5.extBut D.TOi1.symm;have a2:ItB b2 u5 j2 t2 (k2+1):=j2'.extBut s5.extBut D.TOi2.symm;have zl:z<u5.objs.size:=Heap.lt_size z5
  show wpAny _ _ (do let r <- Builtin.SmallTypes.ownedTupleHandOut (.ref z) (.ref u5.objs.size); _) _ _ _
  unfold Builtin.SmallTypes.ownedTupleHandOut;have z6:T1 (u5.push { cls:=.type "tuple",data:=.seq #[x,y] }) z ti to .ellipsis f1:=Heap.get?_push_of_some _ z5;refine wpAny_bind (wpAny_bind (wpAny_setField_rec z6 (by simp) λ u7 z7 s7=>?_));have z7':T1 u7 z ti to (rawInt u5.objs.size) f1:=z7;refine wpAny_setField_rec z7' (by simp) λ u8 z8 s8=>?_;have z8':T1 u8 z ti to (rawInt u5.objs.size) false:=z8;have up:∀ c o,c≠z->u5.get? c=some o->u8.get? c=some o:=λ c o n1 e=>s8.extBut _ _ n1 (s7.extBut _ _ n1 (Heap.get?_push_of_some _ e));have nt8:IsPair u8 u5.objs.size x y:=s8.extBut _ _ (cN zl) (s7.extBut _ _ (cN zl) (Heap.get?_push_size _ rfl));have sz8:u8.objs.size=s.heap.objs.size+1:=by rw [s8.1,s7.1,Heap.size_push,sz]
  rw [sz] at z8' nt8;refine wpAny_pure ⟨_,rfl,?_⟩
  show Q (.ref u5.objs.size) _
  rw [sz];exact q u8 _ _ _ _ z8' (.inr ⟨_,rfl⟩) (up _ _ D.TOz to5') (ItB.at' a1 λ o e=>up _ o D.i1z e) (ItB.at' a2 λ o e=>up _ o D.i2z e) nt8 sz8 λ c o n1 n2 n3 n4 e=>up c o n1 (kp c o n1 n2 n3 n4 e)
 ·simp only [gF,if_false]
  rw [kM];simp only [dY,eV];refine wpAny_bind (wpAny_bind (wpAny_bind (wpAny_holding (show wpAny _ _ (Builtin.SmallTypes.nextOf (.ref j1) >>= _) _ _ _ from wpAny_bind (K9 (i1.extBut s1.extBut D.i1z) (l1.extBut s1.extBut D.l1z) ex λ u2 j1' s2=>wpAny_pure ?_)))));refine wpAny_pure ?_;refine wpAny_bind (wpAny_bind (wpAny_holding (show wpAny _ _ (Builtin.SmallTypes.nextOf (.ref j2) >>= _) _ _ _ from wpAny_bind (K9 ((i2.extBut s1.extBut D.i2z).extBut s2.extBut D.i12.symm) ((l2.extBut s1.extBut D.l2z).extBut s2.extBut D.l2i1) ey λ u3 j2' s3=>wpAny_pure ?_))));refine wpAny_pure (wpAny_pure (wpAny_bind (wpAny_newTuple ?_ (by show 2<=sizeLine; decide))));have sz:u3.objs.size=s.heap.objs.size:=by rw [s3.1,s2.1,s1.1]
  have z3:T1 u3 z ti to f0 true:=s3.extBut _ _ D.i2z.symm (s2.extBut _ _ D.i1z.symm z1);have kp:∀ c o,c≠z->c≠j1->c≠j2->s.heap.get? c=some o->u3.get? c=some o:=λ c o n1 n3 n4 e=>s3.extBut _ _ n4 (s2.extBut _ _ n3 (s1.extBut _ _ n1 e));have a1:ItB b1 u3 j1 t1 (k1+1):=j1'.extBut s3.extBut D.i12;have up:∀ c o,u3.get? c=some o->(u3.push { cls:=.type "tuple",data:=.seq #[x,y] }).get? c=some o:=λ c o e=>Heap.get?_push_of_some _ e;have nt:IsPair (u3.push { cls:=.type "tuple",data:=.seq #[x,y] }) s.heap.objs.size x y:=by rw [<- sz]; exact Heap.get?_push_size _ rfl
  have sz8:(u3.push { cls:=.type "tuple",data:=.seq #[x,y] }).objs.size=s.heap.objs.size+1:=by rw [Heap.size_push,sz]
  refine wpAny_pure ⟨_,rfl,?_⟩
  show Q (.ref u3.objs.size) _
  rw [sz];exact q _ f0 true a b (up _ _ z3) z0 (up _ _ (kp _ _ D.TOz D.TOi1 D.TOi2 p2)) (ItB.at' a1 λ o e=>up _ o e) (ItB.at' j2' λ o e=>up _ o e) nt sz8 λ c o n1 _ n3 n4 e=>up _ _ (kp c o n1 n3 n4 e)
theorem b3g {b1 b2:Bool} {z ti to j1 j2 t1 t2:Addr} {k1 k2:Nat} {f0:Value} {f1:Bool} {xs ys:Array Value} {a b:Value} {Q:fV->Shared->Prop} (hh:A.handled=none) (D:ZipApart z ti to j1 j2 t1 t2)
  (q0:T1 s.heap z ti to f0 f1) (z0:Zf f0) (p1:IsPair s.heap ti (.ref j1) (.ref j2)) (p2:IsPair s.heap to a b)
  (i1:ItB b1 s.heap j1 t1 k1) (i2:ItB b2 s.heap j2 t2 k2) (l1:IsB b1 s.heap t1 xs) (l2:IsB b2 s.heap t2 ys) (en:xs[k1]?=none\/ys[k2]?=none)
  (q:∀ h' e,(∀ c o,c≠z->c≠to->c≠j1->c≠j2->s.heap.get? c=some o->h'.get? c=some o)->(∃ o,h'.get? e=some o/\o.cls=.type "StopIteration")->E (.ref e) { s with heap:=h' }) :
  wpAny (model prog w) A (Builtin.«zip.__next__» ⟨[.ref z],[]⟩) Q E s:=by
 show wpAny _ _ (field (.ref z) 2 >>= _) _ _ _
 refine wpAny_bind (wpAny_field q0 rfl (x:=.bool false) rfl (show wpAny _ _ (field (.ref z) 3 >>= _) _ _ _ from wpAny_bind (wpAny_field q0 rfl (x:=.ref ti) rfl (wpAny_bind (wpAny_seqItems p1 rfl ?_)))))
 show wpAny _ _ (do let free <- Builtin.SmallTypes.ownedTupleIsFree (.ref z); _) _ _ _
 refine wpAny_bind (a6N q0 z0 ?_ λ v1 z1 s1=>?_)
 ·simp only [if_true]
  refine wpAny_bind (wpAny_rule (wpAny_bind (wpAny_field q0 rfl (x:=.ref to) rfl (wpAny_bind (wpAny_setField_rec q0 (by simp) λ u1 z1 s1=>?_)))));have z1':T1 u1 z ti to .ellipsis f1:=z1;refine wpAny_bind ?_;simp only [gH,gJ,dY,eV]
  cases ex:xs[k1]? with
  | none =>
   refine wpAny_bind (wpAny_bind (wpAny_onRaise (show wpAny _ _ (Builtin.SmallTypes.nextOf (.ref j1) >>= _) _ _ _ from wpAny_bind (Z1 hh (i1.extBut s1.extBut D.i1z) (l1.extBut s1.extBut D.l1z) ex λ u2 e s2 ⟨oe,e1,e2⟩=>?_))));have z2:T1 u2 z ti to .ellipsis f1:=s2 _ _ D.i1z.symm z1';have ne:e≠z:=λ c=>by subst c; rw [z2] at e1; cases e1; simp at e2
   exact wpAny_setField_rec z2 (by simp) λ u3 _ s3=>q u3 e (λ c o n1 _ n3 _ m=>s3.extBut _ _ n1 (s2 _ _ n3 (s1.extBut _ _ n1 m))) ⟨oe,s3.extBut _ _ ne e1,e2⟩
  | some x =>
   have ey:ys[k2]?=none:=by
    rcases en with m | m
    ·rw [ex] at m; cases m
    ·exact m
   refine wpAny_bind (wpAny_bind (wpAny_onRaise (show wpAny _ _ (Builtin.SmallTypes.nextOf (.ref j1) >>= _) _ _ _ from wpAny_bind (K9 (i1.extBut s1.extBut D.i1z) (l1.extBut s1.extBut D.l1z) ex λ u2 j1' s2=>wpAny_pure ?_))));have to2:IsPair u2 to a b:=s2.extBut _ _ D.TOi1 (s1.extBut _ _ D.TOz p2);refine wpAny_bind (wpAny_seqItems to2 rfl (wpAny_bind (wpAny_updateSeq_pair to2 λ u3 to3 s3=>wpAny_bind (wpAny_letGo (wpAny_pure ?_)))));refine wpAny_bind (wpAny_bind (wpAny_onRaise (show wpAny _ _ (Builtin.SmallTypes.nextOf (.ref j2) >>= _) _ _ _ from wpAny_bind (Z1 hh (((i2.extBut s1.extBut D.i2z).extBut s2.extBut D.i12.symm).extBut s3.extBut D.TOi2.symm)
    (((l2.extBut s1.extBut D.l2z).extBut s2.extBut D.l2i1).extBut s3.extBut D.l2TO) ey λ u4 e s4 ⟨oe,e1,e2⟩=>?_))))
   have z4:T1 u4 z ti to .ellipsis f1:=s4 _ _ D.i2z.symm (s3.extBut _ _ D.TOz.symm (s2.extBut _ _ D.i1z.symm z1'));have ne:e≠z:=λ c=>by subst c; rw [z4] at e1; cases e1; simp at e2
   exact wpAny_setField_rec z4 (by simp) λ u5 _ s5=>q u5 e (λ c o n1 n2 n3 n4 m=>s5.extBut _ _ n1 (s4 _ _ n4 (s3.extBut _ _ n2 (s2.extBut _ _ n3 (s1.extBut _ _ n1 m))))) ⟨oe,s5.extBut _ _ ne e1,e2⟩
 ·simp only [gF,if_false]
  rw [kM];simp only [dY,eV]
  cases ex:xs[k1]? with
  | none =>
   exact wpAny_bind (wpAny_bind (wpAny_bind (wpAny_holding (show wpAny _ _ (Builtin.SmallTypes.nextOf (.ref j1) >>= _) _ _ _ from wpAny_bind (Z1 hh (i1.extBut s1.extBut D.i1z) (l1.extBut s1.extBut D.l1z) ex λ u2 e s2 r=>q u2 e (λ c o n1 _ n3 _ m=>s2 _ _ n3 (s1.extBut _ _ n1 m)) r)))))
  | some x =>
   have ey:ys[k2]?=none:=by
    rcases en with m | m
    ·rw [ex] at m; cases m
    ·exact m
   refine wpAny_bind (wpAny_bind (wpAny_bind (wpAny_holding (show wpAny _ _ (Builtin.SmallTypes.nextOf (.ref j1) >>= _) _ _ _ from wpAny_bind (K9 (i1.extBut s1.extBut D.i1z) (l1.extBut s1.extBut D.l1z) ex λ u2 j1' s2=>wpAny_pure ?_)))));refine wpAny_pure ?_;exact wpAny_bind (wpAny_bind (wpAny_holding (show wpAny _ _ (Builtin.SmallTypes.nextOf (.ref j2) >>= _) _ _ _ from wpAny_bind (Z1 hh ((i2.extBut s1.extBut D.i2z).extBut s2.extBut D.i12.symm) ((l2.extBut s1.extBut D.l2z).extBut s2.extBut D.l2i1) ey λ u3 e s3 r=>q u3 e (λ c o n1 _ n3 n4 m=>s3 _ _ n4 (s2.extBut _ _ n3 (s1.extBut _ _ n1 m))) r))))
theorem b0m {b1 b2:Bool} {z ti to j1 j2 t1 t2:Addr} {k1 k2:Nat} {f0:Value} {f1:Bool} {xs ys:Array Value} {x y a b:Value} {Q:Value->Shared->Prop} (D:ZipApart z ti to j1 j2 t1 t2)
  (q0:T1 s.heap z ti to f0 f1) (z0:Zf f0) (p1:IsPair s.heap ti (.ref j1) (.ref j2)) (p2:IsPair s.heap to a b)
  (i1:ItB b1 s.heap j1 t1 k1) (i2:ItB b2 s.heap j2 t2 k2) (l1:IsB b1 s.heap t1 xs) (l2:IsB b2 s.heap t2 ys) (ex:xs[k1]?=some x) (ey:ys[k2]?=some y)
  (q:∀ h' f0' f1' a' b',T1 h' z ti to f0' f1'->Zf f0'->IsPair h' to a' b'->ItB b1 h' j1 t1 (k1+1)->ItB b2 h' j2 t2 (k2+1)->IsPair h' s.heap.objs.size x y->h'.objs.size=s.heap.objs.size+1 →
   (∀ c o,c≠z->c≠to->c≠j1->c≠j2->s.heap.get? c=some o->h'.get? c=some o)->Q (.ref s.heap.objs.size) { s with heap:=h' }) :
  wpAny (model prog w) A (Builtin.SmallTypes.nextOf (.ref z)) Q E s:=by
 have ty:s.TypeIs (.ref z) "zip":=⟨_,q0,rfl⟩;unfold Builtin.SmallTypes.nextOf;exact wpAny_bind (wpAny_callSpecial?_slot (name:=Str.ofString "__next__") ty F.slot_zip_next (wpAny_call_entry F.slot_zip_next ty F.entry_zip_next
  (b1k D q0 z0 p1 p2 i1 i2 l1 l2 ex ey λ h' f0' f1' a' b' c1 c2 c3 c4 c5 c6 c7 c8=>wpAny_pure (q h' f0' f1' a' b' c1 c2 c3 c4 c5 c6 c7 c8)) (F.args_zip_next_1 _)))
theorem b0X {b1 b2:Bool} {z ti to j1 j2 t1 t2:Addr} {k1 k2:Nat} {f0:Value} {f1:Bool} {xs ys:Array Value} {a b:Value} {Q:Value->Shared->Prop} (hh:A.handled=none) (D:ZipApart z ti to j1 j2 t1 t2)
  (q0:T1 s.heap z ti to f0 f1) (z0:Zf f0) (p1:IsPair s.heap ti (.ref j1) (.ref j2)) (p2:IsPair s.heap to a b)
  (i1:ItB b1 s.heap j1 t1 k1) (i2:ItB b2 s.heap j2 t2 k2) (l1:IsB b1 s.heap t1 xs) (l2:IsB b2 s.heap t2 ys) (en:xs[k1]?=none\/ys[k2]?=none)
  (q:∀ h' e,(∀ c o,c≠z->c≠to->c≠j1->c≠j2->s.heap.get? c=some o->h'.get? c=some o)->(∃ o,h'.get? e=some o/\o.cls=.type "StopIteration")->E (.ref e) { s with heap:=h' }) :
  wpAny (model prog w) A (Builtin.SmallTypes.nextOf (.ref z)) Q E s:=by
 have ty:s.TypeIs (.ref z) "zip":=⟨_,q0,rfl⟩;unfold Builtin.SmallTypes.nextOf;exact wpAny_bind (wpAny_callSpecial?_slot (name:=Str.ofString "__next__") ty F.slot_zip_next (wpAny_call_entry F.slot_zip_next ty F.entry_zip_next
  (b3g hh D q0 z0 p1 p2 i1 i2 l1 l2 en q) (F.args_zip_next_1 _)))
theorem b1w {e it:Addr} {i:Nat} {old:Value} {G:Value->Heap->Prop} {Q:Option Value->Shared->Prop} (he:IsEnum s.heap e it i old)
  (hn:∀ (Q':Value->Shared->Prop) (E':Value->Shared->Prop),(∀ x h',IsEnum h' e it i old->G x h'->Q' x { s with heap:=h' })->wpAny (model prog w) A.in1 (Builtin.SmallTypes.nextOf (.ref it)) Q' E' s)
  (hQ:∀ x h1 h' tk,G x h1->IsEnumOut h' e it ((i:Int)+1) x h1.objs.size->h'.get? h1.objs.size=some { cls:=.type "tuple",data:=.seq #[.int i tk,x] }->(∀ b o,b≠e->h1.get? b=some o->h'.get? b=some o)->Q (some (.ref h1.objs.size)) { s with heap:=h',toks:=tk+1 }) :
  wpAny (model prog w) A (pyNext (.ref e)) Q E s:=by
 have hT:s.TypeIs (.ref e) "enumerate":=⟨_,he,rfl⟩;unfold pyNext;refine wpAny_bind (wpAny_attempt (wpAny_callSpecial?_slot (name:=Str.ofString "__next__") hT F.slot_enumerate_next (wpAny_call_entry F.slot_enumerate_next hT F.entry_enumerate_next ?_ (F.args_enumerate_next_1 _))))
 show wpAny _ _ (field (.ref e) 2 >>= _) _ _ _
 refine wpAny_bind (wpAny_field he rfl (x:=.ref it) rfl ?_);refine wpAny_bind (hn _ _ λ x h1 he1 g=>?_);obtain ⟨hp,gg,d,tk,os⟩:=s
 show wpAny _ _ (field (.ref e) 3 >>= _) _ _ ⟨h1,gg,d,tk,os⟩
 refine wpAny_bind (wpAny_field he1 rfl (x:=rawInt i) rfl ?_)
 show wpAny _ _ (field (.ref e) 4 >>= _) _ _ ⟨h1,gg,d,tk,os⟩
 refine wpAny_bind (wpAny_field he1 rfl (x:=.none) rfl ?_)
 show wpAny _ _ (mkInt i >>= _) _ _ ⟨h1,gg,d,tk,os⟩
 refine wpAny_bind (wpAny_mkInt ?_)
 show wpAny _ _ (setField (.ref e) 3 (rawInt ((i:Int)+1)) >>= _) _ _ ⟨h1,gg,d,tk+1,os⟩
 refine wpAny_bind (wpAny_setField_rec he1 (by simp) λ h2 he2 s2=>?_);have he2':IsEnum h2 e it ((i:Int)+1) old:=he2
 show wpAny _ _ (setField (.ref e) 4 .none >>= _) _ _ ⟨h2,gg,d,tk+1,os⟩
 refine wpAny_bind (wpAny_setField_rec he2' (by simp) λ h3 he3 s3=>?_);have he3':IsEnum h3 e it ((i:Int)+1) old:=he3
 show wpAny _ _ (newTuple [.int i tk,x] >>= _) _ _ ⟨h3,gg,d,tk+1,os⟩
 refine wpAny_bind (wpAny_newTuple ?_);have he4:IsEnum (h3.push { cls:=.type "tuple",data:=.seq #[.int i tk,x] }) e it ((i:Int)+1) old:=Heap.get?_push_of_some _ he3';have sz:h3.objs.size=h1.objs.size:=by rw [s3.1,s2.1]
 have el:e<h1.objs.size:=Heap.lt_size he1;have tt:(h3.push { cls:=.type "tuple",data:=.seq #[.int i tk,x] }).get? h1.objs.size=some { cls:=.type "tuple",data:=.seq #[.int i tk,x] }:=by rw [<- sz]; exact Heap.get?_push_size _ rfl
 have kp:∀ b o,b≠e->h1.get? b=some o->(h3.push { cls:=.type "tuple",data:=.seq #[.int i tk,x] }).get? b=some o:=λ b o nb q=>Heap.get?_push_of_some _ (s3.extBut b o nb (s2.extBut b o nb q))
 show wpAny _ _ (Builtin.SmallTypes.ownedTupleIsFree (.ref e) >>= _) _ _ ⟨h3.push { cls:=.type "tuple",data:=.seq #[.int i tk,x] },gg,d,tk+1,os⟩
 rw [sz];generalize h3.push { cls:=.type "tuple",data:=.seq #[.int i tk,x] }=h4 at *;refine wpAny_bind ?_;unfold Builtin.SmallTypes.ownedTupleIsFree;refine wpAny_bind (wpAny_field he4 rfl (x:=.none) rfl (wpAny_pure ?_));simp only [if_true];refine wpAny_bind (wpAny_rule (wpAny_bind (wpAny_field he4 rfl (x:=old) rfl (wpAny_bind (wpAny_setField_rec he4 (by simp) λ h5 he5 s5=>?_)))));have he5':IsEnum h5 e it ((i:Int)+1) x:=he5
 show wpAny _ _ (Builtin.SmallTypes.ownedTupleHandOut (.ref e) (.ref h1.objs.size) >>= _) _ _ ⟨h5,gg,d,tk+1,os⟩
 refine wpAny_bind ?_;unfold Builtin.SmallTypes.ownedTupleHandOut;refine wpAny_bind (wpAny_setField_rec he5' (by simp) λ h6 he6 s6=>?_);have he6':IsEnumOut h6 e it ((i:Int)+1) x h1.objs.size:=he6;refine wpAny_setField_rec he6' (by simp) λ h7 he7 s7=>?_;have he7':IsEnumOut h7 e it ((i:Int)+1) x h1.objs.size:=he7;have up:∀ b o,b≠e->h4.get? b=some o->h7.get? b=some o:=λ b o nb q=>s7.extBut b o nb (s6.extBut b o nb (s5.extBut b o nb q));exact wpAny_bind (wpAny_letGo (wpAny_pure ⟨_,rfl,wpAny_pure (hQ x h1 h7 tk g he7' (up _ _ (cN el) tt) λ b o nb q=>up b o nb (kp b o nb q))⟩))
theorem b2R {e it:Addr} {i:Int} {old:Value} {Q:Option Value->Shared->Prop} (he:IsEnum s.heap e it i old)
  (hn:∀ (Q':Value->Shared->Prop) (E':Value->Shared->Prop),(∀ h' x,(∃ o,h'.get? x=some o/\o.cls=.type "StopIteration")->Q none { s with heap:=h' }->E' (.ref x) { s with heap:=h' })->wpAny (model prog w) A.in1 (Builtin.SmallTypes.nextOf (.ref it)) Q' E' s) :
  wpAny (model prog w) A (pyNext (.ref e)) Q E s:=by
 have hT:s.TypeIs (.ref e) "enumerate":=⟨_,he,rfl⟩;unfold pyNext;refine wpAny_bind (wpAny_attempt (wpAny_callSpecial?_slot (name:=Str.ofString "__next__") hT F.slot_enumerate_next (wpAny_call_entry F.slot_enumerate_next hT F.entry_enumerate_next ?_ (F.args_enumerate_next_1 _))))
 show wpAny _ _ (field (.ref e) 2 >>= _) _ _ _
 refine wpAny_bind (wpAny_field he rfl (x:=.ref it) rfl ?_);refine wpAny_bind (hn _ _ λ h' x ⟨o,ho,hc⟩ q=>?_);exact wpAny_bind (wpAny_isInstance (T:="StopIteration") (b:=true) ⟨o,ho,hc⟩ isSubtype_stop (wpAny_pure q))
end
def Itz (b1 b2:Bool) (K:W.Frag) (l1 l2:Addr):It :=
  ⟨(Itg b1 b2 K l1 l2).go,
   λ i H x H'=>∃ p r a b,H r=none/\(upd H r (.tup [a,b])) p=none/\x=.ref p/\H'=upd (upd H r (.tup [a,b])) p (.tup [.int (i:Int),.ref r])/\∀ xs ys,SqB b1 K H l1 xs->SqB b2 K H l2 ys->xs[i]?=some a/\ys[i]?=some b,
   (Itg b1 b2 K l1 l2).stop⟩
theorem b0F {b1 b2:Bool} {P:Program} {w:World} {K:W.Frag} {elts:List Expr} {x1:Nat} {pos:Pos} {e z ti to j1 j2 l1 l2:Addr} (D:ZipApart z ti to j1 j2 l1 l2) (hne:∀ c∈[z,ti,to,j1,j2,l1,l2],c≠e) :
  a5r P w K (.Tuple elts x1 pos) (Itz b1 b2 K l1 l2) [e,z,ti,to,j1,j2] e (λ i h=>(∃ old,IsEnum h e z (i:Int) old)/\(∃ f0 f1,T1 h z ti to f0 f1/\Zf f0)/\IsPair h ti (.ref j1) (.ref j2)/\(∃ a b,IsPair h to a b)/\ItB b1 h j1 l1 i/\ItB b2 h j2 l2 i) where
 mem:=by simp
 obj:=λ i h st c hb=>by
  obtain ⟨⟨old,he⟩,⟨f0,f1,hz,z0⟩,hti,⟨a,b,hto⟩,h1,h2⟩:=st;obtain ⟨o1,e1,v1,d1⟩:=h1.obj;obtain ⟨o2,e2,v2,d2⟩:=h2.obj;simp only [aH,bA,or_false] at hb;rcases hb with rfl | rfl | rfl | rfl | rfl | rfl
  ·exact ⟨_,he,λ v q=>by cases q⟩
  ·exact ⟨_,hz,λ v q=>by cases q⟩
  ·exact ⟨_,hti,λ v q=>by cases q⟩
  ·exact ⟨_,hto,λ v q=>by cases q⟩
  ·exact ⟨o1,e1,λ v q=>by rw [d1] at q; cases q⟩
  ·exact ⟨o2,e2,λ v q=>by rw [d2] at q; cases q⟩
 keep:=λ i h h' st k=>by
  obtain ⟨⟨old,he⟩,⟨f0,f1,hz,z0⟩,hti,⟨a,b,hto⟩,h1,h2⟩:=st;exact ⟨⟨old,k e (by simp) _ he⟩,⟨f0,f1,k z (by simp) _ hz,z0⟩,k ti (by simp) _ hti,⟨a,b,k to (by simp) _ hto⟩,ItB.at' h1 λ o q=>k j1 (by simp) o q,ItB.at' h2 λ o q=>k j2 (by simp) o q⟩
 item:=by
  intro X hP hw hK hc i pins s σ H E I hf st hg;subst hP hw hK;obtain ⟨xs,ys,x,y,hq1,hq2,hx,hy⟩:=hg;obtain ⟨⟨old,he⟩,⟨f0,f1,hz,z0⟩,hti,⟨a,b,hto⟩,h1,h2⟩:=st;obtain ⟨its1,rv1,p1,_⟩:=I.sqB hq1;obtain ⟨its2,rv2,p2,_⟩:=I.sqB hq2;obtain ⟨u1,hu1,ru1⟩:=rv1.get hx;obtain ⟨u2,hu2,ru2⟩:=rv2.get hy;have nE:∀ {c:Addr},c∈[z,ti,to,j1,j2,l1,l2]->c≠e:=λ hb=>hne _ hb;refine b1w (it:=z) (G:=λ v h'=>v=.ref s.heap.objs.size/\(∃ f0 f1,T1 h' z ti to f0 f1/\Zf f0)/\(∃ a b,IsPair h' to a b)/\ItB b1 h' j1 l1 (i+1)/\ItB b2 h' j2 l2 (i+1)/\IsPair h' s.heap.objs.size u1 u2/\h'.objs.size=s.heap.objs.size+1/\IsEnum h' e z i old ∧
   ∀ c o,c≠z->c≠to->c≠j1->c≠j2->s.heap.get? c=some o->h'.get? c=some o) he (λ Q' E' k=>b0m D hz z0 hti hto h1 h2 p1 p2 (x:=u1) (y:=u2) (by simpa using hu1) (by simpa using hu2) λ h' f0' f1' a' b' c1 c2 c3 c4 c5 c6 c7 c8=>?_) ?_
  ·have he':IsEnum h' e z i old:=c8 e _ (nE (by simp)).symm (nE (by simp)).symm (nE (by simp)).symm (nE (by simp)).symm he
   exact k _ h' he' ⟨rfl,⟨f0',f1',c1,c2⟩,⟨a',b',c3⟩,c4,c5,c6,c7,he',c8⟩
  ·rintro v g1 h' tk ⟨rfl,⟨f0',f1',c1,c2⟩,⟨a',b',c3⟩,c4,c5,c6,c7,he1,c8⟩ hout htup kp
   refine ⟨_,rfl,wpAny_letOwnedTupleGo_enum (s:={ s with heap:=h',toks:=tk+1 }) hout λ h'' he'' hs''=>?_⟩;have inS:∀ b∈[e,z,ti,to,j1,j2],∃ o,s.heap.get? b=some o:=λ b hb=>by
    obtain ⟨o1,e1,_⟩:=h1.obj;obtain ⟨o2,e2,_⟩:=h2.obj;simp only [aH,bA,or_false] at hb;rcases hb with rfl | rfl | rfl | rfl | rfl | rfl
    ·exact ⟨_,he⟩
    ·exact ⟨_,hz⟩
    ·exact ⟨_,hti⟩
    ·exact ⟨_,hto⟩
    ·exact ⟨_,e1⟩
    ·exact ⟨_,e2⟩
   have neT:∀ b∈[e,z,ti,to,j1,j2],b≠s.heap.objs.size:=λ b hb q=>by
    obtain ⟨o,ho⟩:=inS b hb;exact absurd (Heap.lt_size ho) (by rw [q]; exact bJ _)
   have gti:g1.get? ti=_:=c8 ti _ D.TIz D.TITO D.TIi1 D.TIi2 hti;have I1:Inv X pins σ (upd H s.heap.objs.size (.tup [x,y])) { s with heap:=g1 }:=by
    refine I.turnedLaid (h':=g1) (fp:=[e,z,ti,to,j1,j2]) hf (λ c o hb q=>?_) (λ c hb=>?_) (aE _) (by show 2<=sizeLine; decide) (show Vals [x,y] [u1,u2] from .cons ru1 (.cons ru2 .nil)) ⟨_,c6,rfl,0,rfl⟩
    ·simp only [aH,bA,or_false,not_or] at hb
     exact c8 c o hb.2.1 hb.2.2.2.1 hb.2.2.2.2.1 hb.2.2.2.2.2 q
    ·obtain ⟨o1,e1,_⟩:=c4.obj
     obtain ⟨o2,e2,_⟩:=c5.obj;simp only [aH,bA,or_false] at hb;rcases hb with rfl | rfl | rfl | rfl | rfl | rfl
     ·exact ⟨_,he1⟩
     ·exact ⟨_,c1⟩
     ·exact ⟨_,gti⟩
     ·exact ⟨_,c3⟩
     ·exact ⟨_,e1⟩
     ·exact ⟨_,e2⟩
   have hf1:∀ b∈[e,z,ti,to,j1,j2],U1 X pins (upd H s.heap.objs.size (.tup [x,y])) b:=λ b hb=>⟨by rw [c9 (neT b hb)]; exact (hf b hb).1,(hf b hb).2⟩;have el1:e<g1.objs.size:=Heap.lt_size he1;have up:∀ c o,c≠e->g1.get? c=some o->h''.get? c=some o:=λ c o nc q=>hs''.extBut c o nc (kp c o nc q);have neT2:∀ b∈[e,z,ti,to,j1,j2],b≠g1.objs.size:=λ b hb q=>by
    obtain ⟨o,ho⟩:=inS b hb;exact absurd (Heap.lt_size ho) (by rw [q,c7]; exact Nat.not_lt.mpr (gX _))
   have I2:Inv X pins σ (upd (upd H s.heap.objs.size (.tup [x,y])) g1.objs.size (.tup [.int (i:Int),.ref s.heap.objs.size])) { s with heap:=h'',toks:=tk+1 }:=by
    refine (Inv.tok (I1.turnedLaid (h':=h'') (fp:=[e,z,ti,to,j1,j2]) hf1 (λ c o hb q=>?_) (λ c hb=>?_) (aE _) (by show 2<=sizeLine; decide) (show Vals [.int (i:Int),.ref s.heap.objs.size] [Value.int (i:Int) tk,.ref s.heap.objs.size] from .cons ⟨_,rfl⟩ (.cons rfl .nil)) ⟨_,hs''.extBut _ _ (cN el1) htup,rfl,0,rfl⟩) _)
    ·simp only [aH,bA,or_false,not_or] at hb
     exact up c o hb.1 q
    ·obtain ⟨o1,e1,_⟩:=c4.obj
     obtain ⟨o2,e2,_⟩:=c5.obj;simp only [aH,bA,or_false] at hb;rcases hb with rfl | rfl | rfl | rfl | rfl | rfl
     ·exact ⟨_,he''⟩
     ·exact ⟨_,up _ _ (nE (by simp)) c1⟩
     ·exact ⟨_,up _ _ (nE (by simp)) gti⟩
     ·exact ⟨_,up _ _ (nE (by simp)) c3⟩
     ·exact ⟨_,up _ _ (nE (by simp)) e1⟩
     ·exact ⟨_,up _ _ (nE (by simp)) e2⟩
   refine ⟨.ref g1.objs.size,_,I2,rfl,⟨g1.objs.size,s.heap.objs.size,x,y,I.fresh,I1.fresh,rfl,rfl,λ xs' ys' q1 q2=>?_⟩,⟨⟨_,he''⟩,⟨f0',f1',up _ _ (nE (by simp)) c1,c2⟩,up _ _ (nE (by simp)) gti,⟨a',b',up _ _ (nE (by simp)) c3⟩,ItB.at' c4 λ o q=>up _ o (nE (by simp)) q,ItB.at' c5 λ o q=>up _ o (nE (by simp)) q⟩,λ c hb=>?_⟩
   ·rw [I.sqB_inj q1 hq1,I.sqB_inj q2 hq2]; exact ⟨hx,hy⟩
   ·rw [c9 (neT2 c hb),c9 (neT c hb)]; exact (hf c hb).1
 done:=by
  intro X hP hw hK hc i pins s σ H E I hf st hg;subst hP hw hK;obtain ⟨xs,ys,hq1,hq2,hend⟩:=hg;obtain ⟨⟨old,he⟩,⟨f0,f1,hz,z0⟩,hti,⟨a,b,hto⟩,h1,h2⟩:=st;obtain ⟨its1,rv1,p1,_⟩:=I.sqB hq1;obtain ⟨its2,rv2,p2,_⟩:=I.sqB hq2;have hl1:=rv1.length;have hl2:=rv2.length;refine b2R he λ Q' E' k=>b0X (show X.A.in1.handled=none from I.ok.hd hc) D hz z0 hti hto h1 h2 p1 p2 (by
   rcases hend with q | q
   ·exact .inl (by simp; omega)
   ·exact .inr (by simp; omega)) λ h' x kk r=>k h' x r ⟨rfl,I.turnedAll hf λ c o hb q=>?_⟩
  simp only [aH,bA,or_false,not_or] at hb;exact kk c o hb.2.1 hb.2.2.2.1 hb.2.2.2.2.1 hb.2.2.2.2.2 q
 self:=λ _ _ _ _ _ st h=>by
  obtain ⟨⟨old,he⟩,_⟩:=st;exact wpAny_pyIter_enum he h
abbrev ez1 (h:Heap) (z:Addr):Heap:=h.push { cls:=.type "enumerate",data:=.fields #[.none,.bool false,.ref z,rawInt 0,.none,.none] }
theorem b2I (z ti to:Addr) :
  Meets (Builtin.«enumerate.__new__» ⟨[.type "enumerate",.ref z],[]⟩) (λ _ R s=>IsZip s.heap z ti to .none/\R (.ok (.ret (.ref s.heap.objs.size))) { s with heap:=ez1 s.heap z }) :=
 .of_wp λ prog w A R s h=>by
  obtain ⟨hp,g,d,tk,os⟩:=s;obtain ⟨e1,h⟩:=h;have hsub:=sub_enumerate;have m1:IsZip (Shared.heap ⟨hp,g,d,tk,os⟩) z ti to .none:=e1
  wp_walk using wpAny_pyIter_zip m1,b1B
  intro c
  cases c
  ·wp_walk using wpAny_pyIter_zip m1
   exact ⟨_,rfl,h⟩
  ·wp_walk using wpAny_pyIter_zip m1
   exact ⟨_,rfl,h⟩
section
variable {prog:Program} {w:World} {A:Around} {E:Value->Shared->Prop} {s:Shared}
theorem b1e {z ti to:Addr} {Q:Value->Shared->Prop} (l1:IsZip s.heap z ti to .none)
  (q:∀ h',IsEnum h' s.heap.objs.size z 0 .none->(∀ c o,s.heap.get? c=some o->h'.get? c=some o)->Q (.ref s.heap.objs.size) { s with heap:=h' }) :
  wpAny (model prog w) A (call (.type "enumerate") [.ref z]) Q E s:=by
 refine callType_new F.called_enumerate (by decide) (F.typeCall_enumerate_1 _) (F.newCall_enumerate_1 _) (λ ob=>F.args_object_init_2 ob _) F.entry_enumerate_new (b2I z ti to) ⟨l1,?_⟩;have p1:(ez1 s.heap z).get? s.heap.objs.size=some _:=Heap.get?_push_size _ rfl;exact ⟨⟨_,p1,rfl⟩,q _ p1 λ c o m=>Heap.get?_push_of_some _ m⟩
end
def iEz (b1 b2:Bool) (K:W.Frag) (ta:TA):TI:=λ σ H R=>ta σ H λ vs H1=>∃ l1 l2,vs=[.ref l1,.ref l2]/\(∃ xs,SqB b1 K H1 l1 xs)/\(∃ ys,SqB b2 K H1 l2 ys)/\R (Itz b1 b2 K l1 l2) H1
theorem b4E (b1 b2:Bool) (K:W.Frag) {X:Cx} {a b:Expr} {ta:TA} {p pos p2 pos2 pos':Pos} {elts:List Expr} {x1:Nat} (hK:X.K=K) (hg:Gl X "enumerate") (hm:X.mg "enumerate"=none) (hg2:Gl X "zip") (hm2:X.mg "zip"=none) (ha:PA X [a,b] ta)
  (hs:starEach [a,b] X.env=[(false,eval a X.env),(false,eval b X.env)]:=by rfl) (hs2:starEach [b] X.env=[(false,eval b X.env)]:=by rfl)
  (hs3:starEach [.Call (.Name "zip" p2) [a,b] [] pos2] X.env=[(false,eval (.Call (.Name "zip" p2) [a,b] [] pos2) X.env)]:=by rfl) (hs4:starEach ([]:List Expr) X.env=[]:=by rfl) :
  PI X (.Tuple elts x1 pos') (.Call (.Name "enumerate" p) [.Call (.Name "zip" p2) [a,b] [] pos2] [] pos) (iEz b1 b2 K ta):=by
 subst hK;intro pins s σ H R I h;refine Call_ (U0 I hg hm boot_enumerate (fC ?_ (by rw [hs3,hs4]) (by rw [hs4]; rfl)));rw [hs3]
 show wpAny _ _ (spliced ((false,eval (.Call (.Name "zip" p2) [a,b] [] pos2) X.env)::[])) _ _ s
 refine Calls.spliced_cons ?_;refine Call_ (U0 I hg2 hm2 boot_zip (fC (y9 (ha pos2 pins s σ H _ I h) λ us s1 ⟨vs,H1,I1,r1,q1⟩=>?_) (by rw [hs,hs2]) (by rw [hs2]; rfl)));obtain ⟨l1,l2,e,⟨xs,q1⟩,⟨ys,q2⟩,q⟩:=q1;subst e;obtain ⟨u1,u2,rfl,ru1,ru2⟩:=a1x r1
 cases ru1
 cases ru2;obtain ⟨its1,rv1,p1,_⟩:=I1.sqB q1;obtain ⟨its2,rv2,p2,_⟩:=I1.sqB q2;refine a6t p1 p2 λ h1 z1 z2 z3 z4 z5 k1=>?_;refine wpAny_pure ?_;refine b1e z1 λ h2 e1 k2=>?_;have I2:Inv X pins σ H1 { s1 with heap:=h2 }:=I1.kept (t':=s1.toks) λ c o m=>k2 c o (k1 c o m);refine wpAny_pyIter_enum e1 ?_;have D:ZipApart (s1.heap.objs.size+4) (s1.heap.objs.size+2) (s1.heap.objs.size+3) s1.heap.objs.size (s1.heap.objs.size+1) l1 l2:=a8Z _ _ _ p1.lt p2.lt;have z1s:s1.heap.objs.size+4<h1.objs.size:=Heap.lt_size z1;have lt1:=p1.lt;have lt2:=p2.lt;refine ⟨h1.objs.size,[h1.objs.size,s1.heap.objs.size+4,s1.heap.objs.size+2,s1.heap.objs.size+3,s1.heap.objs.size,s1.heap.objs.size+1],_,_,H1,rfl,I2,b0F D (λ c hb z0=>?_),⟨⟨_,e1⟩,⟨_,_,k2 _ _ z1,.inl rfl⟩,k2 _ _ z2,⟨_,_,k2 _ _ z3⟩,ItB.at' z4 λ o m=>k2 _ o m,ItB.at' z5 λ o m=>k2 _ o m⟩,λ b hb=>?_,q⟩
 ·simp only [aH,bA,or_false] at hb
  have:c<h1.objs.size:=by
   rcases hb with rfl | rfl | rfl | rfl | rfl | rfl | rfl
   ·exact z1s
   ·exact cI (by omega) z1s
   ·exact cI (by omega) z1s
   ·exact cI (by omega) z1s
   ·exact cI (by omega) z1s
   ·exact aO lt1 (dA (cI (by omega) z1s))
   ·exact aO lt2 (dA (cI (by omega) z1s))
  rw [z0] at this;exact bJ _ this
 ·have hb':s1.heap.objs.size<=b:=by
   simp only [aH,bA,or_false] at hb;rcases hb with rfl | rfl | rfl | rfl | rfl | rfl
   ·exact dA (cI (by omega) z1s)
   ·exact dM _ _
   ·exact dM _ _
   ·exact dM _ _
   ·exact aE _
   ·exact dM _ _
  exact I1.fpOk hb' (I1.hok.fresh hb')
def ChAt (H:Hp) (xs ys:List V) (is:List Nat) (ts:List V):Prop:=Paired (λ (i:Nat) v=>∃ t x y,v=V.ref t/\xs[i]?=some x/\ys[i]?=some y/\H t=some (.tup [.int (i:Int),x,y])) is ts
theorem ChAt.same {H H':Hp} {xs ys:List V} {is:List Nat} {ts:List V} (h:ChAt H xs ys is ts) (e:∀ b zs,H b=some (.tup zs)->H' b=some (.tup zs)):ChAt H' xs ys is ts:=by
 induction h with
 | nil=>exact .nil
 | cons r _ ih =>
  obtain ⟨t,x,y,h1,h2,h3,h4⟩:=r;exact .cons ⟨t,x,y,h1,h2,h3,e _ _ h4⟩ ih
theorem ChAt.snoc {H:Hp} {xs ys:List V} {is:List Nat} {ts:List V} {i:Nat} {t:Addr} {x y:V} (h:ChAt H xs ys is ts) (h2:xs[i]?=some x) (h3:ys[i]?=some y) (h4:H t=some (.tup [.int (i:Int),x,y])):ChAt H xs ys (is++[i]) (ts++[.ref t]):=by
 induction h with
 | nil=>exact .cons ⟨t,x,y,rfl,h2,h3,h4⟩ .nil
 | cons r _ ih=>exact .cons r ih
section
variable {b1 b2:Bool} {xs ys:List V} {K:W.Frag} {l1 l2:Addr} {fr:List Nat} {tc:TT} {σ:St} {H1:Hp} {p:Addr} {D:Hp->Prop}
theorem b0Y {n:Nat} {fr:List Nat} {σ:St} {i j k:Nat} {u v x:V} (hi:i<n) (hj:j<n) (hk:k<n):Wk (blkσ n fr σ) ((((blkσ n fr σ).set i (some v)).set j (some u)).set k (some x)):=by
 refine ⟨by simp,λ m w e=>?_⟩;have:¬ m<n:=λ hm=>by
  unfold blkσ at e;rw [bQ (by simpa using hm),dG] at e
  split at e <;> cases e
 rw [bC (by omega),bC (by omega),bC (by omega)]; exact e
theorem b4v (h1:SqB b1 K H1 l1 xs) (h2:SqB b2 K H1 l2 ys) (hp:H1 p=none) (hz:xs.length<sizeLine) (q:Nat->Bool)
  (step:∀ (i:Nat) x y H (N:Bool->Hp->Prop),xs[i]?=some x->ys[i]?=some y->Same H1 H->N (q i) H->tc ((((blkσ 3 fr σ).set 0 (some (.int (i:Int)))).set 1 (some x)).set 2 (some y)) H N)
  (hd:∀ ts H,Same H1 H->H p=some (.lst ts)->ChAt H xs ys ((aF (min xs.length ys.length)).filter q) ts->D H) :
  lcI 3 fr (a5k K 2 (Y2 (M7 0) (Y2 (a5k K 2 (Y2 (M7 1) (Y2 (M7 2) a8a))) a8a))) tc (b4g (a4o (a4G 0) (a4o (a4G 1) (a4o (a4G 2) a1B)))) σ (Itz b1 b2 K l1 l2) H1 p D:=by
 refine ⟨λ i m ts H=>m=min xs.length ys.length - i/\i<=min xs.length ys.length/\Same H1 H/\H p=some (.lst ts)/\ChAt H xs ys ((aF i).filter q) ts,⟨_,rfl,bU _,Same.new hp _,upd_same,.nil⟩,?_⟩;rintro i m ts H ⟨rfl,hi,e,hH,ch⟩
 by_cases hlt:i<min xs.length ys.length
 ·have hx:xs[i]?=some xs[i]:=aG (by omega)
  have hy:ys[i]?=some ys[i]:=aG (by omega);refine .inr ⟨⟨xs,ys,_,_,e.sqB h1,e.sqB h2,hx,hy⟩,λ u H' yl=>?_⟩;obtain ⟨pp,r,a,b,hr,hpp,rfl,rfl,hab⟩:=yl;obtain ⟨ha,hb⟩:=hab xs ys (e.sqB h1) (e.sqB h2);have s1:=Same.new hr (.tup [a,b]);have s2:=Same.new hpp (.tup [.int (i:Int),.ref r]);have s12:=s1.trans s2;have tk:(aF (i+1)).filter q=(aF i).filter q++[i].filter q:=by rw [fN,gK]
  refine ⟨pp,_,rfl,SqT.of upd_same,rfl,_,_,rfl,_,_,rfl,⟨r,_,rfl,SqT.of (s2 _ _ upd_same),rfl,_,_,rfl,_,_,rfl,rfl,?_⟩⟩;refine ⟨rfl,b0Y (by decide) (by decide) (by decide),step i a b _ _ ha hb (e.trans s12) ?_⟩;have h3:=s12 _ _ hH;have ch3:=ch.same λ b zs k=>s12 b _ k
  cases hq:q i with
  | false =>
   rw [if_neg bY];refine ⟨_,?_,rfl,hlt,e.trans s12,h3,?_⟩
   ·omega
   ·rw [tk]; simpa [hq] using ch3
  | true =>
   rw [if_pos rfl];have ln:ts.length=((aF i).filter q).length:=ch.length.symm;have l2':=fW q (aF i);rw [dQ] at l2';refine ⟨.int (i:Int),?_,a,?_,b,?_,(by show 3<=sizeLine; decide),λ t ht=>?_⟩
   ·rw [bC (by omega),bC (by omega),bR (by simp [blkσ])]
   ·rw [bC (by omega),bR (by simp [blkσ])]
   ·rw [bR (by simp [blkσ])]
   have s3:=Same.new ht (.tup [.int (i:Int),a,b]);have h4:=s3 _ _ h3;refine ⟨h4,by omega,_,?_,rfl,hlt,((e.trans s12).trans s3).write hp,upd_same,?_⟩
   ·omega
   ·rw [tk]
    have ch4:=ch3.same λ b zs k=>s3 b _ k;have:=(ch4.snoc ha hb (upd_same (H:=upd (upd H r (.tup [a,b])) pp (.tup [.int (i:Int),.ref r])) (a:=t) (o:=.tup [.int (i:Int),a,b])));have fin:=this.same (H':=upd (upd (upd (upd H r (.tup [a,b])) pp (.tup [.int (i:Int),.ref r])) t (.tup [.int (i:Int),a,b])) p (.lst (ts++[.ref t]))) λ c zs k=>by rw [c9 (x6 k h4 nofun)]; exact k
    simpa [hq] using fin
 ·have:i=min xs.length ys.length:=by omega
  subst this;refine .inl ⟨⟨xs,ys,e.sqB h1,e.sqB h2,by omega⟩,hd ts H e hH ch⟩
end
abbrev TJ:=St->Hp->(Hp->Prop)->Prop
def PJ (X:Cx) (es:List Expr) (t:TJ):Prop :=
 ∀ (pins:List (Addr×Obj)) (s:Shared) (σ:St) (H:Hp) (out:Str) (Q:Hp->Prop),Inv X pins σ H s->out.length+2000*es.length<=100000->t σ H Q →
  wpAny (model X.prog X.w) X.A (joinParts out (evalEach es X.env)) (λ u s'=>∃ x tk H',u=Value.str x tk/\Inv X pins σ H' s'/\Q H') X.xe s
section
variable {X:Cx} {e:Expr} {es:List Expr} {te:TE} {t:TJ} {a:Str} {j:Nat} {p1 p2 p3:Pos}
theorem b0h:PJ X [] λ _ H Q=>Q H:=by
 intro pins s σ H out Q I hl h;refine joinParts_nilE (joinParts_nil ⟨_,_,H,rfl,I.tok _,h⟩ ?_);rw [sizeLine_eq];simp at hl;omega
theorem a2C (h:PJ X es t) (ha:a.length<=1000:=by decide):PJ X (.Constant (.str a) j p1::es) t:=by
 intro pins s σ H out Q I hl ht;refine joinParts_consE (joinParts_cons ?_);refine y9 (u9 pins s σ H (λ v H'=>v=.str a/\H'=H) I ⟨rfl,rfl⟩) λ u s1 ⟨v,H1,I1,r,hv,hH⟩=>?_;subst hv; subst hH;obtain ⟨tk,rfl⟩:=r;simp only [cV] at hl;have e0:(out++a).length=out.length+a.length:=strLen_append ..;exact ⟨by rw [e0,sizeLine_eq]; omega,h pins s1 σ H1 (out++a) Q I1 (by rw [e0]; omega) ht⟩
theorem a5E (he:PE X e te) (h:PJ X es t):PJ X (.FormattedValue e (-1) none p2::es) λ σ H Q=>te σ H λ v H1=>∃ i:Int,v=.int i/\i.natAbs.log2<1920/\t σ H1 Q:=by
 intro pins s σ H out Q I hl ht;refine joinParts_consE (joinParts_cons (FormattedValue_plain ?_));refine y9 (he pins s σ H _ I ht) λ u s2 ⟨v,H2,I2,r,i,hv,hi,q⟩=>?_;subst hv;obtain ⟨tk2,rfl⟩:=r;refine formatField_int_small hi ?_;simp only [cV] at hl;have h1:=int_text_length_le (a:=i) (k:=1920) (by decide) hi;have e0:(out++Str.ofString (toString i)).length=out.length+(toString i).length:=by rw [strLen_append,jF]
 have hle:(toString i).length<=2000:=by omega
 exact ⟨by rw [e0,sizeLine_eq]; omega,h pins _ σ H2 _ Q (I2.tok _) (by rw [e0]; omega) q⟩
def tFg (t:TJ):TE:=λ σ H Q=>t σ H λ H1=>∀ x,Q (.str x) H1
theorem a4Y {v1 v2:Expr} (h:PJ X (v1::v2::es) t) (hl:es.length<=20:=by decide):PE X (.JoinedStr (v1::v2::es) p3) (tFg t):=by
 intro pins s σ H Q I ht;refine JoinedStr_many ?_;refine y9 (h pins s σ H Str.empty _ I ?_ ht) λ u s' ⟨x,tk,H',e1,I',q⟩=>?_
 ·show 0+2000*(es.length+1+1)<=100000
  omega
 ·subst e1
  exact ⟨.str x,H',I',⟨_,rfl⟩,q x⟩
end
end L2
namespace L2
open PySem
theorem b2q (K:W.Frag) {X:Cx} {k:Nat} (h:X.K=K) (hr:Room k X.A):OpR X (compareOp .NotEq) (b4o K):=by subst h; exact X4 hr
end L2
namespace Rim
open PySem L2 Fr
theorem E6 {α β:Type} {F:α->β->Prop}:∀ {l:List α} {l':List β} {i:Nat} {a:α},aL F l l'->l[i]?=some a->∃ b,l'[i]?=some b/\F a b
 | _,_,_,_,.nil,e=>by simp at e
 | _,_,0,_,.cons r _,e=>by simp at e; subst e; exact ⟨_,rfl,r⟩
 | _,_,i+1,x,.cons _ t,e=>by
  obtain ⟨b,h1,h2⟩:=E6 (i:=i) (a:=x) t (by simpa using e);exact ⟨b,by simpa using h1,h2⟩
def a3O (l:Int) (ns:List Int):Prop:=∀ x∈ns,l<=x/\x<=1000000000
def GoodK (h:i9) (m n:Int):Prop:=((h.1.length:Int)=m/\a3O 1 h.1)/\((h.2.length:Int)=n/\a3O 0 h.2)/\∃ x∈h.2,0<x
def K4 (h:i9):Prop:=h.1.length<=1000/\h.2.length<=1000
theorem GoodK.hg {h:i9} {kt kg:Nat} (g:GoodK h kt kg):HG (10 ^ 9) kt kg h:=⟨by have:=g.1.1; omega,by have:=g.2.1.1; omega,λ x hx=>⟨(g.1.2 x hx).1,(g.1.2 x hx).2⟩,λ x hx=>⟨(g.2.1.2 x hx).1,(g.2.1.2 x hx).2⟩,g.2.2⟩
section
variable {P:Program} {w:World} {K:W.Frag} {mg:Str->Option Value} {base:Heap} {f CN CB CT:Addr} {fd:FuncData} {n:Nat}
theorem a2b {X:Cx}:G4 X (.builtin "isinstance") (λ vs H Q=>∃ a xs n b,vs=[.ref a,.ty n]/\SqT X.K H a xs/\W.kitOne X.K (.type "tuple") (.type n)=some b/\Q (.bl b) H):=by
 intro pins s σ H vs us Q I r h;obtain ⟨a,xs,n,b,rfl,hs,e,q⟩:=h;obtain ⟨u,v,rfl,ru,rv⟩:=a1x r
 cases rv
 cases (show u=Value.ref a from ru);have hx:∃ o,s.heap.get? a=some o/\o.cls=.type "tuple":=by
  rcases hs with hs | ⟨o,its,n,h1,h2,_⟩
  ·obtain ⟨_,_,_,p⟩:=(show ObjOk X.prog X.w H s.heap a (.tup xs) from hs.ok I.hok)
   obtain ⟨o,h1,h2,_⟩:=p;exact ⟨o,h1,h2⟩
  ·exact ⟨o,I.kIn a o h1,h2⟩
 exact W.kia_one W.kitx_tuple I.kIn hx e (λ z=>nomatch z) λ tk=>⟨.bl b,H,I.tok _,rfl,q⟩
def b0j:Sp:=λ vs H Q _=>∃ i:Int,vs=[.int i]/\Q (.bl true) H
theorem b2M:j8 ["thing"] ["thing"] (h8 a0j):=⟨rfl,rfl,rfl,by decide +kernel,rfl,by decide +kernel,by decide +kernel⟩
theorem b1d (F:Fun K "is_whole" "is_whole" a0j f fd) (T:u0 mg):FnOk P w K mg base D7 (n+1) f fd ["thing"] b0j:=by
 refine F.ok b2M (λ vs H Q E h=>?_) (λ cdv A outer s H vs Q E hr h=>?_)
 ·obtain ⟨i,rfl,_⟩:=h
  rfl
 obtain ⟨i,rfl,q⟩:=h;refine ⟨_,j0 (o4 (a3Q (j3 W2 rfl T.isi dE (a0 (pv 0) (a0 (Y5 (v:=.ty "int") rfl T.int jV rfl) d0)))
  (a5P (b2p (j3 W2 rfl T.isi dE (a0 (pv 0) (a0 (Y5 (v:=.ty "bool") rfl T.bool mD rfl) d0))))))),?_⟩
 refine ⟨_,rfl,_,_,"int",true,rfl,.int i,M9 _,_,rfl,O1 ?_⟩;exact ⟨_,rfl,_,_,"bool",false,rfl,.int i,a3Y,_,rfl,q⟩
def a8p (K:W.Frag):Sp:=λ vs H Q _=>∃ (a:Addr) (ns:List Int) (m l:Int),vs=[.ref a,.int m,.int l]/\SqT K H a (ns.map V.int)/\ns.length<=1000 ∧
 ∀ (b:Bool) (H':Hp),Same H H'->(b=true ↔ ((ns.length:Int)=m/\a3O l ns))->Q (.bl b) H'
theorem b2A:j8 ["thing","many","least"] ["thing","many","least"] (h8 R4):=⟨rfl,rfl,rfl,by decide +kernel,rfl,by decide +kernel,by decide +kernel⟩
theorem b3n:(["amount","least"]:List Str).Nodup:=by decide +kernel
theorem a9Q {N:VK} {b b':Bool} {H:Hp} (h:N (.bl b) H) (e:b'=b):N (.bl b') H:=by rw [e]; exact h
theorem b0y {g:Addr} {gd:FuncData} (F:Fun K "are_amounts" "are_amounts" R4 f fd) (T:u0 mg) (C:∃ t,mg "MOST_AMOUNT"=some (.int 1000000000 t)) (G:Cal P w K mg base n "is_whole" ["thing"] b0j g gd):FnOk P w K mg base D7 (n+1) f fd ["thing","many","least"] (a8p K):=by
 refine F.ok b2A (λ vs H Q E h=>?_) (λ cdv A outer s H vs Q E hr h=>?_)
 ·obtain ⟨a,ns,m,l,rfl,_⟩:=h
  rfl
 obtain ⟨a,ns,m,l,rfl,hS,hz,q⟩:=h;obtain ⟨tm,hma⟩:=C;refine ⟨_,i7 (w6 (PW.pt (a4A (V4 (T9 (j3 a2b rfl T.isi dE (a0 (pv 0) (a0 (Y5 (v:=.ty "tuple") rfl T.tuple gR rfl) d0))))) (a1P (m6 a6b (j3 j7 rfl T.len bE (a0 (pv 0) d0)) (pv 1) (p6 _))))) (j0 (o4 a2X)) r9)
  (j0 (o4 (j3 (a8r rfl) rfl T.all mG (a0
   (a1y ["amount"] [2] rfl (a5z (pv 0)) (λ _ _ _ _=>m5 (i:=0) b3n rfl (aC rfl))
    (λ _ _ _ _=>a3Q (m9 G.ok hr rfl G.m G.k G.b .nil t7 (a0 (pv 0) d0)) (a5P (a9X a4H a4H (pv 1) (pv 0) (K3 (v:=.int 1000000000) rfl hma ⟨_,rfl⟩))))) d0)))),?_⟩
 have hl:(ns.map V.int).length=ns.length:=aA _;refine ⟨_,rfl,a,_,"tuple",true,rfl,hS,M9 _,_,rfl,D6 ?_⟩;refine ⟨_,rfl,a,_,rfl,.inr hS,_,rfl,rfl,_,rfl,?_⟩;refine A6 (λ c=>?_) (λ c=>?_)
 ·refine q _ _ (Same.refl _) ?_
  have c':¬ (ns.length:Int)=m:=λ h=>by simp [h] at c
  simp [c']
 ·have c':(ns.length:Int)=m:=by simpa using c
  refine ⟨_,rfl,a,rfl,⟨_,hS⟩,λ p hp=>?_⟩;refine W7 (a2E hS) hp (by rw [hl]; exact j9 hz) (λ x=>.bl (decide (l<=vI x/\vI x<=1000000000))) (λ i x H' N hx e hN=>?_) ?_
  ·obtain ⟨k,rfl⟩:=V1 hx
   refine ⟨Wk.set (by decide),_,rfl,k,rfl,_,rfl,O1 ?_⟩;refine ⟨_,rfl,_,rfl,_,_,rfl,rfl,_,rfl,?_⟩;refine A6 (λ c=>?_) (λ c=>?_)
   ·have c1:l<=k:=of_decide_eq_true c
    refine ⟨_,_,rfl,rfl,?_⟩;exact a9Q hN (by simp [vI,c1])
   ·have c1:¬ l<=k:=of_decide_eq_false (eH.mpr c)
    exact a9Q hN (by simp [vI,c1])
  ·refine ⟨p,ns.map (λ i=>decide (l<=i/\i<=1000000000)),rfl,.inl (SqL.of (by rw [upd_same,aT,aT]; rfl)),?_⟩
   refine q _ _ (Same.new hp _) ?_;rw [List.all_map,fT];constructor
   ·intro z
    exact ⟨c',λ x hx=>by simpa using z x hx⟩
   ·intro z x hx
    simpa using z.2 x hx
def a9q (K:W.Frag):Sp:=λ vs H Q _=>∃ (v:V) (h:i9) (m n:Int),vs=[v,.int m,.int n]/\HS K H v h/\K4 h ∧
 ∀ (b:Bool) (H':Hp),Same H H'->(b=true ↔ GoodK h m n)->Q (.bl b) H'
theorem scIsHK:j8 ["thing","many_takes","many_gives","takes","gives"] ["thing","many_takes","many_gives"] (h8 a0p):=⟨rfl,rfl,rfl,by decide +kernel,rfl,by decide +kernel,by decide +kernel⟩
theorem b2u:(["give"]:List Str).Nodup:=by decide +kernel
theorem b0r {g:Addr} {gd:FuncData} (F:Fun K "is_house" "is_house" a0p f fd) (T:u0 mg) (G:Cal P w K mg base n "are_amounts" ["thing","many","least"] (a8p K) g gd) :
  FnOk P w K mg base D7 (n+1) f fd ["thing","many_takes","many_gives"] (a9q K):=by
 refine F.ok scIsHK (λ vs H Q E h=>?_) (λ cdv A outer s H vs Q E hr h=>?_)
 ·obtain ⟨v,h,m,l,rfl,_⟩:=h
  rfl
 obtain ⟨v,h,m,l,rfl,⟨a,t,gv,rfl,h0,h1,h2⟩,⟨hz1,hz2⟩,q⟩:=h;refine ⟨_,i7 (w6 (PW.pt (a4A (V4 (T9 (j3 a2b rfl T.isi dE (a0 (pv 0) (a0 (Y5 (v:=.ty "tuple") rfl T.tuple gR rfl) d0))))) (a1P (m6 a6b (j3 j7 rfl T.len bE (a0 (pv 0) d0)) g0 (p6 _))))) (j0 (o4 a2X)) r9)
  (i7 (K7 (pv 0) (a0r rfl (p8 (m5 (i:=3) scIsHK.nd rfl (aC rfl)) (p8 (m5 (i:=4) scIsHK.nd rfl (aC rfl)) D3))))
  (i7 (w6 (V4 (PW.pt (a3R (T9 (m9 G.ok hr rfl G.m G.k G.b .nil t7 (a0 (pv 3) (a0 (pv 1) (a0 g0 d0))))) (a1K (T9 (m9 G.ok hr rfl G.m G.k G.b .nil t7 (a0 (pv 4) (a0 (pv 2) (a0 g0 d0)))))))))
   (j0 (o4 a2X)) r9)
  (j0 (o4 (j3 (a9y rfl) rfl T.any mI (a0 (a1y ["give"] [] rfl (a5z (pv 4)) (λ _ _ _ _=>m5 (i:=0) b2u rfl (aC rfl)) (λ _ _ _ _=>O8 a1S (pv 0) g0 (p6 _))) d0)))))),?_⟩
 refine ⟨_,rfl,a,_,"tuple",true,rfl,h0,M9 _,_,rfl,D6 ?_⟩;refine ⟨_,rfl,a,_,rfl,.inr h0,rfl,_,rfl,b4t rfl ?_⟩;refine ⟨_,rfl,a,_,rfl,h0,rfl,_,_,rfl,_,_,rfl,rfl,?_⟩;refine ⟨_,rfl,_,rfl,t,h.1,m,1,rfl,h1,hz1,λ b1 H1 e1 i1=>⟨_,rfl,?_⟩⟩;refine A6 (λ c1=>?_) (λ c1=>?_)
 ·refine ⟨_,rfl,_,rfl,gv,h.2,l,0,rfl,e1.tseq h2,hz2,λ b2 H2 e2 i2=>⟨_,rfl,?_⟩⟩
  refine A6 (λ c2=>?_) (λ c2=>?_)
  ·refine q _ _ (e1.trans e2) ?_
   have:¬ b2=true:=by simpa using c2
   constructor
   ·intro z; cases z
   ·intro z; exact absurd (i2.mpr z.2.1) this
  ·have c2':b2=true:=by simpa using c2
   have e12:=e1.trans e2;have hl:(h.2.map V.int).length=h.2.length:=aA _;refine ⟨_,rfl,gv,rfl,⟨_,e12.tseq h2⟩,λ p hp=>?_⟩;refine W7 (a2E (e12.tseq h2)) hp (by rw [hl]; exact j9 hz2) (λ x=>.bl (decide (0<vI x))) (λ i x H' N hx e hN=>?_) ?_
   ·obtain ⟨k,rfl⟩:=V1 hx
    exact ⟨Wk.set (by decide),_,rfl,_,_,rfl,rfl,hN⟩
   ·refine ⟨p,h.2.map (λ i=>decide (0<i)),rfl,.inl (SqL.of (by rw [upd_same,aT,aT]; rfl)),?_⟩
    refine q _ _ (e12.trans (Same.new hp _)) ?_;rw [List.any_map,iA];constructor
    ·rintro ⟨x,hx,z⟩
     exact ⟨i1.mp c1,i2.mp c2',x,hx,by simpa using z⟩
    ·rintro ⟨_,_,x,hx,z⟩
     exact ⟨x,hx,by simpa using z⟩
 ·refine O1 ?_
  refine q _ _ e1 ?_;constructor
  ·intro z; cases z
  ·intro z; exact absurd (i1.mpr z.1) c1
def a2k (K:W.Frag) (CB:Addr):Sp:=λ vs H Q E=>∃ (v:V) (h:i9) (m n:Int),vs=[v,.int m,.int n]/\HS K H v h/\K4 h/\m.natAbs.log2<1920/\n.natAbs.log2<1920 ∧
 (GoodK h m n->∀ H',Same H H'->Q .non H')/\(¬ GoodK h m n->∀ H',Same H H'->E (.ref CB) none H')
theorem b0i:j8 ["thing","many_takes","many_gives"] ["thing","many_takes","many_gives"] (h8 Q6):=⟨rfl,rfl,rfl,by decide +kernel,rfl,by decide +kernel,by decide +kernel⟩
theorem a7K {g:Addr} {gd:FuncData} (F:Fun K "refuse_unfit" "refuse_unfit" Q6 f fd) (kB:U7 K CB) (mB:mg "NoBook"=some (.ref CB)) (G:Cal P w K mg base n "is_house" ["thing","many_takes","many_gives"] (a9q K) g gd) :
  FnOk P w K mg base (V8 P w) (n+1) f fd ["thing","many_takes","many_gives"] (a2k K CB):=by
 refine F.ok1 b0i (λ vs H Q E h=>?_) (λ cdv A outer s H vs Q E hr h=>?_)
 ·obtain ⟨v,h,m,l,rfl,_⟩:=h
  rfl
 obtain ⟨v,h,m,l,rfl,hH,hz,hm,hl,q,hE⟩:=h;refine ⟨_,j0 (w6 (V4 (T9 (m9 G.ok hr rfl G.m G.k G.b .nil t7 (a0 (pv 0) (a0 (pv 1) (a0 (pv 2) d0)))))) (j0 (a0A kB rfl mB hr.hd (a0 (a4Y (a2C (a5E (pv 1) (a2C (a5E (pv 2) (a2C b0h)))))) d0))) r9),?_⟩;refine ⟨_,rfl,_,rfl,_,rfl,v,h,m,l,rfl,hH,hz,λ b H1 e1 i1=>⟨_,rfl,?_⟩⟩
 cases b with
 | true=>exact D6 (q (i1.mp rfl) H1 e1)
 | false =>
  refine O1 ?_;exact ⟨_,rfl,m,rfl,hm,_,rfl,l,rfl,hl,λ x=>⟨(by show 1<=1000; decide),hE (λ z=>by have:=i1.mpr z; cases this) H1 e1⟩⟩
def a3g (K:W.Frag) (CB CT:Addr):Sp:=λ vs H Q E=>∃ (l:Addr) (v:V) (xs:List V) (h:i9) (m n:Int),vs=[.ref l,v,.int m,.int n]/\H l=some (.lst xs)/\xs.length<=1000/\HS K H v h/\K4 h/\m.natAbs.log2<1920/\n.natAbs.log2<1920 ∧
 (GoodK h m n->xs.length<16->∀ (r:Addr) (H':Hp),Same H H'->H r=none->H' r=some (.lst (xs++[v]))->Q (.ref r) H')/\(¬ GoodK h m n->∀ H',Same H H'->E (.ref CB) none H')/\(GoodK h m n->16<=xs.length->∀ H',Same H H'->E (.ref CT) none H')
theorem a7B:j8 ["houses","house","many_takes","many_gives"] ["houses","house","many_takes","many_gives"] (h8 N9):=⟨rfl,rfl,rfl,by decide +kernel,rfl,by decide +kernel,by decide +kernel⟩
theorem a5K {g:Addr} {gd:FuncData} (F:Fun K "with_one_more" "with_one_more" N9 f fd) (T:u0 mg) (kT:U7 K CT) (mT:mg "TooMany"=some (.ref CT)) (C:∃ t,mg "MOST_HOUSES"=some (.int 16 t))
  (G:a0H P w K mg base n "refuse_unfit" ["thing","many_takes","many_gives"] (a2k K CB) g gd):FnOk P w K mg base (V8 P w) (n+1) f fd ["houses","house","many_takes","many_gives"] (a3g K CB CT):=by
 refine F.ok1 a7B (λ vs H Q E h=>?_) (λ cdv A outer s H vs Q E hr h=>?_)
 ·obtain ⟨l,v,xs,h,m,n,rfl,_⟩:=h
  rfl
 obtain ⟨l,v,xs,h,m,k,rfl,hl,hz,hH,hs,hm,hk,q,hB,hT⟩:=h;obtain ⟨tm,hmh⟩:=C;refine ⟨_,i7 (B8 (m9 G.ok hr rfl G.m G.k G.b .nil a0C (a0 (pv 1) (a0 (pv 2) (a0 (pv 3) d0)))))
  (i7 (w6 (m6 a7b (j3 j7 rfl T.len bE (a0 (pv 0) d0)) (K3 (v:=.int 16) rfl hmh ⟨_,rfl⟩) (p6 _)) (j0 (a0A kT rfl mT hr.hd (a0 (a4Y (a2C (a5E (K3 (v:=.int 16) rfl hmh ⟨_,rfl⟩) (a2C b0h)))) d0))) r9)
  (PSs.nox (j0 (o4 (j6 x4 (pv 0) (r6 (a0 (pv 1) d0))))))),?_⟩
 refine ⟨_,rfl,_,rfl,_,rfl,v,h,m,k,rfl,hH,hs,hm,hk,λ g1 H1 e1=>?_,hB⟩;refine ⟨_,rfl,l,xs,rfl,.inl (SqL.of (e1 _ _ hl)),_,_,rfl,rfl,_,rfl,?_⟩;refine A6 (λ c=>?_) (λ c=>?_)
 ·have c':16<=xs.length:=by have:=of_decide_eq_true c; omega
  exact ⟨16,rfl,by decide,λ x=>⟨(by show 1<=1000; decide),hT g1 c' H1 e1⟩⟩
 ·have c':xs.length<16:=by have:=of_decide_eq_false (eH.mpr c); omega
  refine ⟨_,rfl,_,rfl,(by show 1<=sizeLine; decide),λ b1 hb1=>?_⟩;have s2:=Same.new hb1 (.lst [v]);refine ⟨l,b1,_,_,rfl,rfl,s2 _ _ (e1 _ _ hl),upd_same,?_,λ p hp=>?_⟩
  ·have:=j9 (show (1000:Nat)<=1000 from aE _)
   simp; omega
  have s3:=Same.new hp (.lst (xs++[v]));refine q g1 c' p _ (e1.trans (s2.trans s3)) ?_ upd_same;exact (e1.trans s2).free hp
def a3d (K:W.Frag) (CN CB:Addr):Sp:=λ vs H Q E=>∃ (l:Addr) (v:V) (xs:List V) (h:i9) (num m n:Int),vs=[.ref l,.int num,v,.int m,.int n]/\H l=some (.lst xs)/\xs.length<=1000/\HS K H v h/\K4 h/\num.natAbs.log2<1920/\m.natAbs.log2<1920/\n.natAbs.log2<1920 ∧
 (∀ i:Nat,num=(i:Int)->i<xs.length->GoodK h m n->∀ (r:Addr) (H':Hp),Same H H'->H r=none->H' r=some (.lst ((xs.take i++[v])++xs.drop (i+1)))->Q (.ref r) H')/\(¬ V7 xs.length num->∀ H',Same H H'->E (.ref CN) none H') ∧
 (V7 xs.length num->¬ GoodK h m n->∀ H',Same H H'->E (.ref CB) none H')
theorem a7L:j8 ["houses","number","house","many_takes","many_gives"] ["houses","number","house","many_takes","many_gives"] (h8 Q0):=⟨rfl,rfl,rfl,by decide +kernel,rfl,by decide +kernel,by decide +kernel⟩
theorem a5N {g g2:Addr} {gd gd2:FuncData} (F:Fun K "with_another" "with_another" Q0 f fd) (Ch:a0H P w K mg base n "house_of" ["book","number"] (a6F K CN) g2 gd2)
  (G:a0H P w K mg base n "refuse_unfit" ["thing","many_takes","many_gives"] (a2k K CB) g gd):FnOk P w K mg base (V8 P w) (n+1) f fd ["houses","number","house","many_takes","many_gives"] (a3d K CN CB):=by
 refine F.ok1 a7L (λ vs H Q E h=>?_) (λ cdv A outer s H vs Q E hr h=>?_)
 ·obtain ⟨l,v,xs,h,num,m,n,rfl,_⟩:=h
  rfl
 obtain ⟨l,v,xs,h,num,m,k,rfl,hl,hz,hH,hs,hn,hm,hk,q,hN,hB⟩:=h;refine ⟨_,i7 (B8 (m9 Ch.ok hr rfl Ch.m Ch.k Ch.b .nil a0C (a0 (pv 0) (a0 (pv 1) d0))))
  (i7 (B8 (m9 G.ok hr rfl G.m G.k G.b .nil a0C (a0 (pv 2) (a0 (pv 3) (a0 (pv 4) d0)))))
  (PSs.nox (j0 (o4 (j6 x4 (j6 x4 (A0 B6 (pv 0) D9 (A4 (pv 1))) (r6 (a0 (pv 2) d0))) (A0 B6 (pv 0) (A4 (j6 D0 (pv 1) g0)) D9)))))),?_⟩
 refine ⟨_,rfl,_,rfl,l,xs,num,rfl,SqL.of hl,hn,λ i x hi hx=>?_,λ bad=>hN bad H (Same.refl _)⟩;subst hi;have hil:=(bN.mp hx).1;refine ⟨_,rfl,_,rfl,_,rfl,v,h,m,k,rfl,hH,hs,hm,hk,λ g1 H1 e1=>?_,λ bad H1 e1=>hB ⟨by omega,by omega⟩ bad H1 e1⟩;have small:=j9 (show (1000:Nat)<=1000 from aE _);refine ⟨_,rfl,_,rfl,_,rfl,l,_,rfl,SqL.of (e1 _ _ hl),λ a1 h1=>?_⟩;rw [X6 _ _ (by omega)];have s1:=Same.new h1 (.lst (xs.take i));refine ⟨_,rfl,(by show 1<=sizeLine; decide),λ a2 h2=>?_⟩;have s2:=Same.new h2 (.lst [v]);refine ⟨a1,a2,_,_,rfl,rfl,s2 _ _ upd_same,upd_same,by simp; omega,λ a3 h3=>?_⟩;have s3:=Same.new h3 (.lst (xs.take i++[v]));have s13:=s1.trans (s2.trans s3);refine ⟨_,rfl,_,rfl,_,_,rfl,rfl,_,rfl,l,_,rfl,SqL.of (s13 _ _ (e1 _ _ hl)),λ a4 h4=>?_⟩;rw [show ((i:Int)+1)=((i+1:Nat):Int) by omega,T0 _ _ (by omega)];have s4:=Same.new h4 (.lst (xs.drop (i+1)));refine ⟨a3,a4,_,_,rfl,rfl,s4 _ _ upd_same,upd_same,by simp; omega,λ p hp=>?_⟩;have s5:=Same.new hp (.lst ((xs.take i++[v])++xs.drop (i+1)));have all:=e1.trans (s13.trans s4);exact q i rfl hil g1 p _ (all.trans s5) (all.free hp) upd_same
theorem b4y:j8 ["ahead","behind"] ["ahead","behind"] (h8 a1b):=⟨rfl,rfl,rfl,by decide +kernel,rfl,by decide +kernel,by decide +kernel⟩
theorem a9F:(["number","was","now"]:List Str).Nodup:=by decide +kernel
abbrev FrL (K:W.Frag) (H:Hp):List V->List Q2->Prop:=aL λ v q=>FrV K H v q
def chI (ps qs:List Q2):List Nat:=(aF (min ps.length qs.length)).filter λ i=>decide (ps.getD i (0,0)≠qs.getD i (0,0))
def a6e (K:W.Frag):Sp:=λ vs H Q _=>∃ (l1 l2:Addr) (xs ys:List V) (ps qs:List Q2),vs=[.ref l1,.ref l2]/\SqL K H l1 xs/\SqL K H l2 ys/\FrL K H xs ps/\FrL K H ys qs/\xs.length<=1000 ∧
 ∀ (l:Addr) (ts:List V) (H':Hp),Same H H'->H l=none->H' l=some (.lst ts)->ChAt H' xs ys (chI ps qs) ts->Q (.ref l) H'
theorem b2a (x y:Q2):PyData.eqv (dF x) (dF y)=decide (x=y):=by
 unfold dF;rw [PyData.eqv,PyData.eqvAll,PyData.eqvAll,PyData.eqvAll,PyData.eqv,PyData.eqv,kO];obtain ⟨a,b⟩:=x;obtain ⟨c,d⟩:=y
 by_cases h1:a=c
 ·by_cases h2:b=d
  ·subst h1 h2; simp
  ·simp [h1,h2]
 ·simp [h1]
theorem a5v (F:Fun K "changes" "changes" a1b f fd) (T:u0 mg):FnOk P w K mg base D7 (n+1) f fd ["ahead","behind"] (a6e K):=by
 refine F.ok b4y (λ vs H Q E h=>?_) (λ cdv A outer s H vs Q E hr h=>?_)
 ·obtain ⟨l1,l2,xs,ys,ps,qs,rfl,_⟩:=h
  rfl
 obtain ⟨l1,l2,xs,ys,ps,qs,rfl,h1,h2,f1,f2,hz,q⟩:=h;refine ⟨_,j0 (o4 (a9v ["number","was","now"] [] rfl (b4E true true K rfl rfl T.enum rfl T.zip (a0 (pv 0) (a0 (pv 1) d0)))
   (λ _ _ _ _=>U4 K (n:=2) rfl rfl (p8 (m5 (i:=0) a9F rfl (aC rfl)) (p8 (U4 K (n:=2) rfl rfl (p8 (m5 (i:=1) a9F rfl (aC rfl)) (p8 (m5 (i:=2) a9F rfl (aC rfl)) D3))) D3)))
   (λ _ _ _ _=>m6 (b2q K rfl hr) (pv 1) (pv 2) (p6 _)) (λ _ _ _ _=>G5 (a0 (pv 0) (a0 (pv 1) (a0 (pv 2) d0)))))),?_⟩
 have lp:xs.length=ps.length:=f1.length;have lq:ys.length=qs.length:=f2.length;refine ⟨_,rfl,_,rfl,l1,l2,rfl,⟨_,h1⟩,⟨_,h2⟩,λ p hp=>?_⟩;refine b4v (b1:=true) (b2:=true) h1 h2 hp (j9 hz) (λ i=>decide (ps.getD i (0,0)≠qs.getD i (0,0))) (λ i x y H' N hx hy e hN=>?_) (λ ts H' e hp' ch=>?_)
 ·obtain ⟨pq,e1,r1⟩:=E6 f1 hx
  obtain ⟨qq,e2,r2⟩:=E6 f2 hy;have g1:ps.getD i (0,0)=pq:=by rw [aI,e1]; rfl
  have g2:qs.getD i (0,0)=qq:=by rw [aI,e2]; rfl
  rw [g1,g2] at hN;refine ⟨_,rfl,_,rfl,dF pq,dF qq,FrV.dp (FrV.same e r1),FrV.dp (FrV.same e r2),a1u _,a1u _,aZ (eM _ _) (b1P _),_,rfl,?_⟩;rw [b2a];have:(!decide (pq=qq))=decide (pq≠qq):=by simp
  rw [this];exact hN
 ·rw [lp,lq] at ch
  exact q p ts H' e hp hp' ch
end
end Rim
namespace L2
open PySem PySem.Spec PyProof.Rows
def b5R (K:W.Frag) (ta:TE) (f:Str):TG:=λ v σ H Q=>ta σ H λ x H2=>∃ a C dx fs,x=.ref a/\H2 a=some (.ins C dx fs)/\Cls K C/\NoAttr K C f/\fs.length<1000/\Q σ (upd H2 a (.ins C dx (Q5 f v fs)))
theorem a0K {M:Model} {A:Around} {E:Value->Shared->Prop} {s:Shared} {env:Env} {o:Expr} {attr:Str} {pos':Pos} {v:Value} {Q:Unit->Shared->Prop}
  (h:wpAny M A (eval o env) (λ ov s₂=>wpAny M A (setAttr ov attr v) Q E s₂) E s):wpAny M A (assign (.Attribute o attr pos') env v) Q E s:=λ Γ p hΓ=>by
 simp only [assign_Attribute,Sem.wp_bind',Sem.wp_holding,Sem.wp_cmd_standAt,Sem.wp_release,Sem.wp_pure'];exact Sem.wp_mono M Γ _ (λ ov _ s₂ h₂=>h₂ Γ _ hΓ) (λ _ _ _ h'=>h') _ _ (h Γ _ hΓ)
theorem a8V {X:Cx} {o:Expr} {f:Str} {pos:Pos} {ta:TE} (ha:PE X o ta):PG X (.Attribute o f pos) (b5R X.K ta f):=by
 intro pins s σ H v u Q I r h;refine a0K (y9 (ha pins s σ H _ I h) λ ov s2 ⟨x,H2,I2,rx,a,C,dx,fs,ex,ea,c,n,l,q2⟩=>?_);subst ex;obtain rfl:ov=Value.ref a:=rx;exact a1X I2 ea c n l r λ s3 I3=>⟨σ,_,I3,q2⟩
end L2
namespace Rim
open PySem L2 Fr
theorem FrT.to1 {Pt:Addr} {H H':Hp} {v:V} {x:Q2} (L:LT Pt H) (e:Same1 Pt H H') (h:FrT H v x):FrT H' v x:=by
 obtain ⟨a,rfl,ha⟩:=h;exact ⟨a,rfl,e.get L ha nofun⟩
end Rim
namespace L2
open PySem
def a6E (o:Option HO):Prop:=∀ u,o=some u->(∀ zs,u≠.tup zs)/\∀ a b,u≠.frz a b
structure Fr0 (X:Addr->Prop) (H H':Hp):Prop where
 k:∀ b o,¬ X b->H b=some o->H' b=some o
 m:∀ x,X x->a6E (H x)
section
variable {X:Addr->Prop} {H H':Hp} {K:W.Frag} {a:Addr} {xs:List V}
theorem Fr0.tup (e:Fr0 X H H') (h:H a=some (.tup xs)):H' a=some (.tup xs):=e.k a _ (λ x=>(e.m a x _ h).1 xs rfl) h
theorem Fr0.seqT (e:Fr0 X H H') (h:SqT K H a xs):SqT K H' a xs:=by
 rcases h with (h | ⟨o,h⟩) | h
 ·exact .inl (.inl (e.tup h))
 ·exact .inl (.inr ⟨o,e.k a _ (λ x=>(e.m a x _ h).2 _ _ rfl) h⟩)
 ·exact .inr h
theorem G1 {o:Option HO} {xs:List V} (h:o=some (.lst xs)):a6E o:=λ u e=>by
 rw [h] at e;obtain rfl:=aN e;exact ⟨λ zs z=>HO.noConfusion z,λ a b z=>HO.noConfusion z⟩
theorem Y3 {o:Option HO} {C dx:Addr} {fs:List (Str×V)} (h:o=some (.ins C dx fs)):a6E o:=λ u e=>by
 rw [h] at e;obtain rfl:=aN e;exact ⟨λ zs z=>HO.noConfusion z,λ a b z=>HO.noConfusion z⟩
theorem a0Z {P:Addr} {pos:Pos} {qual:Str} {H:Hp} (T:LamTab P pos qual H):a6E (H P):=λ u e=>by
 rcases T with t | ⟨c,t,_⟩ <;> (rw [t] at e; obtain rfl:=aN e; exact ⟨λ zs z=>HO.noConfusion z,λ a b z=>HO.noConfusion z⟩)
end
end L2
namespace Rim
open PySem L2 Fr
theorem HS.fr0 {X:Addr->Prop} {K:W.Frag} {H H':Hp} {v:V} {h:i9} (e:Fr0 X H H') (x:HS K H v h):HS K H' v h:=by
 obtain ⟨a,t,g,h0,h1,h2,h3⟩:=x;exact ⟨a,t,g,h0,e.seqT h1,e.seqT h2,e.seqT h3⟩
theorem Bk.fr0 {X:Addr->Prop} {K:W.Frag} {H H':Hp} {vs:List V} {hs:List i9} (e:Fr0 X H H') (x:Bk K H vs hs):Bk K H' vs hs:=Paired.imp' (λ _ _ r=>HS.fr0 e r) x
theorem FrT.fr0 {X:Addr->Prop} {H H':Hp} {v:V} {q:Q2} (e:Fr0 X H H') (x:FrT H v q):FrT H' v q:=by
 obtain ⟨a,rfl,h⟩:=x;exact ⟨a,rfl,e.tup h⟩
abbrev KFs (kt kg:Nat) (z:Str) (ta wa pa:Addr):List (Str×V):=[("many_takes",.int (kt:Int)),("many_gives",.int (kg:Int)),("sizes",.str z),("there",.ref ta),("worth",.ref wa),("past",.ref pa)]
structure TK (K:W.Frag) (C:Addr):Prop where
 cl:Cls K C
 nT:NoAttr K C "many_takes"
 nG:NoAttr K C "many_gives"
 nS:NoAttr K C "sizes"
 nH:NoAttr K C "there"
 nW:NoAttr K C "worth"
 nP:NoAttr K C "past"
abbrev Lev:=List i9×List Q2
def LevAt (K:W.Frag) (H:Hp) (lo:List Addr) (ta wa:Addr) (L:Lev):Prop:=ta∈lo/\wa∈lo/\(∃ xs,H ta=some (.lst xs)/\Bk K H xs L.1)/\∃ ys,H wa=some (.lst ys)/\aL (FrT H) ys L.2
def PastAt (K:W.Frag) (H:Hp) (lo:List Addr):List V->List Lev->Prop:=aL λ v L=>∃ t ta wa,v=.ref t/\H t=some (.tup [.ref ta,.ref wa])/\LevAt K H lo ta wa L
structure KpAt (K:W.Frag) (C:Addr) (H:Hp) (p:Addr) (kt kg:Nat) (z:Str) (L:Lev) (past:List Lev) (pa:Addr) (lo:List Addr):Prop where
 no:pa ∉ lo
 ls:∀ b∈lo,∃ xs,H b=some (.lst xs)
 ex:∃ dx ta wa pv,H p=some (.ins C dx (KFs kt kg z ta wa pa))/\LevAt K H lo ta wa L/\H pa=some (.lst pv)/\PastAt K H lo pv past
theorem LevAt.fr0 {X:Addr->Prop} {K:W.Frag} {H H':Hp} {lo lo':List Addr} {ta wa:Addr} {L:Lev} (e:Fr0 X H H') (n:∀ b∈lo,¬ X b) (s:∀ b∈lo,b∈lo') (h:LevAt K H lo ta wa L):LevAt K H' lo' ta wa L:=by
 obtain ⟨h1,h2,⟨xs,h3,h4⟩,ys,h5,h6⟩:=h;exact ⟨s _ h1,s _ h2,⟨xs,e.k _ _ (n _ h1) h3,h4.fr0 e⟩,ys,e.k _ _ (n _ h2) h5,Paired.imp' (λ _ _ r=>FrT.fr0 e r) h6⟩
theorem PastAt.fr0 {X:Addr->Prop} {K:W.Frag} {H H':Hp} {lo lo':List Addr} {pv:List V} {past:List Lev} (e:Fr0 X H H') (n:∀ b∈lo,¬ X b) (s:∀ b∈lo,b∈lo') (h:PastAt K H lo pv past):PastAt K H' lo' pv past :=
 Paired.imp' (λ _ _ ⟨t,ta,wa,h1,h2,h3⟩=>⟨t,ta,wa,h1,e.tup h2,h3.fr0 e n s⟩) h
theorem KpAt.fr0 {X:Addr->Prop} {K:W.Frag} {C:Addr} {H H':Hp} {p:Addr} {kt kg:Nat} {z:Str} {L:Lev} {past:List Lev} {pa:Addr} {lo:List Addr} (e:Fr0 X H H') (n:∀ b∈lo,¬ X b) (np:¬ X p) (na:¬ X pa) (h:KpAt K C H p kt kg z L past pa lo):KpAt K C H' p kt kg z L past pa lo:=by
 obtain ⟨dx,ta,wa,pv,h1,h2,h3,h4⟩:=h.ex;exact ⟨h.no,λ b hb=>by obtain ⟨xs,q⟩:=h.ls b hb; exact ⟨xs,e.k _ _ (n b hb) q⟩,dx,ta,wa,pv,e.k _ _ np h1,h2.fr0 e n (λ _ h=>h),e.k _ _ na h3,h4.fr0 e n (λ _ h=>h)⟩
theorem KpAt.same {K:W.Frag} {C:Addr} {H H':Hp} {p:Addr} {kt kg:Nat} {z:Str} {L:Lev} {past:List Lev} {pa:Addr} {lo:List Addr} (e:Same H H') (h:KpAt K C H p kt kg z L past pa lo):KpAt K C H' p kt kg z L past pa lo :=
 h.fr0 (X:=λ _=>False) ⟨λ b o _ q=>e b o q,λ _ x=>x.elim⟩ (λ _ _ x=>x) (λ x=>x) λ x=>x
def Shs (z:Str) (hs:List i9) (kt kg:Nat) (qs:List Q2):Prop:=qs.length=hs.length/\∀ (i:Nat) (h:i9) (q:Q2),hs[i]?=some h->qs[i]?=some q->∃ A B,ShU z hs h kt kg A B/\q=low A B
section
variable {P:Program} {w:World} {K:W.Frag} {mg:Str->Option Value} {base:Heap} {f C CN CB CT CL Pt:Addr} {fd:FuncData} {n:Nat}
def a4b (K:W.Frag) (C:Addr):Sp:=λ vs H Q _=>∃ (p dx:Addr) (kt kg:Nat) (z:Str),vs=[.ref p,.int (kt:Int),.int (kg:Int),.str z]/\H p=some (.ins C dx []) ∧
 ∀ (H':Hp) (pa:Addr) (lo:List Addr),KpAt K C H' p kt kg z ([],[]) [] pa lo->(∀ b o,b≠p->H b=some o->H' b=some o)->H pa=none->(∀ b∈lo,H b=none)->Q .non H'
theorem b1F:j8 ["self","takes","gives","sizes"] ["self","takes","gives","sizes"] (h8 N8):=⟨rfl,rfl,rfl,by decide +kernel,rfl,by decide +kernel,by decide +kernel⟩
theorem a9p (F:Fun K "__init__" "Kept.__init__" N8 f fd) (T:TK K C):FnOk P w K mg base D7 (n+1) f fd ["self","takes","gives","sizes"] (a4b K C):=by
 refine F.ok b1F (λ vs H Q E h=>?_) (λ cdv A outer s H vs Q E hr h=>?_)
 ·obtain ⟨p,dx,kt,kg,z,rfl,_⟩:=h
  rfl
 obtain ⟨p,dx,kt,kg,z,rfl,hp,q⟩:=h;refine ⟨_,i7 (G9 (pv 0) (pv 1) rfl) (i7 (G9 (pv 0) (pv 2) rfl) (i7 (G9 (pv 0) (pv 3) rfl) (i7 (G9 (pv 0) (r6 d0) rfl) (i7 (G9 (pv 0) (r6 d0) rfl) (j0 (G9 (pv 0) (r6 d0) rfl)))))),?_⟩;refine ⟨_,rfl,_,rfl,p,C,dx,_,rfl,hp,T.cl,T.nT,(by show 0<1000; decide),?_⟩;refine ⟨_,rfl,_,rfl,p,C,dx,_,rfl,upd_same,T.cl,T.nG,(by show 1<1000; decide),?_⟩;rw [R0];refine ⟨_,rfl,_,rfl,p,C,dx,_,rfl,upd_same,T.cl,T.nS,(by show 2<1000; decide),?_⟩;rw [R0];refine ⟨(by show 0<=sizeLine; decide),λ ta hta=>?_⟩;have n1:p≠ta:=d9 upd_same hta;refine ⟨_,rfl,p,C,dx,_,rfl,by rw [c9 n1]; exact upd_same,T.cl,T.nH,(by show 3<1000; decide),?_⟩;refine ⟨(by show 0<=sizeLine; decide),λ wa hwa=>?_⟩;have n2:p≠wa:=d9 upd_same hwa;refine ⟨_,rfl,p,C,dx,_,rfl,by rw [c9 n2]; exact upd_same,T.cl,T.nW,(by show 4<1000; decide),?_⟩;refine ⟨(by show 0<=sizeLine; decide),λ pa hpa=>?_⟩;have n3:p≠pa:=d9 upd_same hpa;refine ⟨_,rfl,p,C,dx,_,rfl,by rw [c9 n3]; exact upd_same,T.cl,T.nP,(by show 5<1000; decide),?_⟩;have w1:wa≠ta:=λ z0=>by
  subst z0;rw [c9 n2.symm,upd_same] at hwa; cases hwa
 have w2:pa≠wa:=λ z0=>by
  subst z0;rw [c9 n3.symm,upd_same] at hpa; cases hpa
 have w3:pa≠ta:=λ z0=>by
  subst z0;rw [c9 n3.symm,c9 w1.symm,c9 n3.symm,upd_same] at hpa; cases hpa
 have f1:H ta=none:=by rw [c9 n1.symm] at hta; exact hta
 have f2:H wa=none:=by rw [c9 n2.symm,c9 w1,c9 n2.symm] at hwa; exact hwa
 have f3:H pa=none:=by rw [c9 n3.symm,c9 w2,c9 n3.symm,c9 w3,c9 n3.symm] at hpa; exact hpa
 refine q _ pa [ta,wa] ⟨?_,λ b hb=>?_,dx,ta,wa,[],upd_same,⟨.head _,.tail _ (.head _),⟨[],?_,.nil⟩,[],?_,.nil⟩,?_,.nil⟩ (λ b o hb e=>?_) f3 λ b hb=>?_
 ·intro hb
  rcases aH.mp hb with z0 | hb
  ·exact w3 z0
  ·exact w2 (aY.mp hb)
 ·rcases aH.mp hb with rfl | hb
  ·exact ⟨[],by rw [c9 n1.symm,c9 w3.symm,c9 n1.symm,c9 w1.symm,c9 n1.symm,upd_same]⟩
  ·rw [aY.mp hb]
   exact ⟨[],by rw [c9 n2.symm,c9 w2.symm,c9 n2.symm,upd_same]⟩
 ·rw [c9 n1.symm,c9 w3.symm,c9 n1.symm,c9 w1.symm,c9 n1.symm,upd_same]
 ·rw [c9 n2.symm,c9 w2.symm,c9 n2.symm,upd_same]
 ·rw [c9 n3.symm,upd_same]
 ·rw [c9 hb,c9 (d9 e f3),c9 hb,c9 (d9 e f2),c9 hb,c9 (d9 e f1),c9 hb]; exact e
 ·rcases aH.mp hb with rfl | hb
  ·exact f1
  ·rw [aY.mp hb]; exact f2
def Left (Pt p pa:Addr) (H H':Hp):Prop:=∀ b o,b≠p->b≠Pt->b≠pa->H b=some o->H' b=some o
structure Fit (z:Str) (kt kg:Nat):Prop where
 z:Szw z
 t1:1<=kt
 t4:kt<=4
 g4:kg<=4
def a1O (K:W.Frag) (C Pt:Addr):Sp:=λ vs H Q _=>∃ (p ha pa:Addr) (kt kg:Nat) (z:Str) (L:Lev) (past:List Lev) (lo:List Addr) (xs:List V) (hs:List i9),vs=[.ref p,.ref ha]/\KpAt K C H p kt kg z L past pa lo/\Fit z kt kg/\H ha=some (.lst xs)/\Bk K H xs hs/\(∀ g∈hs,HG (10 ^ 9) kt kg g)/\hs.length<=16 ∧
 ha≠pa/\past.length<=1000/\LT Pt H ∧
 ∀ (H':Hp) (wa:Addr) (qs:List Q2),KpAt K C H' p kt kg z (hs,qs) (past++[L]) pa (ha::wa::lo)->Shs z hs kt kg qs->H wa=none->Left Pt p pa H H'->LT Pt H'->Q .non H'
theorem scTurnK:j8 ["self","houses","worth"] ["self","houses"] (h8 B9):=⟨rfl,rfl,rfl,by decide +kernel,rfl,by decide +kernel,by decide +kernel⟩
theorem b1o:(["number","self","houses"]:List Str).Nodup:=by decide +kernel
noncomputable def b4l {cdv:Value} {A:Around} {outer:List Env} {s:Shared} {H:Hp} {E:XK} {f1:Addr} {d1:FuncData} (T:u0 mg) (Cs:a0H P w K mg base n "share" ["book","number","sizes"] (Q9 K CN Pt) f1 d1) (hr:Room n (A.deeper (cU "Kept.turn_to" (h8 B9) s.heap.objs.size f cdv))) :
  { t:TS // PSs (J1 D7 P w K mg base ["self","houses","worth"] "Kept.turn_to" (h8 B9) f cdv A outer s H E).nox (t0 B9) t } :=
 ⟨_,p7 (a0g (i:=2) ["number"] [0,1] scTurnK.nd rfl rfl rfl (E7 rfl T.range (a0 (j3 j7 rfl T.len bE (a0 (pv 1) d0)) d0)) (λ _ _ _ _=>m5 (i:=0) b1o rfl (aC rfl))
   (λ _ _ _ _=>m9 (Z0 Cs.ok) hr rfl Cs.m Cs.k Cs.b .nil a3D (a0 (pv 2) (a0 (pv 0) (a0 (a1F K rfl (pv 1) rfl) d0)))))
  (i7 (B8 (a1Z dR eY eZ J8 (m7 (pv 0) rfl) (a0 (G5 (a0 (m7 (pv 0) rfl) (a0 (m7 (pv 0) rfl) d0))) d0)))
  (i7 (G9 (pv 0) (pv 1) rfl)
  (j0 (G9 (pv 0) (pv 2) rfl))))⟩
end
end Rim
namespace L2
open PySem
theorem LamTab.ne {P:Addr} {pos:Pos} {qual:Str} {H:Hp} {b:Addr} {o:HO} (T:LamTab P pos qual H) (h:H b=some o) (n:∀ ps,o≠.tbl ps):b≠P:=λ z=>by
 subst z;rcases T with t | ⟨c,t,_⟩
 ·rw [h] at t; exact n _ (aN t)
 ·rw [h] at t; exact n _ (aN t)
section
variable {fr:List Nat} {te:TE} {σ:St} {H1:Hp} {p:Addr} {D:Hp->Prop} {P:Addr} {pos:Pos} {qual:Str} {n:Nat}
theorem a6Y (T:LamTab P pos qual H1) (hp:H1 p=none) (hz:n<sizeLine) (R:Nat->V->Hp->Prop)
  (hR:∀ i y H H',LamTab P pos qual H->(∃ zs,H p=some (.lst zs))->R i y H->(∀ b o,b≠p->b≠P->H b=some o->H' b=some o)->R i y H')
  (step:∀ (i:Nat) H ys (N:VK),i<n->Same1 P H1 H->LamTab P pos qual H->H p=some (.lst ys)->(∀ v H3,Same1 P H H3->LamTab P pos qual H3->R i v H3->N v H3)->te ((blkσ 1 fr σ).set 0 (some (.int (i:Int)))) H N)
  (hd:∀ ys H,Same1 P H1 H->LamTab P pos qual H->H p=some (.lst ys)->ys.length=n->(∀ i y,ys[i]?=some y->R i y H)->D H):lcW 1 fr (M7 0) te σ (Itr 0 n) H1 p D:=by
 refine ⟨λ i m ys H=>m=n - i/\i<=n/\Same1 P H1 H/\LamTab P pos qual H/\H p=some (.lst ys)/\ys.length=i/\∀ j y,ys[j]?=some y->R j y H,⟨n,by simp,bU _,(Same.new hp _).to1,T.same (Same.new hp _),upd_same,rfl,λ j y e=>by simp at e⟩,?_⟩;rintro i m ys H ⟨rfl,hi,e,L,hH,len,pr⟩
 by_cases hlt:i<n
 ·refine .inr ⟨hlt,λ x H' y=>?_⟩
  obtain ⟨rfl,rfl⟩:=y;rw [fL];refine ⟨Wk.set (by decide),step i _ _ _ hlt e L hH λ v H3 e3 L3 r3=>?_⟩;have h3:=e3.get L hH nofun;refine ⟨h3,by omega,n - (i+1),by omega,rfl,hlt,(e.trans e3).write hp,L3.write h3,upd_same,by rw [aM,len]; rfl,λ j y ey=>?_⟩;have up:∀ b o,b≠p->b≠P->H3 b=some o->upd H3 p (.lst (ys++[v])) b=some o:=λ b o hb _ q=>by rw [c9 hb]; exact q
  by_cases hj:j<ys.length
  ·rw [bQ hj] at ey
   exact hR j y _ _ L ⟨_,hH⟩ (pr j y ey) λ b o hb hP q=>up b o hb hP (e3 _ _ hP q)
  ·rw [cA (by omega)] at ey
   have hj':j - ys.length=0:=by
    cases q:j - ys.length with
    | zero=>rfl
    | succ k=>rw [q] at ey; simp at ey
   rw [hj'] at ey;have:j=i:=by omega
   subst this;simp at ey;subst ey;exact hR j v _ _ L3 ⟨_,h3⟩ r3 up
 ·have:i=n:=by omega
  subst this;exact .inl ⟨Nat.le_refl _,hd ys H e L hH len pr⟩
end
end L2
namespace Rim
open PySem L2 Fr
section
variable {P:Program} {w:World} {K:W.Frag} {mg:Str->Option Value} {base:Heap} {f C CN CB CT CL Pt:Addr} {fd:FuncData} {n:Nat}
theorem a8X {H:Hp} {ys:List V} {R:Nat->Q2->Prop}:(∀ (i:Nat) y,ys[i]?=some y->∃ q,R i q/\FrT H y q)->∃ qs:List Q2,aL (FrT H) ys qs/\∀ (i:Nat) q,qs[i]?=some q->R i q:=by
 induction ys generalizing R with
 | nil=>exact λ _=>⟨[],.nil,λ i q e=>by simp at e⟩
 | cons y ys ih =>
  intro h;obtain ⟨q,r,hq⟩:=h 0 y rfl;obtain ⟨qs,p,k⟩:=ih (R:=λ i q=>R (i+1) q) λ i z e=>h (i+1) z (by simpa using e);refine ⟨q::qs,.cons hq p,λ i q' e=>?_⟩
  cases i with
  | zero=>simp at e; subst e; exact r
  | succ i=>exact k i q' (by simpa using e)
theorem a8s {f1:Addr} {d1:FuncData} (F:Fun K "turn_to" "Kept.turn_to" B9 f fd) (T:u0 mg) (TKd:TK K C) (Cs:a0H P w K mg base n "share" ["book","number","sizes"] (Q9 K CN Pt) f1 d1) :
  FnOk P w K mg base D7 (n+1) f fd ["self","houses"] (a1O K C Pt):=by
 refine F.ok scTurnK (λ vs H Q E h=>?_) (λ cdv A outer s H vs Q E hr h=>?_)
 ·obtain ⟨p,ha,pa,kt,kg,z,L,past,lo,xs,hs,rfl,_⟩:=h
  rfl
 obtain ⟨p,ha,pa,kt,kg,z,L,past,lo,xs,hs,rfl,KP,ft,hha,hB,hG,h16,nha,hpl,LTH,q⟩:=h;refine ⟨_,(b4l T Cs hr).2,?_⟩;obtain ⟨dx,ta,wa,pv,hp,hlv,hpa,hps⟩:=KP.ex;have xl:xs.length=hs.length:=Paired.length hB;have small:=j9 (show xs.length<=1000 by omega);refine ⟨λ σ' H'=>∃ wl ys qs,σ'=[some (.ref p),some (.ref ha),some (.ref wl)]/\Same1 Pt H H'/\LT Pt H'/\H wl=none/\H' wl=some (.lst ys)/\aL (FrT H') ys qs/\Shs z hs kt kg qs,?_,?_⟩
 ·refine ⟨_,rfl,ha,_,rfl,.inl (SqL.of hha),_,rfl,by omega,by omega,λ wl hwl=>?_⟩
  refine a6Y (P:=Pt) (pos:=a5s) (qual:=b2L) LTH hwl small (λ i y H'=>∃ q h A B,(hs[i]?=some h/\ShU z hs h kt kg A B/\q=low A B)/\FrT H' y q) (λ i y H1 H2 L1 hz r k=>?_) (λ i H1 ys N' hi e1 L1 hp1 hN=>?_) (λ ys H1 e1 L1 hp1 len pr=>?_)
  ·obtain ⟨zs,hzs⟩:=hz
   obtain ⟨q,h,A,B,x,a,rfl,r⟩:=r;exact ⟨q,h,A,B,x,a,rfl,k _ _ (x6 r hzs nofun) (L1.ne r nofun) r⟩
  ·have bin:U6 K H1 ha xs hs (10 ^ 9) kt kg:=⟨SqL.of (e1.get LTH hha nofun),Bk.same1 LTH e1 hB,hG,by decide,h16,by have:=ft.t4; omega,by have:=ft.g4; omega⟩
   refine ⟨_,rfl,_,rfl,_,rfl,p,C,dx,_,_,rfl,e1.get LTH hp nofun,TKd.cl,TKd.nS,rfl,ha,xs,hs,(i:Int),z,10 ^ 9,kt,kg,rfl,ft.z,bin,ft.t1,O6 (by omega),L1,λ i' h' A' B' H7 u' hi' hh' X' e7 L7 hu'=>?_,λ bad=>absurd ⟨by omega,by omega⟩ bad⟩;have:i'=i:=by omega
   subst this;exact hN _ _ e7 L7 ⟨_,h',A',B',⟨hh',X',rfl⟩,hu'⟩
  ·obtain ⟨qs,pq,kq⟩:=a8X (H:=H1) (ys:=ys) (R:=λ i q=>∃ h A B,hs[i]?=some h/\ShU z hs h kt kg A B/\q=low A B) λ i y e=>by
    obtain ⟨q,h,A,B,x,r⟩:=pr i y e;exact ⟨q,⟨h,A,B,x⟩,r⟩
   refine ⟨wl,ys,qs,rfl,e1,L1,hwl,hp1,pq,by rw [<- pq.length,len,xl]; simp,λ i h q hh hq=>?_⟩;obtain ⟨h',A,B,hh',X,e⟩:=kq i q hq;rw [hh] at hh'; cases hh';exact ⟨A,B,X,e⟩
 intro σ1 H1 hM_; refine C6 λ G_ hG_=>?_; obtain ⟨wl,ys,qs,rfl,e1,L1,hwl,hwl1,pq,sh⟩:=hM_; subst hG_;have g1:∀ {b:Addr} {o:HO},H b=some o->(∀ ps,o≠.tbl ps)->H1 b=some o:=λ h n=>e1.get LTH h n;have hp1:=g1 hp nofun;have hpa1:=g1 hpa nofun;refine ⟨_,rfl,p,C,dx,_,_,rfl,hp1,TKd.cl,TKd.nP,rfl,.inl ⟨rfl,_,SqL.of hpa1⟩,?_⟩;refine ⟨_,rfl,p,C,dx,_,_,rfl,hp1,TKd.cl,TKd.nH,rfl,_,rfl,p,C,dx,_,_,rfl,hp1,TKd.cl,TKd.nW,rfl,(by show 2<=sizeLine; decide),λ t ht=>?_⟩;have s2:=Same.new ht (.tup [V.ref ta,V.ref wa]);have lpv:pv.length=past.length:=hps.length;refine ⟨pa,_,_,rfl,rfl,s2 _ _ hpa1,cI (show pv.length<=1000 by omega) (by decide),?_⟩;have npp:p≠pa:=x6 hp hpa nofun;refine ⟨_,rfl,_,rfl,p,C,dx,_,rfl,by rw [c9 npp]; exact s2 _ _ hp1,TKd.cl,TKd.nH,(by show 6<1000; decide),?_⟩;refine ⟨_,rfl,_,rfl,p,C,dx,_,rfl,upd_same,TKd.cl,TKd.nW,(by show 6<1000; decide),?_⟩;rw [R0];have nt:t≠pa:=(d9 hpa1 ht).symm;have ntp:t≠p:=(d9 hp1 ht).symm;have nwp:wl≠p:=x6 hwl1 hp1 nofun;have nwa:wl≠pa:=λ z0=>by subst z0; rw [hpa] at hwl; cases hwl
 have nwt:wl≠t:=d9 hwl1 ht;have nhp:ha≠p:=x6 hha hp nofun;have hha1:=g1 hha nofun;have fr:Fr0 (λ b=>b=p\/b=pa\/b=Pt) H (upd (upd (upd H1 t (HO.tup [V.ref ta,V.ref wa])) pa (HO.lst (pv++[V.ref t]))) p (HO.ins C dx (Q5 "worth" (V.ref wl) (Q5 "there" (V.ref ha) (KFs kt kg z ta wa pa))))):=by
  refine ⟨λ b o hx e=>?_,λ x hx=>?_⟩
  ·have n1:b≠p:=λ z=>hx (.inl z)
   have n2:b≠pa:=λ z=>hx (.inr (.inl z));have n3:b≠Pt:=λ z=>hx (.inr (.inr z));rw [c9 n1,c9 n2];exact s2 _ _ (e1 _ _ n3 e)
  ·rcases hx with rfl | rfl | rfl
   ·exact Y3 hp
   ·exact G1 hpa
   ·exact a0Z LTH
 have fr1:Fr0 (λ b=>b=p\/b=pa) H1 (upd (upd (upd H1 t (HO.tup [V.ref ta,V.ref wa])) pa (HO.lst (pv++[V.ref t]))) p (HO.ins C dx (Q5 "worth" (V.ref wl) (Q5 "there" (V.ref ha) (KFs kt kg z ta wa pa))))):=by
  refine ⟨λ b o hx e=>?_,λ x hx=>?_⟩
  ·rw [c9 λ z=>hx (.inl z),c9 λ z=>hx (.inr z)]
   exact s2 _ _ e
  ·rcases hx with rfl | rfl
   ·exact Y3 hp1
   ·exact G1 hpa1
 have nlo:∀ b∈lo,¬ (b=p\/b=pa\/b=Pt):=λ b hb hx=>by
  obtain ⟨zs,hz⟩:=KP.ls b hb;rcases hx with rfl | rfl | rfl
  ·rw [hp] at hz; cases hz
  ·exact KP.no hb
  ·exact LTH.ne hz nofun rfl
 refine q _ wl qs ⟨?_,λ b hb=>?_,dx,ha,wl,pv++[.ref t],upd_same,⟨.head _,.tail _ (.head _),⟨xs,fr.k _ _ ?_ hha,hB.fr0 fr⟩,ys,fr1.k _ _ ?_ hwl1,Paired.imp' (λ _ _ r=>FrT.fr0 fr1 r) pq⟩,?_,?_⟩ sh hwl (λ b o n1 n2 n3 e=>fr.k b o (λ hx=>hx.elim n1 λ hx=>hx.elim n3 n2) e) ?_
 ·intro hb
  rcases aH.mp hb with z0 | hb
  ·exact nha z0.symm
  ·rcases aH.mp hb with z0 | hb
   ·exact nwa z0.symm
   ·exact KP.no hb
 ·rcases aH.mp hb with rfl | hb
  ·exact ⟨xs,fr1.k _ _ (λ hx=>hx.elim nhp nha) hha1⟩
  ·rcases aH.mp hb with rfl | hb
   ·exact ⟨ys,fr1.k _ _ (λ hx=>hx.elim nwp nwa) hwl1⟩
   ·obtain ⟨zs,hz⟩:=KP.ls b hb
    exact ⟨zs,fr.k _ _ (nlo b hb) hz⟩
 ·exact λ hx=>hx.elim nhp λ hx=>hx.elim nha (LTH.ne hha nofun)
 ·exact λ hx=>hx.elim nwp nwa
 ·rw [c9 npp.symm,upd_same]
 ·refine Paired.app (hps.fr0 fr nlo λ b hb=>.tail _ (.tail _ hb)) (.cons ⟨t,ta,wa,rfl,?_,hlv.fr0 fr nlo λ b hb=>.tail _ (.tail _ hb)⟩ .nil)
  rw [c9 ntp,c9 nt,upd_same]
 ·have L2:LT Pt (upd H1 t (HO.tup [V.ref ta,V.ref wa])):=L1.same s2
  have L3:=L2.write (o:=.lst (pv++[V.ref t])) (s2 _ _ hpa1);rcases L3 with x | ⟨c,x,y⟩
  ·exact .inl (by rw [c9 (λ z0=>by rw [z0,c9 npp,s2 _ _ hp1] at x; cases x)]; exact x)
  ·exact .inr ⟨c,by rw [c9 (λ z0=>by rw [z0,c9 npp,s2 _ _ hp1] at x; cases x)]; exact x,by rw [c9 (λ z0=>by rw [z0,c9 npp,s2 _ _ hp1] at y; cases y)]; exact y⟩
end
end Rim
namespace HT
open PySem PySem.Spec PyProof.Rows L2
section
variable {prog:Program} {w:World} {A:Around} {E:Value->Shared->Prop} {s:Shared}
end
end HT
namespace L2
open PySem PySem.Spec PyProof.Rows
section
variable {X:Cx}
theorem a9r (xs:List V) (h:xs≠[]):A7 xs none (some (-1))=xs.take (xs.length - 1)/\A7 xs (some (-1)) none=xs.drop (xs.length - 1):=by
 have hl:0<xs.length:=iB.mpr h;have e:∀ d,HT.sIx xs.length d (some (-1))=xs.length - 1:=λ d=>by
  show (if (-1:Int)<0 then ((-1:Int)+(xs.length:Int)).toNat else min (-1:Int).toNat xs.length)=_
  rw [if_pos (by decide)]; omega
 constructor
 ·unfold A7
  rw [e,HT.sIx_none,jN,Nat.sub_zero]
 ·unfold A7
  rw [e,HT.sIx_none,eW];rw [cW]; omega
end
end L2
namespace Rim
open PySem L2 Fr
def ChgL (K:W.Frag) (H:Hp) (l:Addr) (ps qs:List Q2):Prop:=∃ xs ys ts,FrL K H xs ps/\FrL K H ys qs/\H l=some (.lst ts)/\ChAt H xs ys (chI ps qs) ts
structure M8 (P:Program) (w:World) (K:W.Frag) (mg:Str->Option Value) (base:Heap) (CX:CXT) (n:Nat) (C:Addr) (m:Str) (ps:List Str) (sp:Sp) (f:Addr) (fd:FuncData):Prop where
 ok:FnOk P w K mg base CX n f fd ps sp
 bd:Binds K fd ps []
 me:a5X K C m f
section
variable {P:Program} {w:World} {K:W.Frag} {mg:Str->Option Value} {base:Heap} {f C CN CB CT CL Pt:Addr} {fd:FuncData} {n:Nat}
theorem FrL.same {H H':Hp} {xs:List V} {ps:List Q2} (e:Same H H') (h:FrL K H xs ps):FrL K H' xs ps:=Paired.imp' (λ _ _ r=>FrV.same e r) h
theorem O3 {H:Hp} {xs:List V} {ps:List Q2} (h:aL (FrT H) xs ps):FrL K H xs ps:=Paired.imp' (λ _ _ r=>FrT.v r) h
theorem E4 {α β:Type} {F:α->β->Prop} {l:List α} {l':List β} (h:aL F l l'):l.length=l'.length:=h.length
theorem Left.free {p pa x:Addr} {H H':Hp} (l:Left Pt p pa H H') (hp:H' p≠none) (hpa:H' pa≠none) (T:LT Pt H') (h:H' x=none):H x=none:=by
 cases q:H x with
 | none=>rfl
 | some o =>
  have n1:x≠p:=λ z=>hp (z ▸ h);have n2:x≠pa:=λ z=>hpa (z ▸ h);have n3:x≠Pt:=λ z=>by
   subst z;rcases T with t | ⟨c,t,_⟩ <;> (rw [h] at t; cases t)
  rw [l x o n1 n3 n2 q] at h; cases h
theorem J4 {α:Type} {l:List α} {k:Nat} (h:l.length=k+1):∃ a x,l=a++[x]/\a.length=k:=by
 refine ⟨l.dropLast,l.getLast (by intro z; rw [z] at h; simp at h),(iK _).symm,by rw [hU]; omega⟩
theorem A3 {α β:Type} {F:α->β->Prop}:∀ {a:List α} {b:List β} {x:α} {y:β},aL F (a++[x]) (b++[y])->aL F a b/\F x y
 | [],[],_,_,.cons r _=>⟨.nil,r⟩
 | [],_::b,_,_,.cons _ t=>by have:=t.length; simp at this
 | _::a,[],_,_,.cons _ t=>by have:=t.length; simp at this
 | _::a,_::b,_,_,.cons r t=>by
  obtain ⟨h1,h2⟩:=A3 t;exact ⟨.cons r h1,h2⟩
theorem a7v {H H':Hp} {xs ys:List V} {is:List Nat} {ts:List V} (e:Same H H') (h:ChAt H xs ys is ts):ChAt H' xs ys is ts:=h.same λ b zs q=>e b _ q
def a3Z (K:W.Frag) (C CB CT Pt:Addr):Sp:=λ vs H Q E=>∃ (p pa:Addr) (v:V) (h:i9) (kt kg:Nat) (z:Str) (L:Lev) (past:List Lev) (lo:List Addr),vs=[.ref p,v]/\KpAt K C H p kt kg z L past pa lo/\Fit z kt kg/\HS K H v h/\K4 h/\(∀ g∈L.1,HG (10 ^ 9) kt kg g)/\L.1.length<=16/\L.2.length=L.1.length ∧
 past.length<=1000/\LT Pt H ∧
 (GoodK h kt kg->L.1.length<16->∀ (H':Hp) (ha wa r cl:Addr) (u:V) (qs:List Q2) (x:Q2),KpAt K C H' p kt kg z (L.1++[h],qs++[x]) (past++[L]) pa (ha::wa::lo)->Shs z (L.1++[h]) kt kg (qs++[x])->H ha=none->H wa=none->Left Pt p pa H H'->LT Pt H' →
  H r=none->H' r=some (.tup [u,.ref cl])->FrT H' u x->H cl=none->ChgL K H' cl L.2 qs->cl≠ha->cl≠wa->Q (.ref r) H') ∧
 (¬ GoodK h kt kg->∀ H',Same H H'->E (.ref CB) none H')/\(GoodK h kt kg->16<=L.1.length->∀ H',Same H H'->E (.ref CT) none H')
theorem scComeK:j8 ["self","house","ahead"] ["self","house"] (h8 Y1):=⟨rfl,rfl,rfl,by decide +kernel,rfl,by decide +kernel,by decide +kernel⟩
theorem b0d {f1 f2 f3:Addr} {d1 d2 d3:FuncData} (F:Fun K "come" "Kept.come" Y1 f fd) (TKd:TK K C) (Ct:M8 P w K mg base D7 n C "turn_to" ["self","houses"] (a1O K C Pt) f1 d1)
  (Co:a0H P w K mg base n "with_one_more" ["houses","house","many_takes","many_gives"] (a3g K CB CT) f2 d2) (Cc:Cal P w K mg base n "changes" ["ahead","behind"] (a6e K) f3 d3) :
  FnOk P w K mg base (V8 P w) (n+1) f fd ["self","house"] (a3Z K C CB CT Pt):=by
 refine F.ok1 scComeK (λ vs H Q E h=>?_) (λ cdv A outer s H vs Q E hr h=>?_)
 ·obtain ⟨p,pa,v,h,kt,kg,z,L,past,lo,rfl,_⟩:=h
  rfl
 obtain ⟨p,pa,v,h,kt,kg,z,L,past,lo,rfl,KP,ft,hH,hs,hG,h16,hql,hpl,LTH,q,hB,hT⟩:=h;refine ⟨_,i7 (m4 (i:=2) scComeK.nd rfl (aC rfl) (m7 (pv 0) rfl))
  (i7 (B8 (Z2 (pv 0) TKd.cl Ct.me Ct.ok hr Ct.bd .nil t7 (a0 (m9 Co.ok hr rfl Co.m Co.k Co.b .nil a0C (a0 (m7 (pv 0) rfl) (a0 (pv 1) (a0 (m7 (pv 0) rfl) (a0 (m7 (pv 0) rfl) d0))))) d0)))
  (PSs.nox (j0 (o4 (G5 (a0 (j5 j4 (m7 (pv 0) rfl) (C8 x9 g0) (λ _ _=>rfl)) (a0 (m9 Cc.ok hr rfl Cc.m Cc.k Cc.b .nil t7 (a0 (pv 2) (a0 (A0 B6 (m7 (pv 0) rfl) D9 (A4 (C8 x9 g0))) d0))) d0))))))),?_⟩
 obtain ⟨dx,ta,wa,pv0,hp,hlv,hpa,hps⟩:=KP.ex;obtain ⟨lv1,lv2,⟨xs,hta,hxs⟩,ys,hwa,hys⟩:=hlv;have xl:xs.length=L.1.length:=Paired.length hxs;refine ⟨_,rfl,p,C,dx,_,_,rfl,hp,TKd.cl,TKd.nW,rfl,?_⟩;refine ⟨_,rfl,p,dx,_,rfl,hp,rfl,?_⟩;refine ⟨_,rfl,p,C,dx,_,_,rfl,hp,TKd.cl,TKd.nH,rfl,_,rfl,_,rfl,p,C,dx,_,_,rfl,hp,TKd.cl,TKd.nT,rfl,_,rfl,p,C,dx,_,_,rfl,hp,TKd.cl,TKd.nG,rfl,?_⟩;refine ⟨ta,v,xs,h,(kt:Int),(kg:Int),rfl,hta,by omega,hH,hs,O6 (by have:=ft.t4; omega),O6 (by have:=ft.g4; omega),λ g1 l16 r H1 e1 hr0 hr1=>?_,λ bad H1 e1=>hB bad H1 e1,λ g1 l16 H1 e1=>hT g1 (by omega) H1 e1⟩;have nrpa:r≠pa:=λ z0=>by subst z0; rw [hpa] at hr0; cases hr0
 have gh:=g1.hg;refine ⟨p,r,pa,kt,kg,z,L,past,lo,xs++[v],L.1++[h],rfl,KP.same e1,ft,hr1,Paired.app (Bk.same e1 hxs) (.cons (hH.same e1) .nil),λ g hg=>?_,by rw [aM,cX]; omega,nrpa,hpl,LTH.same e1,λ H2 wl qs KP2 sh hwl lf L2=>?_⟩
 ·rcases aS.mp hg with hg | hg
  ·exact hG g hg
  ·rw [aY.mp hg]; exact gh
 have lf0:Left Pt p pa H H2:=λ b o n1 n2 n3 q0=>lf b o n1 n2 n3 (e1 _ _ q0);have qlen:qs.length=L.1.length+1:=by rw [sh.1,aM]; rfl
 obtain ⟨qs0,x,rfl,ql0⟩:=J4 qlen;obtain ⟨dx2,ta2,wa2,pv2,hp2,⟨m1,m2,_,ys2,hwa2,hys2⟩,hpa2,_⟩:=KP2.ex;have yl2:ys2.length=L.1.length+1:=by rw [E4 hys2,qlen]
 obtain ⟨ys0,u,rfl,yl0⟩:=J4 yl2;obtain ⟨hy0,hu⟩:=A3 hys2;have nwp:wa≠p:=x6 hwa hp nofun;have nwa:wa≠pa:=λ z0=>KP.no (z0 ▸ lv2);have nwt:wa≠Pt:=LTH.ne hwa nofun;have hwa':H2 wa=some (.lst ys):=lf0 wa _ nwp nwt nwa hwa;have hys':aL (FrT H2) ys L.2:=Paired.imp' (λ v q ⟨a,h1,h2⟩=>⟨a,h1,lf0 a _ (x6 h2 hp nofun) (LTH.ne h2 nofun) (x6 h2 hpa nofun) h2⟩) hys;have yl:ys.length=L.2.length:=E4 hys;refine ⟨_,rfl,p,C,dx2,_,_,rfl,hp2,TKd.cl,TKd.nW,rfl,_,rfl,wa2,_,_,_,rfl,rfl,SqL.of hwa2,a1R ys0 u,?_⟩;refine ⟨_,rfl,_,rfl,p,C,dx2,_,_,rfl,hp2,TKd.cl,TKd.nW,rfl,_,rfl,_,rfl,wa2,_,rfl,SqL.of hwa2,λ c0 hc0=>?_⟩;rw [(a9r (ys0++[u]) (by simp)).1];have ec:(ys0++[u]).take ((ys0++[u]).length - 1)=ys0:=by simp
 rw [ec];have s3:=Same.new hc0 (.lst ys0);refine ⟨wa,c0,ys,ys0,L.2,qs0,rfl,SqL.of (s3 _ _ hwa'),SqL.of upd_same,FrL.same s3 (O3 hys'),FrL.same s3 (O3 hy0),by omega,λ cl ts H4 e4 hcl0 hcl ch=>?_⟩;refine ⟨(by show 2<=sizeLine; decide),λ rt hrt=>?_⟩;have s5:=Same.new hrt (.tup [u,V.ref cl]);have s25:=s3.trans (e4.trans s5);have free:∀ {b:Addr},H2 b=none->H b=none:=λ h=>e1.free (lf.free (by rw [hp2]; nofun) (by rw [hpa2]; nofun) L2 h);have hclN:H2 cl=none:=s3.free hcl0;have hrtN:H2 rt=none:=(s3.trans e4).free hrt;have ncl:∀ b∈r::wl::lo,cl≠b:=λ b hb z0=>by
  subst z0;obtain ⟨zs,hz⟩:=KP2.ls cl hb;rw [hz] at hclN; cases hclN
 refine q g1 (by omega) _ r wl rt cl u qs0 x (KP2.same s25) sh hr0 (e1.free hwl) (λ b o n1 n2 n3 q0=>s25 _ _ (lf0 b o n1 n2 n3 q0)) (L2.same s25) (free hrtN) upd_same (hu.same s25) (free hclN) ?_ (ncl r (.head _)) (ncl wl (.tail _ (.head _)));exact ⟨ys,ys0,ts,FrL.same s25 (O3 hys'),FrL.same s25 (O3 hy0),s5 _ _ hcl,a7v s5 ch⟩
end
theorem a2p {α β:Type} {F:α->β->Prop} {a:List α} {b:List β} (i:Nat) (h:aL F a b):aL F (G8 a i) (G8 b i):=Paired.app (Paired.take i h) (Paired.drop (i+1) h)
section
variable {P:Program} {w:World} {K:W.Frag} {mg:Str->Option Value} {base:Heap} {f C CN CB CT CL Pt:Addr} {fd:FuncData} {n:Nat}
def a9d (K:W.Frag) (C CN Pt:Addr):Sp:=λ vs H Q E=>∃ (p pa:Addr) (num:Int) (kt kg:Nat) (z:Str) (L:Lev) (past:List Lev) (lo:List Addr),vs=[.ref p,.int num]/\KpAt K C H p kt kg z L past pa lo/\Fit z kt kg/\(∀ g∈L.1,HG (10 ^ 9) kt kg g)/\L.1.length<=16/\L.2.length=L.1.length ∧
 past.length<=1000/\num.natAbs.log2<1920/\LT Pt H ∧
 (∀ i:Nat,num=(i:Int)->i<L.1.length->∀ (H':Hp) (ha wa cl:Addr) (qs:List Q2),KpAt K C H' p kt kg z (G8 L.1 i,qs) (past++[L]) pa (ha::wa::lo)->Shs z (G8 L.1 i) kt kg qs->H ha=none->H wa=none->Left Pt p pa H H'->LT Pt H' →
  H cl=none->ChgL K H' cl (G8 L.2 i) qs->cl≠ha->cl≠wa->Q (.ref cl) H') ∧
 (¬ V7 L.1.length num->∀ H',Same H H'->E (.ref CN) none H')
theorem scGoK:j8 ["self","number","houses","ahead"] ["self","number"] (h8 a1j):=⟨rfl,rfl,rfl,by decide +kernel,rfl,by decide +kernel,by decide +kernel⟩
theorem b2V {f1 f2 f3:Addr} {d1 d2 d3:FuncData} (F:Fun K "go" "Kept.go" a1j f fd) (TKd:TK K C) (Ct:M8 P w K mg base D7 n C "turn_to" ["self","houses"] (a1O K C Pt) f1 d1)
  (Cw:a0H P w K mg base n "without" ["houses","number"] (a2O K CN) f2 d2) (Cc:Cal P w K mg base n "changes" ["ahead","behind"] (a6e K) f3 d3) :
  FnOk P w K mg base (V8 P w) (n+1) f fd ["self","number"] (a9d K C CN Pt):=by
 refine F.ok1 scGoK (λ vs H Q E h=>?_) (λ cdv A outer s H vs Q E hr h=>?_)
 ·obtain ⟨p,pa,num,kt,kg,z,L,past,lo,rfl,_⟩:=h
  rfl
 obtain ⟨p,pa,num,kt,kg,z,L,past,lo,rfl,KP,ft,hG,h16,hql,hpl,lm,LTH,q,hN⟩:=h;refine ⟨_,i7 (m4 (i:=2) scGoK.nd rfl (aC rfl) (m9 Cw.ok hr rfl Cw.m Cw.k Cw.b .nil a0C (a0 (m7 (pv 0) rfl) (a0 (pv 1) d0))))
  (i7 (m4 (i:=3) scGoK.nd rfl (aC rfl) (m9 Cw.ok hr rfl Cw.m Cw.k Cw.b .nil a0C (a0 (m7 (pv 0) rfl) (a0 (pv 1) d0))))
  (PSs.nox (i7 (B8 (Z2 (pv 0) TKd.cl Ct.me Ct.ok hr Ct.bd .nil t7 (a0 (pv 2) d0)))
  (j0 (o4 (m9 Cc.ok hr rfl Cc.m Cc.k Cc.b .nil t7 (a0 (pv 3) (a0 (m7 (pv 0) rfl) d0)))))))),?_⟩
 obtain ⟨dx,ta,wa,pv0,hp,hlv,hpa,hps⟩:=KP.ex;obtain ⟨lv1,lv2,⟨xs,hta,hxs⟩,ys,hwa,hys⟩:=hlv;have xl:xs.length=L.1.length:=Paired.length hxs;have yl:ys.length=L.2.length:=E4 hys;refine ⟨_,rfl,p,C,dx,_,_,rfl,hp,TKd.cl,TKd.nH,rfl,_,rfl,ta,xs,num,rfl,SqL.of hta,by omega,lm,λ i r H1 hi hil e1 hr0 hr1=>?_,λ bad=>hN (by rw [<- xl]; exact bad) H (Same.refl _)⟩;subst hi;refine ⟨_,rfl,p,C,dx,_,_,rfl,e1 _ _ hp,TKd.cl,TKd.nW,rfl,_,rfl,wa,ys,(i:Int),rfl,SqL.of (e1 _ _ hwa),by omega,lm,λ i' r2 H2 hi' _ e2 hr20 hr21=>?_,λ bad=>absurd ⟨by omega,by omega⟩ bad⟩;have:i'=i:=by omega
 subst this;have e12:=e1.trans e2;have nrpa:r≠pa:=λ z0=>by subst z0; rw [hpa] at hr0; cases hr0
 refine ⟨_,rfl,p,dx,_,rfl,e12 _ _ hp,rfl,_,rfl,?_⟩;refine ⟨p,r,pa,kt,kg,z,L,past,lo,G8 xs i',G8 L.1 i',rfl,KP.same e12,ft,e2 _ _ hr1,Bk.same e12 (hxs.out i'),λ g hg=>hG g (a4r hg),aZ a0U h16,nrpa,hpl,LTH.same e12,λ H3 wl qs KP2 sh hwl lf L2=>?_⟩;have lf0:Left Pt p pa H H3:=λ b o n1 n2 n3 q0=>lf b o n1 n2 n3 (e12 _ _ q0);obtain ⟨dx2,ta2,wa2,pv2,hp2,⟨m1,m2,_,ys2,hwa2,hys2⟩,hpa2,_⟩:=KP2.ex;have nr2p:r2≠p:=x6 hr21 (e12 _ _ hp) nofun;have nr2a:r2≠pa:=λ z0=>by subst z0; rw [e1 _ _ hpa] at hr20; cases hr20
 have nr2t:r2≠Pt:=(LTH.same e12).ne hr21 nofun;have hr23:H3 r2=some (.lst (G8 ys i')):=lf r2 _ nr2p nr2t nr2a hr21;have hys':aL (FrT H3) ys L.2:=Paired.imp' (λ v q ⟨a,h1,h2⟩=>⟨a,h1,lf0 a _ (x6 h2 hp nofun) (LTH.ne h2 nofun) (x6 h2 hpa nofun) h2⟩) hys;have ll:(G8 ys i').length<=1000:=aZ a0U (by omega);refine ⟨_,rfl,_,rfl,p,C,dx2,_,_,rfl,hp2,TKd.cl,TKd.nW,rfl,r2,wa2,G8 ys i',ys2,G8 L.2 i',qs,rfl,SqL.of hr23,SqL.of hwa2,O3 (a2p i' hys'),O3 hys2,ll,λ cl ts H4 e4 hcl0 hcl ch=>?_⟩;have free:∀ {b:Addr},H3 b=none->H b=none:=λ h=>e12.free (lf.free (by rw [hp2]; nofun) (by rw [hpa2]; nofun) L2 h);have ncl:∀ b∈r::wl::lo,cl≠b:=λ b hb z0=>by
  subst z0;obtain ⟨zs,hz⟩:=KP2.ls cl hb;rw [hz] at hcl0; cases hcl0
 exact q i' rfl (by omega) H4 r wl cl qs (KP2.same e4) sh hr0 (e12.free hwl) (λ b o n1 n2 n3 q0=>e4 _ _ (lf0 b o n1 n2 n3 q0)) (L2.same e4) (free hcl0) ⟨_,_,ts,FrL.same e4 (O3 (a2p i' hys')),FrL.same e4 (O3 hys2),hcl,ch⟩ (ncl r (.head _)) (ncl wl (.tail _ (.head _)))
def a1h (K:W.Frag) (C:Addr):Sp:=λ vs H Q _=>∃ (p pa:Addr) (kt kg:Nat) (z:Str) (L:Lev) (past:List Lev) (lo:List Addr),vs=[.ref p]/\KpAt K C H p kt kg z L past pa lo ∧
 ∀ (l:Addr) (xs:List V) (H':Hp),Same H H'->H l=none->H' l=some (.lst xs)->Bk K H' xs L.1->Q (.ref l) H'
theorem a7p:j8 ["self"] ["self"] (h8 R9):=⟨rfl,rfl,rfl,by decide +kernel,rfl,by decide +kernel,by decide +kernel⟩
theorem a5M (F:Fun K "houses" "Kept.houses" R9 f fd) (T:u0 mg) (TKd:TK K C):FnOk P w K mg base D7 (n+1) f fd ["self"] (a1h K C):=by
 refine F.ok a7p (λ vs H Q E h=>?_) (λ cdv A outer s H vs Q E hr h=>?_)
 ·obtain ⟨p,pa,kt,kg,z,L,past,lo,rfl,_⟩:=h
  rfl
 obtain ⟨p,pa,kt,kg,z,L,past,lo,rfl,KP,q⟩:=h;refine ⟨_,j0 (o4 (v9 A2 rfl T.list dD (a0 (m7 (pv 0) rfl) d0))),?_⟩;obtain ⟨dx,ta,wa,pv0,hp,⟨lv1,lv2,⟨xs,hta,hxs⟩,ys,hwa,hys⟩,hpa,hps⟩:=KP.ex;refine ⟨_,rfl,p,C,dx,_,_,rfl,hp,TKd.cl,TKd.nH,rfl,ta,xs,rfl,.inl (SqL.of hta),λ l hl=>?_⟩;have s1:=Same.new hl (.lst xs);exact q l xs _ s1 hl upd_same (Bk.same s1 hxs)
end
end Rim
namespace L2
open PySem
mutual
inductive Dq (K:W.Frag) (H:Hp) (F:Addr->Prop):V->PyData->Prop
 | non:Dq K H F .non .none
 | int (i:Int):Dq K H F (.int i) (.int i)
 | lst {a:Addr} {xs:List V} {ds:List PyData}:F a->H a=some (.lst xs)->Dqs K H F xs ds->Dq K H F (.ref a) (.list ds)
 | tup {a:Addr} {xs:List V} {ds:List PyData}:SqT K H a xs->Dqs K H F xs ds->Dq K H F (.ref a) (.tuple ds)
inductive Dqs (K:W.Frag) (H:Hp) (F:Addr->Prop):List V->List PyData->Prop
 | nil:Dqs K H F [] []
 | cons {x:V} {xs:List V} {d:PyData} {ds:List PyData}:Dq K H F x d->Dqs K H F xs ds->Dqs K H F (x::xs) (d::ds)
end
section
variable {K:W.Frag} {H H':Hp} {F F':Addr->Prop}
mutual
theorem Dq.dp:∀ {x:V} {d:PyData},Dq K H F x d->Dp K H x d
 | _,_,.non=>.non
 | _,_,.int i=>.int i
 | _,_,.lst _ h r=>.lst (SqL.of h) (Dqs.dp r)
 | _,_,.tup h r=>.tup h (Dqs.dp r)
theorem Dqs.dp:∀ {xs:List V} {ds:List PyData},Dqs K H F xs ds->Dps K H xs ds
 | _,_,.nil=>.nil
 | _,_,.cons a r=>.cons (Dq.dp a) (Dqs.dp r)
end
mutual
theorem Dq.go {X:Addr->Prop} (e:Fr0 X H H') (k:∀ a xs,F a->H a=some (.lst xs)->F' a/\¬ X a):∀ {x:V} {d:PyData},Dq K H F x d->Dq K H' F' x d
 | _,_,.non=>.non
 | _,_,.int i=>.int i
 | _,_,.lst f h r=>.lst (k _ _ f h).1 (e.k _ _ (k _ _ f h).2 h) (Dqs.go e k r)
 | _,_,.tup h r=>.tup (e.seqT h) (Dqs.go e k r)
theorem Dqs.go {X:Addr->Prop} (e:Fr0 X H H') (k:∀ a xs,F a->H a=some (.lst xs)->F' a/\¬ X a):∀ {xs:List V} {ds:List PyData},Dqs K H F xs ds->Dqs K H' F' xs ds
 | _,_,.nil=>.nil
 | _,_,.cons a r=>.cons (Dq.go e k a) (Dqs.go e k r)
end
theorem Same.fr0 (e:Same H H'):Fr0 (λ _=>False) H H':=⟨λ b o _ q=>e b o q,λ _ x=>x.elim⟩
theorem T4 {α:Type} {R:V->α->Prop} {g:α->PyData} (r:∀ v a,R v a->Dq K H F v (g a)):∀ {vs:List V} {as:List α},aL R vs as->Dqs K H F vs (as.map g)
 | _,_,.nil=>.nil
 | _,_,.cons x t=>.cons (r _ _ x) (T4 r t)
theorem a1T:∀ ns:List Int,Dqs K H F (ns.map V.int) (ns.map PyData.int)
 | []=>.nil
 | n::ns=>.cons (.int n) (a1T ns)
end
end L2
namespace Rim
open PySem L2 Fr
section
variable {P:Program} {w:World} {K:W.Frag} {mg:Str->Option Value} {base:Heap} {f C CN CB CT CL Pt:Addr} {fd:FuncData} {n:Nat}
theorem a7a {H:Hp} {F:Addr->Prop} {v:V} {h:i9} (x:HS K H v h):Dq K H F v (K5 h):=by
 obtain ⟨a,t,g,rfl,h0,h1,h2⟩:=x;exact .tup h0 (.cons (.tup h1 (a1T _)) (.cons (.tup h2 (a1T _)) .nil))
theorem a3I {H:Hp} {F:Addr->Prop} {v:V} {q:Q2} (x:FrT H v q):Dq K H F v (dF q):=by
 obtain ⟨a,rfl,h⟩:=x;exact .tup (SqT.of h) (.cons (.int _) (.cons (.int _) .nil))
theorem a8G {H:Hp} {F:Addr->Prop} {v:V} {q:Q2} (x:FrV K H v q):Dq K H F v (dF q):=by
 obtain ⟨a,rfl,h⟩:=x;exact .tup h (.cons (.int _) (.cons (.int _) .nil))
def a1c (K:W.Frag) (C:Addr):Sp:=λ vs H Q _=>∃ (p pa:Addr) (kt kg:Nat) (z:Str) (L:Lev) (past:List Lev) (lo:List Addr),vs=[.ref p]/\KpAt K C H p kt kg z L past pa lo ∧
 ∀ (l:Addr) (ys:List V) (H':Hp),Same H H'->H l=none->H' l=some (.lst ys)->aL (FrT H') ys L.2->Q (.ref l) H'
theorem a7O:j8 ["self"] ["self"] (h8 R8):=⟨rfl,rfl,rfl,by decide +kernel,rfl,by decide +kernel,by decide +kernel⟩
theorem a5W (F:Fun K "shares" "Kept.shares" R8 f fd) (T:u0 mg) (TKd:TK K C):FnOk P w K mg base D7 (n+1) f fd ["self"] (a1c K C):=by
 refine F.ok a7O (λ vs H Q E h=>?_) (λ cdv A outer s H vs Q E hr h=>?_)
 ·obtain ⟨p,pa,kt,kg,z,L,past,lo,rfl,_⟩:=h
  rfl
 obtain ⟨p,pa,kt,kg,z,L,past,lo,rfl,KP,q⟩:=h;refine ⟨_,j0 (o4 (v9 A2 rfl T.list dD (a0 (m7 (pv 0) rfl) d0))),?_⟩;obtain ⟨dx,ta,wa,pv0,hp,⟨lv1,lv2,⟨xs,hta,hxs⟩,ys,hwa,hys⟩,hpa,hps⟩:=KP.ex;refine ⟨_,rfl,p,C,dx,_,_,rfl,hp,TKd.cl,TKd.nW,rfl,wa,ys,rfl,.inl (SqL.of hwa),λ l hl=>?_⟩;have s1:=Same.new hl (.lst ys);exact q l ys _ s1 hl upd_same (Paired.imp' (λ _ _ r=>r.same s1) hys)
def a5h (K:W.Frag) (C Pt:Addr):Sp:=λ vs H Q _=>∃ (p pa:Addr) (kt kg:Nat) (z:Str) (L:Lev) (past:List Lev) (lo:List Addr),vs=[.ref p]/\KpAt K C H p kt kg z L past pa lo/\Fit z kt kg/\(∀ g∈L.1,HG (10 ^ 9) kt kg g)/\L.1.length<=16/\LT Pt H ∧
 ∀ (H':Hp) (r:Addr),Same1 Pt H H'->LT Pt H'->H r=none->H' r=some (.lst ((a2J z L.1).map λ (i:Nat)=>V.int (i:Int)))->Q (.ref r) H'
theorem b2z:j8 ["self"] ["self"] (h8 a0s):=⟨rfl,rfl,rfl,by decide +kernel,rfl,by decide +kernel,by decide +kernel⟩
theorem b0x {f1:Addr} {d1:FuncData} (F:Fun K "rim" "Kept.rim" a0s f fd) (TKd:TK K C) (Cr:S4 P w K mg base n "rim_of" ["book","sizes"] (a1H K Pt) f1 d1):FnOk P w K mg base D7 (n+1) f fd ["self"] (a5h K C Pt):=by
 refine F.ok b2z (λ vs H Q E h=>?_) (λ cdv A outer s H vs Q E hr h=>?_)
 ·obtain ⟨p,pa,kt,kg,z,L,past,lo,rfl,_⟩:=h
  rfl
 obtain ⟨p,pa,kt,kg,z,L,past,lo,rfl,KP,ft,hG,h16,LTH,q⟩:=h;refine ⟨_,j0 (o4 (m9 Cr.ok hr rfl Cr.m Cr.k Cr.b .nil t7 (a0 (m7 (pv 0) rfl) (a0 (m7 (pv 0) rfl) d0)))),?_⟩;obtain ⟨dx,ta,wa,pv0,hp,⟨lv1,lv2,⟨xs,hta,hxs⟩,ys,hwa,hys⟩,hpa,hps⟩:=KP.ex;refine ⟨_,rfl,p,C,dx,_,_,rfl,hp,TKd.cl,TKd.nH,rfl,_,rfl,p,C,dx,_,_,rfl,hp,TKd.cl,TKd.nS,rfl,?_⟩;exact ⟨ta,xs,L.1,z,10 ^ 9,kt,kg,rfl,ft.z,⟨SqL.of hta,hxs,hG,by decide,h16,by have:=ft.t4; omega,by have:=ft.g4; omega⟩,by decide,LTH,q⟩
theorem Shs.uniq {z:Str} {hs:List i9} {kt kg:Nat} {qs qs':List Q2} (hz:Szw z) (hG:∀ g∈hs,HG (10 ^ 9) kt kg g) (a:Shs z hs kt kg qs) (b:Shs z hs kt kg qs'):qs=qs':=by
 refine List.ext_getElem (by rw [a.1,b.1]) λ i h1 h2=>?_;have hi:i<hs.length:=by rw [<- a.1]; exact h1
 obtain ⟨A,B,x,e⟩:=a.2 i hs[i] qs[i] (aG hi) (aG h1);obtain ⟨A',B',x',e'⟩:=b.2 i hs[i] qs'[i] (aG hi) (aG h2);rw [e,e'];exact x.fr hz x'.s hG (hG _ (cP hi))
open Classical in
noncomputable def P5 (z:Str) (kt kg:Nat) (hs:List i9):List Q2:=if h:∃ qs,Shs z hs kt kg qs then mJ h else []
theorem Shs.q {z:Str} {hs:List i9} {kt kg:Nat} {qs:List Q2} (hz:Szw z) (hG:∀ g∈hs,HG (10 ^ 9) kt kg g) (a:Shs z hs kt kg qs):qs=P5 z kt kg hs:=by
 have h:∃ qs,Shs z hs kt kg qs:=⟨_,a⟩;unfold P5;rw [dif_pos h];exact a.uniq hz hG (kP h)
theorem a7e {z:Str} {kt kg:Nat}:P5 z kt kg []=[]:=by
 unfold P5
 split
 ·next h=>exact gA (kP h).1
 ·rfl
noncomputable def lv (z:Str) (kt kg:Nat) (hs:List i9):Lev:=(hs,P5 z kt kg hs)
noncomputable def V6 (ps qs:List Q2):PyData:=.list ((chI ps qs).map λ (i:Nat)=>.tuple [.int (i:Int),dF (ps.getD i (0,0)),dF (qs.getD i (0,0))])
theorem ChgL.dq {H:Hp} {F:Addr->Prop} {l:Addr} {ps qs:List Q2} (h:ChgL K H l ps qs) (hF:F l):Dq K H F (.ref l) (V6 ps qs):=by
 obtain ⟨xs,ys,ts,h1,h2,h3,h4⟩:=h;refine .lst hF h3 ?_;have:∀ {is:List Nat} {ts:List V},ChAt H xs ys is ts->Dqs K H F ts (is.map λ (i:Nat)=>.tuple [.int (i:Int),dF (ps.getD i (0,0)),dF (qs.getD i (0,0))]):=by
  intro is ts h
  induction h with
  | nil=>exact .nil
  | @cons i v is ts r _ ih =>
   obtain ⟨t,x,y,rfl,ex,ey,ht⟩:=r;obtain ⟨p,e1,r1⟩:=E6 h1 ex;obtain ⟨q,e2,r2⟩:=E6 h2 ey;have g1:ps.getD i (0,0)=p:=by rw [aI,e1]; rfl
   have g2:qs.getD i (0,0)=q:=by rw [aI,e2]; rfl
   refine .cons (.tup (SqT.of ht) (.cons (.int _) (.cons ?_ (.cons ?_ .nil)))) ih
   ·rw [g1]; exact a8G r1
   ·rw [g2]; exact a8G r2
 exact this h4
noncomputable def a1w (z:Str) (kt kg:Nat) (hs:List i9):PyData:=.list [.list (hs.map K5),.list ((P5 z kt kg hs).map dF),.list ((a2J z hs).map λ (i:Nat)=>.int (i:Int))]
end
end Rim
namespace L2
open PySem PySem.Spec PyProof.Rows
def a9P (C:Addr) (m:Str) (sp:Sp) (EX:St->XK) (ta:TE) (t:TA):TE:=λ σ H Q=>ta σ H λ x H1=>∃ a dx fs,x=.ref a/\H1 a=some (.ins C dx fs)/\fs.lookup m=none/\t σ H1 λ vs H2=>sp (x::vs) H2 Q (EX σ)
section
variable {X:Cx} {CX:CXT} {k:Nat} {f C:Addr} {fd:FuncData} {ps:List Str} {sp:Sp} {EX:St->XK} {m:Str} {pos apos:Pos} {o e:Expr} {es:List Expr} {ta:TE} {t:TA}
theorem a6Z {pins:List (Addr×Obj)} {σ:St} {H:Hp} {s:Shared} {Q:VK} {us:List Value} {vs:List V} (F:FnOk X.prog X.w X.K X.mg X.base CX k f fd ps sp) (hr:Room k X.A) (hb:Binds X.K fd ps []) (hx:a0S CX X EX)
  (I:Inv X pins σ H s) (r:Vals vs us) (h:sp vs H Q (EX σ)):wpAny (model X.prog X.w) X.A (call (.ref f) us) (EP X pins σ Q) X.xe s:=by
 have hl:(us++[]).length=ps.length:=by rw [dX,<- r.length]; exact F.len _ _ _ _ h
 have hb':=hb s us I.kIn hl;rw [dX] at hb';refine wpAny_call (codeAny_mono (F.run X.A X.stack s H ⟨us,[]⟩ us vs Q (EX σ) hr I.env0 hb' r h) λ rr s' hq=>?_)
 cases rr with
 | error e=>exact hx pins σ H s e s' I hq
 | ok fl =>
  cases fl with
  | ret u=>exact I.after hq
  | next=>exact bO hq
  | brk=>exact bO hq
  | cont=>exact bO hq
theorem a2D {pl:Sem Bool} (he:PE X o ta) (c:Cls X.K C) (hm:a5X X.K C m f) (F:FnOk X.prog X.w X.K X.mg X.base CX k f fd ps sp) (hr:Room k X.A) (hb:Binds X.K fd ps []) (hx:a0S CX X EX) (ha:PA X (e::es) t)
  (hst:starEach (e::es) X.env=(false,eval e X.env)::starEach es X.env:=by rfl) (hpl:(backTo pos (starEach es X.env)).any (·.1)=false:=by rfl)
  (ht:eval (.Call (.Attribute o m apos) (e::es) [] pos) X.env=(do
   let ov <- eval o X.env
   standAt apos.atName
   let (f,first) <- holding [ov] (getMethod ov m pl)
   callWith pos f first (backTo pos (starEach (e::es) X.env)) (backToKw pos (keywordEach [] X.env))):=by rfl) :
  PE X (.Call (.Attribute o m apos) (e::es) [] pos) (a9P C m sp EX ta t):=by
 intro pins s σ H Q I h;refine W.methodCall_KW (pl:=pl) (y9 (he pins s σ H _ I h) λ u s1 ⟨x,H1,I1,rx,a,dx,fs,ex,ea,l,q⟩=>?_) ht;subst ex;obtain rfl:u=Value.ref a:=rx;refine T7 I1 ea c hm l ?_;refine W.callWith_K (first:=[.ref a]) (h₀:=X.base) I.ok.mod.kin hm.kp (y9 (ha pos pins s1 σ H1 _ I1 q) λ us s2 ⟨vs,H2,I2,r,q2⟩=>⟨I2.kIn,?_⟩) hst hpl;exact a6Z (us:=.ref a::us) (vs:=.ref a::vs) F hr hb hx I2 (.cons rfl r) q2
theorem a7I {pl:Sem Bool} (he:PE X o ta) (c:Cls X.K C) (hm:a5X X.K C m f) (F:FnOk X.prog X.w X.K X.mg X.base CX k f fd ps sp) (hr:Room k X.A) (hb:Binds X.K fd ps []) (hx:a0S CX X EX)
  (ht:eval (.Call (.Attribute o m apos) [] [] pos) X.env=(do
   let ov <- eval o X.env
   standAt apos.atName
   let (f,first) <- holding [ov] (getMethod ov m pl)
   callWith pos f first (backTo pos (starEach [] X.env)) (backToKw pos (keywordEach [] X.env))):=by rfl) :
  PE X (.Call (.Attribute o m apos) [] [] pos) (a9P C m sp EX ta a1B):=by
 intro pins s σ H Q I h;refine W.methodCall_KW (pl:=pl) (y9 (he pins s σ H _ I h) λ u s1 ⟨x,H1,I1,rx,a,dx,fs,ex,ea,l,q⟩=>?_) ht;subst ex;obtain rfl:u=Value.ref a:=rx;refine T7 I1 ea c hm l ?_;exact W.callWith_K0 (first:=[.ref a]) I1.kIn hm.kp (a6Z (us:=[.ref a]) (vs:=[.ref a]) F hr hb hx I1 (.cons rfl .nil) q)
end
end L2
namespace L2
open PySem
section
variable {fr:List Nat} {te:TE} {σ:St} {H1:Hp} {p:Addr} {D:Hp->Prop}
end
end L2
namespace Rim
open PySem L2 Fr
section
variable {K:W.Frag} {C Pt:Addr} {H H':Hp} {p pa:Addr} {lo:List Addr} {kt kg:Nat} {z:Str} {L:Lev} {past:List Lev}
theorem X8 (T:LT Pt H) (e:Same1 Pt H H'):Fr0 (λ b=>b=Pt) H H':=⟨λ b o n h=>e b o n h,λ x hx=>by subst hx; exact a0Z T⟩
theorem KpAt.same1 (T:LT Pt H) (e:Same1 Pt H H') (h:KpAt K C H p kt kg z L past pa lo):KpAt K C H' p kt kg z L past pa lo:=by
 obtain ⟨dx,ta,wa,pv0,hp,_,hpa,_⟩:=h.ex;refine h.fr0 (X8 T e) (λ b hb=>?_) (T.ne hp nofun) (T.ne hpa nofun);obtain ⟨zs,hz⟩:=h.ls b hb;exact T.ne hz nofun
theorem a6g {x:Addr} (e:Same1 Pt H H') (T:LT Pt H') (h:H' x=none):H x=none:=by
 cases q:H x with
 | none=>rfl
 | some o =>
  have n3:x≠Pt:=λ z=>by
   subst z;rcases T with t | ⟨c,t,_⟩ <;> (rw [h] at t; cases t)
  rw [e x o n3 q] at h; cases h
end
abbrev KS:=List i9×List (List i9)
structure OkK (z:Str) (kt kg:Nat) (hs:List i9):Prop where
 m:hs.length<=16
 g:∀ g∈hs,HG (10 ^ 9) kt kg g
 l:(P5 z kt kg hs).length=hs.length
abbrev OkS (z:Str) (kt kg:Nat) (S:KS):Prop:=∀ hs∈S.2++[S.1],OkK z kt kg hs
abbrev KpS (K:W.Frag) (C:Addr) (H:Hp) (p:Addr) (kt kg:Nat) (z:Str) (S:KS) (pa:Addr) (lo:List Addr):Prop:=KpAt K C H p kt kg z (lv z kt kg S.1) (S.2.map (lv z kt kg)) pa lo
theorem a4h (ps qs:List Q2):(V6 ps qs).canLay0=true:=by
 unfold V6;rw [PyData.canLay0];generalize chI ps qs=is
 induction is with
 | nil=>rw [dL,PyData.canLayAll0]
 | cons i is ih =>
  rw [aV,PyData.canLayAll0,ih,PyData.canLay0,PyData.canLayAll0,PyData.canLayAll0,PyData.canLayAll0,PyData.canLayAll0,a1u,a1u,PyData.canLay0]; rfl
theorem a3u (q:Q2):(dF q).depth<=5:=by
 unfold dF;simp [PyData.depth,PyData.depthAll]
theorem a3N (ps qs:List Q2):(V6 ps qs).depth<=20:=by
 unfold V6;rw [PyData.depth];generalize chI ps qs=is;have:PyData.depthAll (is.map λ (i:Nat)=>PyData.tuple [.int (i:Int),dF (ps.getD i (0,0)),dF (qs.getD i (0,0))])<=10:=by
  induction is with
  | nil=>rw [dL]; simp [PyData.depthAll]
  | cons i is ih =>
   rw [aV,PyData.depthAll];refine gB.mpr ⟨?_,ih⟩;have a:=a3u (ps.getD i (0,0));have b:=a3u (qs.getD i (0,0));rw [PyData.depth];simp only [PyData.depthAll,PyData.depth];omega
 omega
theorem a9i (z:Str) (kt kg:Nat) (hs:List i9):(a1w z kt kg hs).canLay0=true:=by
 unfold a1w;have a:PyData.canLayAll0 ((P5 z kt kg hs).map dF)=true:=by
  generalize P5 z kt kg hs=l
  induction l with
  | nil=>rw [dL,PyData.canLayAll0]
  | cons x l ih=>rw [aV,PyData.canLayAll0,a1u,ih]; rfl
 have b:PyData.canLayAll0 ((a2J z hs).map λ (i:Nat)=>PyData.int (i:Int))=true:=by
  generalize a2J z hs=l
  induction l with
  | nil=>rw [dL,PyData.canLayAll0]
  | cons x l ih=>rw [aV,PyData.canLayAll0,PyData.canLay0,ih]; rfl
 rw [PyData.canLay0,PyData.canLayAll0,PyData.canLayAll0,PyData.canLayAll0,PyData.canLayAll0,PyData.canLay0,PyData.canLay0,PyData.canLay0,a,b,a2f]; rfl
theorem a4p (z:Str) (kt kg:Nat) (hs:List i9):(a1w z kt kg hs).depth<=60:=by
 unfold a1w;have a:PyData.depthAll ((P5 z kt kg hs).map dF)<=5:=by
  generalize P5 z kt kg hs=l
  induction l with
  | nil=>rw [dL]; simp [PyData.depthAll]
  | cons x l ih=>rw [aV,PyData.depthAll]; exact gB.mpr ⟨a3u x,ih⟩
 have b:PyData.depthAll ((a2J z hs).map λ (i:Nat)=>PyData.int (i:Int))<=5:=by
  generalize a2J z hs=l
  induction l with
  | nil=>rw [dL]; simp [PyData.depthAll]
  | cons x l ih=>rw [aV,PyData.depthAll]; exact gB.mpr ⟨by simp [PyData.depth],ih⟩
 have c:=a0m hs;simp only [PyData.depth,PyData.depthAll];omega
theorem a2t {z:Str} {kt kg:Nat} {S:KS} {hs:List i9} (o:OkS z kt kg S) (h:OkK z kt kg hs):OkS z kt kg (hs,S.2++[S.1]):=λ g hg=>by
 rcases aS.mp hg with hg | hg
 ·exact o g hg
 ·rw [aY.mp hg]; exact h
theorem a5w {H:Hp} {ha wa:Addr} {lo:List Addr} (h1:H ha=none) (h2:H wa=none):∀ b∈ha::wa::lo,b∈lo\/H b=none:=λ b hb=>by
 rcases aH.mp hb with rfl | hb
 ·exact .inr h1
 ·rcases aH.mp hb with rfl | hb
  ·exact .inr h2
  ·exact .inl hb
theorem b1h {xs:List V} {lo hi:Option Int} {v:V} (h:v∈A7 xs lo hi):v∈xs:=eL (fA h)
theorem made {K:W.Frag} {C:Addr} {H:Hp} {Q:VK} {kt kg:Nat} {z:Str} {E:XK} (h:∀ p pa lo H',Same H H'->H p=none->H pa=none->(∀ b∈lo,H b=none)->KpAt K C H' p kt kg z ([],[]) [] pa lo->Q (.ref p) H') :
  ∀ x dx:Addr,H x=none->H dx=none->dx≠x->a4b K C [.ref x,.int (kt:Int),.int (kg:Int),.str z] (upd (upd H dx (.own x)) x (.ins C dx [])) (λ v H'=>v=.non/\Q (.ref x) H') E:=by
 intro x dx hx hdx nd;have sx:∀ b o,H b=some o->(upd (upd H dx (.own x)) x (.ins C dx [])) b=some o:=λ b o q0=>by rw [c9 (d9 q0 hx),c9 (d9 q0 hdx)]; exact q0
 have fr:∀ b,(upd (upd H dx (.own x)) x (.ins C dx [])) b=none->H b=none:=λ b hb=>by
  cases q:H b with
  | none=>rfl
  | some o=>rw [sx b o q] at hb; cases hb
 exact ⟨x,dx,kt,kg,z,rfl,upd_same,λ H4 pa lo KP k f1 f2=>⟨rfl,h x pa lo H4 (λ b o q0=>k b o (d9 q0 hx) (sx b o q0)) hx (fr _ f1) (λ b hb=>fr b (f2 b hb)) KP⟩⟩
structure Kq where
 p:Addr
 pa:Addr
 kt:Nat
 kg:Nat
 z:Str
def KO (K:W.Frag) (C:Addr) (H:Hp) (Ws:List Addr) (o:Kq) (S:KS):Prop:=∃ lo,KpS K C H o.p o.kt o.kg o.z S o.pa lo/\(∀ b∈lo,b ∉ Ws)/\OkS o.z o.kt o.kg S
section
variable {K:W.Frag} {C Pt:Addr} {H H':Hp} {Ws:List Addr} {o x y u:Kq} {S Sx':KS} {dx dy tl:Addr}
theorem KO.p' (k:KO K C H Ws o S):∃ dx fs,H o.p=some (.ins C dx fs):=by
 obtain ⟨lo,kp,_⟩:=k;obtain ⟨dx,_,_,pv,h,_⟩:=kp.ex;exact ⟨dx,_,h⟩
theorem KO.pa' (k:KO K C H Ws o S):∃ pv,H o.pa=some (.lst pv):=by
 obtain ⟨lo,kp,_⟩:=k;obtain ⟨dx,_,_,pv,_,_,h,_⟩:=kp.ex;exact ⟨pv,h⟩
theorem KO.new {lo:List Addr} (k:KpAt K C H o.p o.kt o.kg o.z ([],[]) [] o.pa lo) (n:∀ b∈lo,b ∉ Ws):KO K C H Ws o ([],[]):=by
 refine ⟨lo,?_,n,λ hs h=>?_⟩
 ·show KpAt K C H o.p o.kt o.kg o.z ([],P5 o.z o.kt o.kg []) [] o.pa lo
  rw [a7e]; exact k
 ·have:hs=[]:=by simpa using h
  subst this;exact ⟨by decide,(λ g hg=>nomatch hg),(by rw [a7e]; rfl)⟩
theorem KO.same (e:Same H H') (k:KO K C H Ws o S):KO K C H' Ws o S:=by
 obtain ⟨lo,kp,n,ok⟩:=k;exact ⟨lo,kp.same e,n,ok⟩
theorem KO.same1 (T:LT Pt H) (e:Same1 Pt H H') (k:KO K C H Ws o S):KO K C H' Ws o S:=by
 obtain ⟨lo,kp,n,ok⟩:=k;exact ⟨lo,kp.same1 T e,n,ok⟩
theorem KO.write {w:Addr} {vs ws:List V} (k:KO K C H Ws o S) (hw:H w=some (.lst vs)) (ww:w∈Ws) (nw:o.pa≠w):KO K C (upd H w (.lst ws)) Ws o S:=by
 obtain ⟨do',fo,hp⟩:=k.p';obtain ⟨lo,kp,n,ok⟩:=k;have fr:Fr0 (λ b=>b=w) H (upd H w (.lst ws)):=⟨λ b o hx e=>by rw [c9 hx]; exact e,λ x hx=>by subst hx; exact G1 hw⟩;exact ⟨lo,kp.fr0 fr (λ b hb hX=>n b hb (hX ▸ ww)) (λ z=>by rw [z,hw] at hp; cases hp) nw,n,ok⟩
def Tr (Ws:List Addr) (H H':Hp):Prop:=∃ X:Addr->Prop,Fr0 X H H'/\∀ b xs,b ∉ Ws->H b=some (.lst xs)->¬ X b
theorem Tr.same (e:Same H H'):Tr Ws H H':=⟨_,e.fr0,λ _ _ _ _ z=>z⟩
theorem Tr.same1 (T:LT Pt H) (e:Same1 Pt H H'):Tr Ws H H':=⟨_,X8 T e,λ b xs _ h z=>T.ne h nofun z⟩
theorem Tr.left (T:LT Pt H) (kx:KO K C H Ws x Sx') (wx:x.pa∈Ws) (lf:Left Pt x.p x.pa H H'):Tr Ws H H':=by
 obtain ⟨dx,fs,hx⟩:=kx.p';obtain ⟨pv,hxa⟩:=kx.pa';refine ⟨λ b=>b=x.p\/b=x.pa\/b=Pt,⟨λ b o hx e=>lf b o (λ z=>hx (.inl z)) (λ z=>hx (.inr (.inr z))) (λ z=>hx (.inr (.inl z))) e,λ x hx=>by
  rcases hx with rfl | rfl | rfl
  ·exact Y3 ‹_›
  ·exact G1 hxa
  ·exact a0Z T⟩,λ b xs n h z=>?_⟩
 rcases z with rfl | rfl | rfl
 ·rw [hx] at h; cases h
 ·exact n wx
 ·exact T.ne h nofun rfl
theorem Tr.write {w:Addr} {vs ws:List V} (hw:H w=some (.lst vs)) (ww:w∈Ws):Tr Ws H (upd H w (.lst ws)) :=
 ⟨λ b=>b=w,⟨λ b o hx e=>by rw [c9 hx]; exact e,λ x hx=>by subst hx; exact G1 hw⟩,λ b xs n h z=>n (z ▸ ww)⟩
theorem Tr.lst (t:Tr Ws H H') {b:Addr} {xs:List V} (n:b ∉ Ws) (h:H b=some (.lst xs)):H' b=some (.lst xs):=by
 obtain ⟨X,e,k⟩:=t;exact e.k _ _ (k b xs n h) h
theorem Tr.tup (t:Tr Ws H H') {b:Addr} {xs:List V} (h:H b=some (.tup xs)):H' b=some (.tup xs):=by
 obtain ⟨X,e,k⟩:=t;exact e.tup h
end
section
variable {P:Program} {w:World} {K:W.Frag} {mg:Str->Option Value} {base:Heap} {f C CN CB CT CL Pt:Addr} {fd:FuncData} {n:Nat}
def a0n {α:Type} (l:List α) (i:Nat) (x:α):List α:=(l.take i++[x])++l.drop (i+1)
def a2h (K:W.Frag) (C CN CB Pt:Addr):Sp:=λ vs H Q E=>∃ (p pa:Addr) (num:Int) (v:V) (h:i9) (kt kg:Nat) (z:Str) (L:Lev) (past:List Lev) (lo:List Addr),vs=[.ref p,.int num,v]/\KpAt K C H p kt kg z L past pa lo/\Fit z kt kg/\HS K H v h/\K4 h/\(∀ g∈L.1,HG (10 ^ 9) kt kg g)/\L.1.length<=16/\L.2.length=L.1.length ∧
 past.length<=1000/\num.natAbs.log2<1920/\LT Pt H ∧
 (∀ i:Nat,num=(i:Int)->i<L.1.length->GoodK h kt kg->∀ (H':Hp) (ha wa cl:Addr) (qs:List Q2),KpAt K C H' p kt kg z (a0n L.1 i h,qs) (past++[L]) pa (ha::wa::lo)->Shs z (a0n L.1 i h) kt kg qs->H ha=none->H wa=none->Left Pt p pa H H'->LT Pt H' →
  H cl=none->ChgL K H' cl L.2 qs->cl≠ha->cl≠wa->Q (.ref cl) H') ∧
 (¬ V7 L.1.length num->∀ H',Same H H'->E (.ref CN) none H')/\(V7 L.1.length num->¬ GoodK h kt kg->∀ H',Same H H'->E (.ref CB) none H')
theorem scAlterK:j8 ["self","number","house","ahead"] ["self","number","house"] (h8 T5):=⟨rfl,rfl,rfl,by decide +kernel,rfl,by decide +kernel,by decide +kernel⟩
theorem a4t {α:Type} {l:List α} {i:Nat} {x g:α} (h:g∈a0n l i x):g=x\/g∈l:=by
 unfold a0n at h;simp only [aS,aY] at h;rcases h with (h | h) | h
 ·exact .inr (fA h)
 ·exact .inl h
 ·exact .inr (eL h)
theorem a9c {α:Type} {l:List α} {i:Nat} {x:α} (h:i<l.length):(a0n l i x).length=l.length:=by unfold a0n; simp; omega
theorem a7X {f1 f2 f3:Addr} {d1 d2 d3:FuncData} (F:Fun K "alter" "Kept.alter" T5 f fd) (TKd:TK K C) (Ct:M8 P w K mg base D7 n C "turn_to" ["self","houses"] (a1O K C Pt) f1 d1)
  (Ca:a0H P w K mg base n "with_another" ["houses","number","house","many_takes","many_gives"] (a3d K CN CB) f2 d2) (Cc:Cal P w K mg base n "changes" ["ahead","behind"] (a6e K) f3 d3) :
  FnOk P w K mg base (V8 P w) (n+1) f fd ["self","number","house"] (a2h K C CN CB Pt):=by
 refine F.ok1 scAlterK (λ vs H Q E h=>?_) (λ cdv A outer s H vs Q E hr h=>?_)
 ·obtain ⟨p,pa,num,v,h,kt,kg,z,L,past,lo,rfl,_⟩:=h
  rfl
 obtain ⟨p,pa,num,v,h,kt,kg,z,L,past,lo,rfl,KP,ft,hH,hs,hG,h16,hql,hpl,lm,LTH,q,hN,hB⟩:=h;refine ⟨_,i7 (m4 (i:=3) scAlterK.nd rfl (aC rfl) (m7 (pv 0) rfl))
  (i7 (B8 (Z2 (pv 0) TKd.cl Ct.me Ct.ok hr Ct.bd .nil t7 (a0 (m9 Ca.ok hr rfl Ca.m Ca.k Ca.b .nil a0C (a0 (m7 (pv 0) rfl) (a0 (pv 1) (a0 (pv 2) (a0 (m7 (pv 0) rfl) (a0 (m7 (pv 0) rfl) d0)))))) d0)))
  (PSs.nox (j0 (o4 (m9 Cc.ok hr rfl Cc.m Cc.k Cc.b .nil t7 (a0 (pv 3) (a0 (m7 (pv 0) rfl) d0))))))),?_⟩
 obtain ⟨dx,ta,wa,pv0,hp,hlv,hpa,hps⟩:=KP.ex;obtain ⟨lv1,lv2,⟨xs,hta,hxs⟩,ys,hwa,hys⟩:=hlv;have xl:xs.length=L.1.length:=Paired.length hxs;have yl:ys.length=L.2.length:=E4 hys;refine ⟨_,rfl,p,C,dx,_,_,rfl,hp,TKd.cl,TKd.nW,rfl,?_⟩;refine ⟨_,rfl,p,dx,_,rfl,hp,rfl,?_⟩;refine ⟨_,rfl,p,C,dx,_,_,rfl,hp,TKd.cl,TKd.nH,rfl,_,rfl,_,rfl,_,rfl,p,C,dx,_,_,rfl,hp,TKd.cl,TKd.nT,rfl,_,rfl,p,C,dx,_,_,rfl,hp,TKd.cl,TKd.nG,rfl,?_⟩;refine ⟨ta,v,xs,h,num,(kt:Int),(kg:Int),rfl,hta,by omega,hH,hs,lm,O6 (by have:=ft.t4; omega),O6 (by have:=ft.g4; omega),λ i hi hil g1 r H1 e1 hr0 hr1=>?_,λ bad H1 e1=>hN (by rw [<- xl]; exact bad) H1 e1,λ gd bad H1 e1=>hB (by rw [<- xl]; exact gd) bad H1 e1⟩;subst hi;have nrpa:r≠pa:=λ z0=>by subst z0; rw [hpa] at hr0; cases hr0
 refine ⟨p,r,pa,kt,kg,z,L,past,lo,_,a0n L.1 i h,rfl,KP.same e1,ft,hr1,Paired.app (Paired.app (Paired.take i (Bk.same e1 hxs)) (.cons (hH.same e1) .nil)) (Paired.drop (i+1) (Bk.same e1 hxs)),λ g hg=>?_,by rw [a9c (by omega)]; exact h16,nrpa,hpl,LTH.same e1,λ H3 wl qs KP2 sh hwl lf L2=>?_⟩
 ·rcases a4t hg with rfl | hg
  ·exact g1.hg
  ·exact hG g hg
 have lf0:Left Pt p pa H H3:=λ b o n1 n2 n3 q0=>lf b o n1 n2 n3 (e1 _ _ q0);obtain ⟨dx2,ta2,wa2,pv2,hp2,⟨m1,m2,_,ys2,hwa2,hys2⟩,hpa2,_⟩:=KP2.ex;have nwp:wa≠p:=x6 hwa hp nofun;have nwa:wa≠pa:=λ z0=>KP.no (z0 ▸ lv2);have nwt:wa≠Pt:=LTH.ne hwa nofun;have hwa':H3 wa=some (.lst ys):=lf0 wa _ nwp nwt nwa hwa;have hys':aL (FrT H3) ys L.2:=Paired.imp' (λ v q ⟨a,h1,h2⟩=>⟨a,h1,lf0 a _ (x6 h2 hp nofun) (LTH.ne h2 nofun) (x6 h2 hpa nofun) h2⟩) hys;refine ⟨_,rfl,_,rfl,p,C,dx2,_,_,rfl,hp2,TKd.cl,TKd.nW,rfl,wa,wa2,ys,ys2,L.2,qs,rfl,SqL.of hwa',SqL.of hwa2,O3 hys',O3 hys2,by omega,λ cl ts H4 e4 hcl0 hcl ch=>?_⟩;have free:∀ {b:Addr},H3 b=none->H b=none:=λ h=>e1.free (lf.free (by rw [hp2]; nofun) (by rw [hpa2]; nofun) L2 h);have ncl:∀ b∈r::wl::lo,cl≠b:=λ b hb z0=>by
  subst z0;obtain ⟨zs,hz⟩:=KP2.ls cl hb;rw [hz] at hcl0; cases hcl0
 exact q i rfl (by omega) g1 H4 r wl cl qs (KP2.same e4) sh hr0 (e1.free hwl) (λ b o n1 n2 n3 q0=>e4 _ _ (lf0 b o n1 n2 n3 q0)) (L2.same e4) (free hcl0) ⟨_,_,ts,FrL.same e4 (O3 hys'),FrL.same e4 (O3 hys2),hcl,ch⟩ (ncl r (.head _)) (ncl wl (.tail _ (.head _)))
def a3M (K:W.Frag) (C CL Pt:Addr):Sp:=λ vs H Q E=>∃ (p pa:Addr) (kt kg:Nat) (z:Str) (L:Lev) (past:List Lev) (lo:List Addr),vs=[.ref p]/\KpAt K C H p kt kg z L past pa lo/\LT Pt H ∧
 (∀ (L0:Lev) (past0:List Lev) (H':Hp),past=past0++[L0]->KpAt K C H' p kt kg z L0 past0 pa lo->Left Pt p pa H H'->LT Pt H'->Q .non H')/\(past=[]->∀ H',Same H H'->E (.ref CL) none H')
theorem b0M:j8 ["self"] ["self"] (h8 W6):=⟨rfl,rfl,rfl,by decide +kernel,rfl,by decide +kernel,by decide +kernel⟩
theorem LamTab.writeI {Pt:Addr} {H:Hp} {p C dx:Addr} {fs:List (Str×V)} {o:HO} (T:LT Pt H) (h:H p=some (.ins C dx fs)):LT Pt (upd H p o):=by
 rcases T with x | ⟨c,x,y⟩
 ·exact .inl (by rw [c9 (λ z0=>by rw [z0,h] at x; cases x)]; exact x)
 ·exact .inr ⟨c,by rw [c9 (λ z0=>by rw [z0,h] at x; cases x)]; exact x,by rw [c9 (λ z0=>by rw [z0,h] at y; cases y)]; exact y⟩
theorem a9I (F:Fun K "back" "Kept.back" W6 f fd) (TKd:TK K C) (kL:U7 K CL) (mL:mg "NothingLeft"=some (.ref CL)):FnOk P w K mg base (V8 P w) (n+1) f fd ["self"] (a3M K C CL Pt):=by
 refine F.ok1 b0M (λ vs H Q E h=>?_) (λ cdv A outer s H vs Q E hr h=>?_)
 ·obtain ⟨p,pa,kt,kg,z,L,past,lo,rfl,_⟩:=h
  rfl
 obtain ⟨p,pa,kt,kg,z,L,past,lo,rfl,KP,LTH,q,hL⟩:=h;refine ⟨_,i7 (w6 (V4 (a9S (m7 (pv 0) rfl) (λ _=>rfl))) (j0 (a0A kL rfl mL hr.hd (a0 u9 d0))) r9)
  (PSs.nox (j0 (K7 (a8L dR kQ kS a8O (m7 (pv 0) rfl)) (a0r rfl (p8 (a8V (pv 0)) (p8 (a8V (pv 0)) D3)))))),?_⟩
 obtain ⟨dx,ta,wa,pv0,hp,hlv,hpa,hps⟩:=KP.ex;have lpv:pv0.length=past.length:=E4 hps;refine ⟨_,rfl,p,C,dx,_,_,rfl,hp,TKd.cl,TKd.nP,rfl,_,.inl ⟨_,SqL.of hpa,rfl⟩,?_⟩;rcases iN past with e | ⟨past0,L0,e⟩
 ·subst e
  have:pv0=[]:=gA (by simpa using lpv);subst this;refine O1 ?_;exact ⟨(by show 1<=1000; decide),hL rfl H (Same.refl _)⟩
 ·rw [List.concat_eq_append] at e
  subst e;obtain ⟨pv1,v,rfl,l1⟩:=J4 (l:=pv0) (k:=past0.length) (by rw [lpv]; simp);obtain ⟨hps1,t,ta0,wa0,rfl,ht,hl0⟩:=A3 hps;have ne0:(!(pv1++[V.ref t]).isEmpty)=true:=by simp
  rw [ne0];refine D6 ?_;have gl:(pv1++[V.ref t])[(pv1++[V.ref t]).length - 1]?=some (V.ref t):=by simp
  refine ⟨_,rfl,p,C,dx,_,_,rfl,hp,TKd.cl,TKd.nP,rfl,.inl ⟨rfl,_,SqL.of hpa⟩,pa,_,_,rfl,rfl,hpa,gl,?_⟩;have npp:p≠pa:=x6 hp hpa nofun;have ntp:t≠p:=x6 ht hp nofun;have nta:t≠pa:=x6 ht hpa nofun;refine ⟨t,_,rfl,SqT.of (by rw [c9 nta]; exact ht),rfl,_,_,rfl,⟨_,rfl,p,C,dx,_,rfl,by rw [c9 npp]; exact hp,TKd.cl,TKd.nH,(by show 6<1000; decide),_,_,rfl,⟨_,rfl,p,C,dx,_,rfl,upd_same,TKd.cl,TKd.nW,(by show 6<1000; decide),rfl,?_⟩⟩⟩;rw [R0];have ed:(pv1++[V.ref t]).dropLast=pv1:=by simp
  rw [ed];have fr:Fr0 (λ b=>b=p\/b=pa) H (upd (upd H pa (HO.lst pv1)) p (HO.ins C dx (Q5 "worth" (V.ref wa0) (Q5 "there" (V.ref ta0) (KFs kt kg z ta wa pa))))):=by
   refine ⟨λ b o hx e=>?_,λ x hx=>?_⟩
   ·rw [c9 λ z=>hx (.inl z),c9 λ z=>hx (.inr z)]; exact e
   ·rcases hx with rfl | rfl
    ·exact Y3 hp
    ·exact G1 hpa
  have nlo:∀ b∈lo,¬ (b=p\/b=pa):=λ b hb hx=>by
   obtain ⟨zs,hz⟩:=KP.ls b hb;rcases hx with rfl | rfl
   ·rw [hp] at hz; cases hz
   ·exact KP.no hb
  refine q L0 past0 _ (by simp) ⟨KP.no,λ b hb=>?_,dx,ta0,wa0,pv1,upd_same,hl0.fr0 fr nlo λ _ h=>h,by rw [c9 npp.symm,upd_same],PastAt.fr0 fr nlo (λ _ h=>h) hps1⟩ (λ b o n1 n2 n3 e=>fr.k b o (λ hx=>hx.elim n1 n3) e) ?_
  ·obtain ⟨zs,hz⟩:=KP.ls b hb
   exact ⟨zs,fr.k _ _ (nlo b hb) hz⟩
  ·exact LamTab.writeI (LTH.write hpa) (by rw [c9 npp]; exact hp)
end
end Rim
namespace L2
open PySem PySem.W
theorem a0i {K:Frag} {C:Addr} {B:List Value} {nid:String} (q:excIn K C B nid=true):∃ nm qn N bs bm hdct sn sub ab col dd k0 k1 k2 k3 k5,K.lookup C=some (excClassObj nm qn C N bs bm hdct sn sub ab col dd k0 k1 k2 k3 k5 nid)/\nsOkIn K N=true/\nsIn K N "__init__"=some none/\tailIn K B bm=true:=by
 unfold excIn at q
 split at q
 ·rename_i e1 e2 e3 lk
  split at q
  ·rename_i C' bm w0 w1 w2 w3 nn w5 em es
   simp only [dZ,beq_iff_eq,Bool.not_eq_true'] at q;obtain ⟨⟨⟨⟨⟨u1,u2⟩,u3⟩,u4⟩,u5⟩,u6⟩:=q
   cases u1
   cases u2;obtain ⟨n1,n2,n3,n4,n5,n6,n7,n8,n9,n10,n11⟩:=e2;obtain ⟨ls⟩:=e3
   replace em:n3=_:=em
   replace u3:n11=false:=u3
   replace es:ls=_:=es
   subst em u3 es;exact ⟨n1,n5,n4,n2,bm,n6,n7,n8,n9,n10,e1,w0,w1,w2,w3,w5,lk,u5,u6,u4⟩
  ·cases q
 ·cases q
def FunI (K:Frag) (x qual:Str) (st:Stmt) (f:Addr) (cd:Value):Prop:=∃ oc od kV dc pm an ct sl,K.lookup f=some ⟨oc,od,.func (fnOf x qual (G2 st) (t0 st) (h8 st) .none kV dc pm an cd ct),sl⟩/\codeIn K cd qual=true/\keepIn K (.ref f)=true
theorem fun_in {K:Frag} {x qual:Str} {st:Stmt} {f:Addr} {cd oc kV dc pm ct:Value} {od an:Option Addr} {sl:Array (Option Value)} (l:K.lookup f=some ⟨oc,od,.func (fnOf x qual (G2 st) (t0 st) (h8 st) .none kV dc pm an cd ct),sl⟩) (c:codeIn K cd qual=true) (k:keepIn K (.ref f)=true):FunI K x qual st f cd:=⟨_,_,_,_,_,_,_,_,l,c,k⟩
theorem FunI.fn {K:Frag} {x qual:Str} {st:Stmt} {f:Addr} {cd:Value} (h:FunI K x qual st f cd):∃ fd,Fun K x qual st f fd/\fd.code=cd/\keepIn K (.ref f)=true:=by
 obtain ⟨_,_,_,_,_,_,_,_,l,c,k⟩:=h;exact ⟨_,a8N l c k,rfl,k⟩
theorem Fun.b1 {K:Frag} {x qual:Str} {st:Stmt} {f:Addr} {fd:FuncData} {p0:Str} (F:Fun K x qual st f fd) (h:∀ (kV doc pm:Value) (an:Option Addr) (cdv ct v0:Value),bindArgs (fnOf x qual (G2 st) (t0 st) (h8 st) .none kV doc pm an cdv ct) ⟨[v0],[]⟩=pure [(p0,v0)]):Binds K fd [p0] [] :=
 F.binds λ a b c d e g us hl=>match us,hl with | [v0],_=>h a b c d e g v0
theorem Fun.b2 {K:Frag} {x qual:Str} {st:Stmt} {f:Addr} {fd:FuncData} {p0 p1:Str} (F:Fun K x qual st f fd) (h:∀ (kV doc pm:Value) (an:Option Addr) (cdv ct v0 v1:Value),bindArgs (fnOf x qual (G2 st) (t0 st) (h8 st) .none kV doc pm an cdv ct) ⟨[v0,v1],[]⟩=pure [(p0,v0),(p1,v1)]):Binds K fd [p0,p1] [] :=
 F.binds λ a b c d e g us hl=>match us,hl with | [v0,v1],_=>h a b c d e g v0 v1
theorem Fun.b3 {K:Frag} {x qual:Str} {st:Stmt} {f:Addr} {fd:FuncData} {p0 p1 p2:Str} (F:Fun K x qual st f fd) (h:∀ (kV doc pm:Value) (an:Option Addr) (cdv ct v0 v1 v2:Value),bindArgs (fnOf x qual (G2 st) (t0 st) (h8 st) .none kV doc pm an cdv ct) ⟨[v0,v1,v2],[]⟩=pure [(p0,v0),(p1,v1),(p2,v2)]):Binds K fd [p0,p1,p2] [] :=
 F.binds λ a b c d e g us hl=>match us,hl with | [v0,v1,v2],_=>h a b c d e g v0 v1 v2
theorem Fun.b4 {K:Frag} {x qual:Str} {st:Stmt} {f:Addr} {fd:FuncData} {p0 p1 p2 p3:Str} (F:Fun K x qual st f fd) (h:∀ (kV doc pm:Value) (an:Option Addr) (cdv ct v0 v1 v2 v3:Value),bindArgs (fnOf x qual (G2 st) (t0 st) (h8 st) .none kV doc pm an cdv ct) ⟨[v0,v1,v2,v3],[]⟩=pure [(p0,v0),(p1,v1),(p2,v2),(p3,v3)]):Binds K fd [p0,p1,p2,p3] [] :=
 F.binds λ a b c d e g us hl=>match us,hl with | [v0,v1,v2,v3],_=>h a b c d e g v0 v1 v2 v3
theorem Fun.b5 {K:Frag} {x qual:Str} {st:Stmt} {f:Addr} {fd:FuncData} {p0 p1 p2 p3 p4:Str} (F:Fun K x qual st f fd) (h:∀ (kV doc pm:Value) (an:Option Addr) (cdv ct v0 v1 v2 v3 v4:Value),bindArgs (fnOf x qual (G2 st) (t0 st) (h8 st) .none kV doc pm an cdv ct) ⟨[v0,v1,v2,v3,v4],[]⟩=pure [(p0,v0),(p1,v1),(p2,v2),(p3,v3),(p4,v4)]):Binds K fd [p0,p1,p2,p3,p4] [] :=
 F.binds λ a b c d e g us hl=>match us,hl with | [v0,v1,v2,v3,v4],_=>h a b c d e g v0 v1 v2 v3 v4
end L2
namespace Rim
open PySem L2 Fr
structure b0D (K:W.Frag) (mg:Str->Option Value) (cE cB cH cR cT cM cL:Addr):Prop where
 mE:mg "RimError"=some (.ref cE)
 mB:mg "NoBook"=some (.ref cB)
 mH:mg "NoHouse"=some (.ref cH)
 mR:mg "NoRow"=some (.ref cR)
 mT:mg "NoText"=some (.ref cT)
 mM:mg "TooMany"=some (.ref cM)
 mL:mg "NothingLeft"=some (.ref cL)
 kE:U7 K cE
structure a0w (K:W.Frag) (c cE cB cH cR cT cM cL:Addr) (b1 b2 b3 b4 b5 b6:Bool):Prop where
 k:U7 K c
 sub:W.mroIn K c (.ref cE)=some true
 i1:W.kitOne K (.ref c) (.ref cB)=some b1
 i2:W.kitOne K (.ref c) (.ref cH)=some b2
 i3:W.kitOne K (.ref c) (.ref cR)=some b3
 i4:W.kitOne K (.ref c) (.ref cT)=some b4
 i5:W.kitOne K (.ref c) (.ref cM)=some b5
 i6:W.kitOne K (.ref c) (.ref cL)=some b6
 v:W.kitOne K (.ref c) (.type "ValueError")=some true
abbrev a0E (b1 b2 b3 b4 b5 b6:Bool):List V:=[.bl b1,.bl b2,.bl b3,.bl b4,.bl b5,.bl b6,.bl true]
section
variable {P:Program} {w:World} {K:W.Frag} {mg:Str->Option Value} {base:Heap} {f g:Addr} {fd gd:FuncData} {n:Nat}
def a5n (K:W.Frag) (cE cB cH cR cT cM cL:Addr):Sp:=λ vs H Q _=>∃ (ea c:Addr) (b1 b2 b3 b4 b5 b6:Bool),vs=[.ref ea]/\H ea=some (a7J ea c)/\a0w K c cE cB cH cR cT cM cL b1 b2 b3 b4 b5 b6/\∀ (r:Addr) (H':Hp),Same H H'->H' r=some (.lst (a0E b1 b2 b3 b4 b5 b6))->Q (.ref r) H'
theorem scKin:j8 ["e","kin"] ["e"] (h8 U2):=⟨rfl,rfl,rfl,by decide +kernel,rfl,by decide +kernel,by decide +kernel⟩
theorem b0l:bootBuiltins "ValueError"=some (.type "ValueError"):=by decide +kernel
theorem b0w {cE cB cH cR cT cM cL:Addr} (F:Fun K "_law_a_kin" "_law_a_kin" U2 f fd) (T:u0 mg) (R:b0D K mg cE cB cH cR cT cM cL):FnU P w K mg base (n+1) f fd ["e"] (a5n K cE cB cH cR cT cM cL):=by
 refine F.okU scKin (λ vs H Q E h=>?_) (λ cdv A outer s H vs Q E hr h=>?_)
 ·obtain ⟨ea,c,b1,b2,b3,b4,b5,b6,rfl,_⟩:=h
  rfl
 obtain ⟨ea,c,b1,b2,b3,b4,b5,b6,rfl,he,M,q⟩:=h;refine ⟨_,i7 (m4 (i:=1) scKin.nd rfl (aC rfl) (r6 (a0 (j3 C9 rfl T.isi dE (a0 (pv 0) (a0 (K3 (v:=.ref cB) rfl R.mB rfl) d0)))
   (a0 (j3 C9 rfl T.isi dE (a0 (pv 0) (a0 (K3 (v:=.ref cH) rfl R.mH rfl) d0)))
   (a0 (j3 C9 rfl T.isi dE (a0 (pv 0) (a0 (K3 (v:=.ref cR) rfl R.mR rfl) d0)))
   (a0 (j3 C9 rfl T.isi dE (a0 (pv 0) (a0 (K3 (v:=.ref cT) rfl R.mT rfl) d0))) d0))))))
  (j0 (o4 (j6 x4 (pv 1) (r6 (a0 (j3 C9 rfl T.isi dE (a0 (pv 0) (a0 (K3 (v:=.ref cM) rfl R.mM rfl) d0)))
   (a0 (j3 C9 rfl T.isi dE (a0 (pv 0) (a0 (K3 (v:=.ref cL) rfl R.mL rfl) d0)))
   (a0 (j3 C9 rfl T.isi dE (a0 (pv 0) (a0 (Y5 (v:=.ty "ValueError") rfl T.ve b0l rfl) d0))) d0))))))),?_⟩
 refine ⟨_,rfl,ea,c,_,b1,rfl,he,M.k,λ u ru=>by cases ru; exact M.i1,_,rfl,ea,c,_,b2,rfl,he,M.k,λ u ru=>by cases ru; exact M.i2,_,rfl,ea,c,_,b3,rfl,he,M.k,λ u ru=>by cases ru; exact M.i3,
  _,rfl,ea,c,_,b4,rfl,he,M.k,λ u ru=>by cases ru; exact M.i4,(by show 4<=sizeLine; decide),λ l1 hl1=>?_⟩
 have s1:=Same.new hl1 (.lst [V.bl b1,V.bl b2,V.bl b3,V.bl b4]);have he1:=s1 _ _ he;refine ⟨_,rfl,_,rfl,ea,c,_,b5,rfl,he1,M.k,λ u ru=>by cases ru; exact M.i5,_,rfl,ea,c,_,b6,rfl,he1,M.k,λ u ru=>by cases ru; exact M.i6,_,rfl,ea,c,_,true,rfl,he1,M.k,λ u ru=>by cases ru; exact M.v,(by show 3<=sizeLine; decide),λ l2 hl2=>?_⟩;have s2:=Same.new hl2 (.lst [V.bl b5,V.bl b6,V.bl true]);refine ⟨l1,l2,_,_,rfl,rfl,s2 _ _ upd_same,upd_same,(by show 7<=sizeLine; decide),λ l3 hl3=>?_⟩;exact q l3 _ (s1.trans (s2.trans (Same.new hl3 _))) upd_same
abbrev a7T (x:Str):List V:=a0E (decide (V.str "NoBook"=V.str x)) (decide (V.str "NoHouse"=V.str x)) (decide (V.str "NoRow"=V.str x)) (decide (V.str "NoText"=V.str x)) (decide (V.str "TooMany"=V.str x)) (decide (V.str "NothingLeft"=V.str x))
def a9L:Sp:=λ vs H Q _=>∃ x:Str,vs=[.str x]/\∀ (r:Addr) (H':Hp),Same H H'->H' r=some (.lst (a7T x))->Q (.ref r) H'
theorem scDue:j8 ["name","names"] ["name"] (h8 P9):=⟨rfl,rfl,rfl,by decide +kernel,rfl,by decide +kernel,by decide +kernel⟩
theorem b3P:(["one","name"]:List Str).Nodup:=by decide +kernel
theorem b0P (F:Fun K "_law_due_kin" "_law_due_kin" P9 f fd) (T:u0 mg):FnOk P w K mg base D7 (n+1) f fd ["name"] a9L:=by
 refine F.ok scDue (λ vs H Q E h=>?_) (λ cdv A outer s H vs Q E hr h=>?_)
 ·obtain ⟨x,rfl,_⟩:=h
  rfl
 obtain ⟨nm,rfl,q⟩:=h;refine ⟨_,i7 (m4 (i:=1) scDue.nd rfl (aC rfl) (r6 (a0 u9 (a0 u9 (a0 u9 (a0 u9 (a0 u9 (a0 u9 d0))))))))
  (j0 (o4 (j6 x4 (a1y ["one"] [0] rfl (M6 (pv 1)) (λ _ _ _ _=>m5 (i:=0) b3P rfl (aC rfl)) (λ _ _ _ _=>O8 M4 (pv 0) (pv 1) (p6 _))) (r6 (a0 a2X d0))))),?_⟩
 refine ⟨(by show 6<=sizeLine; decide),λ l1 hl1=>?_⟩;have s1:=Same.new hl1 (.lst [.str "NoBook",.str "NoHouse",.str "NoRow",.str "NoText",.str "TooMany",.str "NothingLeft"]);refine ⟨_,rfl,l1,rfl,⟨_,SqL.of upd_same⟩,λ p hp=>?_⟩;refine W7 (K1 (SqL.of upd_same)) hp (by decide) (λ x=>.bl (decide (x=.str nm))) (λ i x H' N hx e hN=>?_) ?_
 ·have hy:∃ y,x=.str y:=by
   have:=bV hx;simp only [aH,bA,or_false] at this;rcases this with rfl | rfl | rfl | rfl | rfl | rfl <;> exact ⟨_,rfl⟩
  obtain ⟨y,rfl⟩:=hy;exact ⟨Wk.set (by decide),_,rfl,_,rfl,rfl,hN⟩
 ·have s2:=Same.new hp (.lst (kC (λ x=>V.bl (decide (x=V.str nm))) [.str "NoBook",.str "NoHouse",.str "NoRow",.str "NoText",.str "TooMany",.str "NothingLeft"]))
  refine ⟨(by show 1<=sizeLine; decide),λ l2 hl2=>?_⟩;have s3:=Same.new hl2 (.lst [V.bl true]);refine ⟨p,l2,_,_,rfl,rfl,s3 _ _ upd_same,upd_same,(by show 7<=sizeLine; decide),λ l3 hl3=>?_⟩;exact q l3 _ (s1.trans (s2.trans (s3.trans (Same.new hl3 _)))) (by rw [upd_same]; congr 2)
structure b4z (P:Program) (w:World) (K:W.Frag) (mg:Str->Option Value) (base:Heap) (n:Nat) (x:Str) (ps:List Str) (sp:Sp) (fa:Addr) (d:FuncData):Prop where
 ok:FnU P w K mg base n fa d ps sp
 b:Binds K d ps []
 k:W.keepIn K (.ref fa)=true
 m:mg x=some (.ref fa)
def a6f (b1 b2 b3 b4 b5 b6:Bool):PyData:=.list [.bool b1,.bool b2,.bool b3,.bool b4,.bool b5,.bool b6,.bool true]
theorem a6C {K:W.Frag} {H:Hp} {a:Addr} {b1 b2 b3 b4 b5 b6:Bool} (h:H a=some (.lst (a0E b1 b2 b3 b4 b5 b6))):Dp K H (.ref a) (a6f b1 b2 b3 b4 b5 b6) :=
 .lst (SqL.of h) (.cons (.bl _) (.cons (.bl _) (.cons (.bl _) (.cons (.bl _) (.cons (.bl _) (.cons (.bl _) (.cons (.bl _) .nil)))))))
end
end Rim
namespace L2
open PySem
section
variable {fr:List Nat} {tc:TT} {te:TE} {σ:St} {H1:Hp} {p:Addr} {D:Hp->Prop} {n:Nat}
end
end L2
namespace Rim
open PySem L2 Fr
section
variable {P:Program} {w:World} {K:W.Frag} {mg:Str->Option Value} {base:Heap} {f C Pt:Addr} {fd:FuncData} {n:Nat}
def a2M (h:i9):Prop:=h.1≠[]/\h.2≠[]
def a4f (K:W.Frag):Sp:=λ vs H Q _=>∃ (v:V) (h:i9) (c:Addr) (kt kg:Nat),vs=[v,.ref c]/\HS K H v h/\K4 h/\a2M h/\SqT K H c [.int (kt:Int),.int (kg:Int)] ∧
 ∀ (b:Bool) (H':Hp),Same H H'->(b=true ↔ GoodK h kt kg)->Q (.bl b) H'
theorem b1b:j8 ["house","counts"] ["house","counts"] (h8 N6):=⟨rfl,rfl,rfl,by decide +kernel,rfl,by decide +kernel,by decide +kernel⟩
theorem a7N (a b c d:Int):PyData.eqv (.list [.int a,.int b]) (.list [.int c,.int d])=decide (a=c/\b=d):=by
 rw [PyData.eqv,PyData.eqvAll,PyData.eqvAll,PyData.eqvAll,PyData.eqv,PyData.eqv,kO]
 by_cases h1:a=c <;> by_cases h2:b=d <;> simp [h1,h2]
theorem a9A (F:Fun K "_law_is_house" "_law_is_house" N6 f fd) (T:u0 mg):FnOk P w K mg base D7 (n+1) f fd ["house","counts"] (a4f K):=by
 refine F.ok b1b (λ vs H Q E h=>?_) (λ cdv A outer s H vs Q E hr h=>?_)
 ·obtain ⟨v,h,c,kt,kg,rfl,_⟩:=h
  rfl
 obtain ⟨v,h,c,kt,kg,rfl,⟨a,t,gv,rfl,h0,h1,h2⟩,⟨hz1,hz2⟩,⟨ne1,ne2⟩,hc,q⟩:=h;refine ⟨_,p7 (w6 (PW.pt (a4A (m6 (X4 hr) (r6 (a0 (j3 j7 rfl T.len bE (a0 (j5 x5 (pv 0) g0 (λ _ _=>rfl)) d0)) (a0 (j3 j7 rfl T.len bE (a0 (j5 x5 (pv 0) g0 (λ _ _=>rfl)) d0)) d0))) (v9 A2 rfl T.list dD (a0 (pv 1) d0)) (p6 _)) (a1P (m6 a0v (j3 (a2N rfl) rfl T.max gS (a0 (j5 x5 (pv 0) g0 (λ _ _=>rfl)) d0)) g0 (p6 _))))) (j0 (o4 a2X)) r9)
  (j0 (o4 (a3Q (O8 a1S (j3 (a3a rfl) rfl T.min iO (a0 (j5 x5 (pv 0) g0 (λ _ _=>rfl)) d0)) g0 (p6 _)) (a3Q (O8 a7b (j3 (a3a rfl) rfl T.min iO (a0 (j5 x5 (pv 0) g0 (λ _ _=>rfl)) d0)) g0 (p6 _)) (a5P (O8 a4H (j3 (a2N rfl) rfl T.max gS (a0 (j6 b0I (j5 x5 (pv 0) g0 (λ _ _=>rfl)) (j5 x5 (pv 0) g0 (λ _ _=>rfl))) d0)) (j6 a5d g0 g0) (p6 _))))))),?_⟩
 refine ⟨λ σ' H'=>σ'=[some (.ref a),some (.ref c)]/\Same H H'/\h.1.length=kt/\h.2.length=kg/\∃ x∈h.2,0<x,?_,?_⟩
 ·refine ⟨_,rfl,a,_,0,_,rfl,rfl,h0,G3 _ _,t,_,rfl,.inr h1,_,rfl,a,_,1,_,rfl,rfl,h0,O2 _ _,gv,_,rfl,.inr h2,(by show 2<=sizeLine; decide),λ l1 k1=>?_⟩
  have s1:=Same.new k1 (.lst [V.int ((h.1.map V.int).length:Int),V.int ((h.2.map V.int).length:Int)]);refine ⟨_,rfl,c,_,rfl,.inr (s1.tseq hc),λ l2 k2=>?_⟩;have s2:=Same.new k2 (.lst [V.int (kt:Int),V.int (kg:Int)]);have n12:l1≠l2:=d9 upd_same k2;refine ⟨.list [.int ((h.1.map V.int).length:Int),.int ((h.2.map V.int).length:Int)],.list [.int (kt:Int),.int (kg:Int)],.lst (SqL.of (s2 _ _ upd_same)) (.cons (.int _) (.cons (.int _) .nil)),.lst (SqL.of upd_same) (.cons (.int _) (.cons (.int _) .nil)),by rfl,by rfl,aZ (eM _ _) (by simp [PyData.depth,PyData.depthAll]),_,rfl,?_⟩;have e2:=s1.trans s2;rw [aA,aA] at e2;rw [a7N,aA,aA];refine A6 (λ c1=>O1 (q _ _ e2 ⟨λ z=>absurd z (by decide),λ z=>?_⟩)) (λ c1=>?_)
  ·rw [decide_eq_true (show ((h.1.length:Int)=(kt:Int)/\(h.2.length:Int)=(kg:Int)) from ⟨z.1.1,z.2.1.1⟩)] at c1
   cases c1
  have cc:(h.1.length:Int)=(kt:Int)/\(h.2.length:Int)=(kg:Int):=by simpa using c1
  refine ⟨_,rfl,a,_,1,_,rfl,rfl,e2.tseq h0,O2 _ _,gv,h.2,rfl,.inr (e2.tseq h2),ne2,λ M hM hMx=>?_⟩;refine ⟨_,_,rfl,rfl,_,rfl,A6 (λ c2=>q _ _ e2 ⟨λ z=>absurd z (by decide),λ z=>?_⟩) (λ c2=>⟨rfl,e2,by omega,by omega,M,hM,?_⟩)⟩
  ·obtain ⟨x,hx,hp⟩:=z.2.2
   have:=hMx x hx;have:M<1:=of_decide_eq_true c2;omega
  ·have:¬ M<1:=λ h=>c2 (decide_eq_true h)
   omega
 intro σ1 H1 hM_; refine C6 λ G_ hG_=>?_; obtain ⟨rfl,e1,l1,l2,hpos⟩:=hM_; subst hG_;refine ⟨_,rfl,a,_,0,_,rfl,rfl,e1.tseq h0,G3 _ _,t,h.1,rfl,.inr (e1.tseq h1),ne1,λ M hM hMx=>?_⟩;refine ⟨_,_,rfl,rfl,_,rfl,A6 (λ c1=>?_) (λ c1=>?_)⟩
 ·have c1':0<M:=of_decide_eq_true c1
  refine ⟨_,rfl,a,_,1,_,rfl,rfl,e1.tseq h0,O2 _ _,gv,h.2,rfl,.inr (e1.tseq h2),ne2,λ M3 hM3 hMx3=>?_⟩;refine ⟨_,_,rfl,rfl,_,rfl,A6 (λ c3=>?_) (λ c3=>?_)⟩
  ·have c3':0<=M3:=of_decide_eq_true c3
   refine ⟨_,rfl,a,_,0,_,rfl,rfl,e1.tseq h0,G3 _ _,_,rfl,a,_,1,_,rfl,rfl,e1.tseq h0,O2 _ _,t,gv,_,_,rfl,rfl,e1.tseq h1,e1.tseq h2,?_,?_,?_,?_⟩
   ·intro z; exact absurd (iP.mp z) ne1
   ·rw [aA,aA]; exact dA (cI (show h.1.length+h.2.length<=2000 by omega) (by decide))
   ·intro z; exact absurd (iP.mp z) ne2
   intro _ pc hpc;have s2:=Same.new hpc (.tup (h.1.map V.int++h.2.map V.int));refine ⟨pc,h.1++h.2,rfl,.inr (SqT.of (by rw [upd_same,aW])),by simp [ne1],λ M2 hM2 hM2x=>?_⟩;refine ⟨_,_,rfl,rfl,⟨by decide,by decide,by decide⟩,_,_,rfl,rfl,?_⟩;refine q _ _ (e1.trans s2) ?_;rw [decide_eq_true_iff];constructor
   ·intro z
    have z':M2<=1000000000:=z;exact ⟨⟨by omega,λ x hx=>⟨by have:=hMx x hx; omega,by have:=hM2x x (dJ _ hx); omega⟩⟩,⟨by omega,λ x hx=>⟨by have:=hMx3 x hx; omega,by have:=hM2x x (bS _ hx); omega⟩⟩,hpos⟩
   ·intro z
    show M2<=1000000000
    rcases aS.mp hM2 with hx | hx
    ·exact (z.1.2 M2 hx).2
    ·exact (z.2.1.2 M2 hx).2
  ·refine q _ _ e1 ⟨λ z=>absurd z (by simpa using c3),λ z=>?_⟩
   have c3':¬ 0<=M3:=of_decide_eq_false (eH.mpr c3);have:=(z.2.1.2 M3 hM3).1;omega
 ·refine q _ _ e1 ⟨λ z=>absurd z (by simpa using c1),λ z=>?_⟩
  have c1':¬ 0<M:=of_decide_eq_false (eH.mpr c1);have:=(z.1.2 M hM).1;omega
end
section
variable {P:Program} {w:World} {K:W.Frag} {mg:Str->Option Value} {base:Heap} {f C Pt:Addr} {fd:FuncData} {n:Nat}
def a6T (K:W.Frag):Sp:=λ vs H Q _=>∃ (c pl:Addr) (kt kg:Nat) (ns:List Int),vs=[.ref c,.ref pl]/\SqT K H c [.int (kt:Int),.int (kg:Int)]/\1<=kt/\kt<=3/\1<=kg/\kg<=3/\SqL K H pl (ns.map V.int)/\ns.length=13/\∀ (v:V) (h:i9) (H':Hp),Same H H'->HS K H' v h->K4 h->a2M h->Q v H'
theorem scHou31:j8 ["counts","picks","many","takes","gives"] ["counts","picks"] (h8 C4):=⟨rfl,rfl,rfl,by decide +kernel,rfl,by decide +kernel,by decide +kernel⟩
theorem a6v:(["pick"]:List Str).Nodup:=by decide +kernel
noncomputable def b5u {cdv:Value} {A:Around} {outer:List Env} {s:Shared} {H:Hp} {E:XK} (T:u0 mg)
  (hr:Room n (A.deeper (cU "_law_a_house" (h8 C4) s.heap.objs.size f cdv))) :
  { t:TS // PSs (J1 D7 P w K mg base ["counts","picks","many","takes","gives"] "_law_a_house" (h8 C4) f cdv A outer s H E).nox (t0 C4) t } :=
 ⟨_,i7 (m4 (i:=2) scHou31.nd rfl (aC rfl) (v9 A2 rfl T.list dD (a0 (pv 0) d0)))
  (p7 (w6 (m6 M4 (j6 C5 (j5 j4 (pv 1) g0 (λ _ _=>rfl)) g0) g0 (p6 _)) (j0 (K7 (j3 (a2V rfl) rfl T.max gS (a0 g0 (a0 (j6 D0 (j5 j4 (pv 2) (j6 C5 (j5 j4 (pv 1) g0 (λ _ _=>rfl)) g0) (λ _ _=>rfl)) (j5 j4 (r6 (a0 g0 (a0 (C8 x9 g0) d0))) (j6 C5 (j6 a4g (j5 j4 (pv 1) g0 (λ _ _=>rfl)) g0) g0) (λ _ _=>rfl))) d0))) (R7 (pv 2) (j6 C5 (j5 j4 (pv 1) g0 (λ _ _=>rfl)) g0) G6))) r9)
  (p7 (a0g (i:=3) ["pick"] [] scHou31.nd rfl rfl rfl (M6 (A0 B6 (pv 1) D9 (A4 (j5 j4 (pv 2) g0 (λ _ _=>rfl))))) (λ _ _ _ _=>m5 (i:=0) a6v rfl (aC rfl)) (λ _ _ _ _=>j6 D0 g0 (j6 C5 (pv 0) g0)))
  (p7 (a0g (i:=4) ["pick"] [] scHou31.nd rfl rfl rfl (M6 (A0 B6 (pv 1) (A4 g0) (A4 (j6 D0 g0 (j5 j4 (pv 2) g0 (λ _ _=>rfl)))))) (λ _ _ _ _=>m5 (i:=0) a6v rfl (aC rfl)) (λ _ _ _ _=>j6 C5 (pv 0) g0))
  (p7 (K7 (j6 D0 (j5 j4 (pv 4) (C8 x9 g0) (λ _ _=>rfl)) g0) (R7 (pv 4) (C8 x9 g0) G6))
  (p7 (w6 (m6 M4 (j6 C5 (j5 j4 (pv 1) g0 (λ _ _=>rfl)) g0) g0 (p6 _)) (j0 (K7 (j5 j4 (r6 (a0 g0 (a0 (C8 x9 g0) (a0 (j6 D0 (j6 a5d g0 g0) g0) d0)))) (j6 C5 (j5 j4 (pv 1) g0 (λ _ _=>rfl)) g0) (λ _ _=>rfl)) (R7 (pv 3) g0 G6))) r9)
  (p7 (w6 (m6 M4 (j6 C5 (j5 j4 (pv 1) g0 (λ _ _=>rfl)) g0) g0 (p6 _)) (j0 (m4 (i:=4) scHou31.nd rfl (aC rfl) (j6 U3 (r6 (a0 g0 d0)) (j3 j7 rfl T.len bE (a0 (pv 4) d0))))) r9)
  (j0 (o4 (G5 (a0 (v9 a0d rfl T.tuple gR (a0 (pv 3) d0)) (a0 (v9 a0d rfl T.tuple gR (a0 (pv 4) d0)) d0)))))))))))⟩
theorem a9w {l:List Int} {i:Nat} (h:i<l.length):(l.map V.int)[i]?=some (V.int (l.getD i 0)):=by
 rw [aD,aI,aG h]; rfl
theorem b1i {m i:Nat} (h:i<m):ixN m (i:Int)=some i:=by
 unfold ixN;rw [if_pos (by omega),if_pos (by omega),bD]
theorem a1W {m:Nat} (h:1<=m):ixN m (-1)=some (m - 1):=by
 unfold ixN;rw [if_neg (by omega),if_pos (by omega)]
 congr 1
 omega
theorem a6h {l:List Int} {i:Nat} {x:Int}:(l.map V.int).set i (.int x)=(l.set i x).map V.int:=by rw [gP]
theorem U5 {H0 H:Hp} {a:Addr} {o:HO} (h:H0 a=none) (e:Same H0 H):Same H0 (upd H a o):=λ b u q=>by
 rw [c9 (d9 q h)]; exact e _ _ q
theorem b4C (x:Int):x % 2=0\/x % 2=1:=by omega
theorem a8H (F:Fun K "_law_a_house" "_law_a_house" C4 f fd) (T:u0 mg):FnOk P w K mg base D7 (n+1) f fd ["counts","picks"] (a6T K):=by
 refine F.ok scHou31 (λ vs H Q E h=>?_) (λ cdv A outer s H vs Q E hr h=>?_)
 ·obtain ⟨c,pl,kt,kg,ns,rfl,_⟩:=h
  rfl
 obtain ⟨c,pl,kt,kg,ns,rfl,hc,t1,t3,g1,g3,hP,l13,q⟩:=h;refine ⟨_,(b5u T hr).2,?_⟩;have atp:∀ {j:Nat},j<13->N5 (ns.map V.int) (j:Int)=some (V.int (ns.getD j 0)):=λ {j} hj=>v7 (a9w (by omega));have s1k:=j9 (show (1000:Nat)<=1000 from aE _);refine ⟨_,rfl,c,_,rfl,.inr hc,λ m km=>?_⟩;have s1:=Same.new km (.lst [V.int (kt:Int),V.int (kg:Int)]);have hm1:=upd_same (H:=H) (a:=m) (o:=.lst [V.int (kt:Int),V.int (kg:Int)]);generalize upd H m (.lst [V.int (kt:Int),V.int (kg:Int)])=H1 at *;refine ⟨λ σ' H'=>∃ a b:Nat,σ'=[some (.ref c),some (.ref pl),some (.ref m),none,none]/\Same H H'/\H' m=some (.lst [.int (a:Int),.int (b:Int)])/\1<=a/\a<=4/\1<=b/\b<=4,?_,?_⟩
 ·have P1:=s1.seq hP
  refine ⟨_,rfl,pl,_,10,_,rfl,rfl,P1,atp (j:=10) (by decide),_,_,rfl,rfl,(by show (0:Int)<8; decide),rfl,_,rfl,A6 (λ _=>?_) (λ _=>⟨kt,kg,rfl,s1,hm1,t1,by omega,g1,by omega⟩)⟩;generalize ns.getD 10 0=p10 at *;have a9:=atp (j:=9) (by decide);generalize ns.getD 9 0=p9 at *;obtain ⟨d,hd,hd2⟩:∃ d:Int,(d=1\/d = -1)/\N5 [V.int 1,V.int (-1)] (p9 / 2 % 2)=some (.int d):=by
   rcases b4C (p9 / 2) with e | e
   ·exact ⟨1,.inl rfl,by rw [e]; exact G3 _ _⟩
   ·exact ⟨-1,.inr rfl,by rw [e]; exact O2 _ _⟩
  have new:∀ x:Int,1<=x->x<=3->∃ y:Nat,(if x+d>1 then x+d else 1)=(y:Int)/\1<=y/\y<=4:=λ x h1 h3=>by
   refine ⟨(if x+d>1 then x+d else 1).toNat,?_,?_,?_⟩ <;> split <;> omega
  rcases b4C p9 with e | e
  ·obtain ⟨y,hy,y1,y4⟩:=new (kt:Int) (by omega) (by omega)
   refine ⟨_,rfl,_,rfl,pl,_,9,_,rfl,rfl,P1,a9,_,_,rfl,rfl,(by show (0:Int)<2; decide),m,_,_,_,rfl,rfl,SqL.of hm1,(by rw [e]; exact G3 _ _),?_⟩;refine ⟨_,rfl,(by show 2<=sizeLine; decide),λ l1 k1=>?_⟩;have s2:=Same.new k1 (.lst [V.int 1,V.int (-1)]);refine ⟨_,rfl,pl,_,9,_,rfl,rfl,s2.seq P1,a9,_,_,rfl,rfl,⟨by decide,by decide⟩,_,_,rfl,rfl,(by show (0:Int)<2; decide),l1,_,_,_,rfl,rfl,SqL.of upd_same,hd2,_,_,rfl,rfl,_,_,rfl,?_⟩;refine ⟨_,rfl,_,rfl,pl,_,9,_,rfl,rfl,s2.seq P1,a9,_,_,rfl,rfl,(by show (0:Int)<2; decide),?_⟩;have hm2:=s2 _ _ hm1;refine ⟨m,_,_,0,rfl,rfl,hm2,(by rw [e]; rfl),y,kg,rfl,U5 km (s1.trans s2),?_,by omega,by omega,by omega,by omega⟩;rw [upd_same,<- hy];rfl
  ·obtain ⟨y,hy,y1,y4⟩:=new (kg:Int) (by omega) (by omega)
   refine ⟨_,rfl,_,rfl,pl,_,9,_,rfl,rfl,P1,a9,_,_,rfl,rfl,(by show (0:Int)<2; decide),m,_,_,_,rfl,rfl,SqL.of hm1,(by rw [e]; exact O2 _ _),?_⟩;refine ⟨_,rfl,(by show 2<=sizeLine; decide),λ l1 k1=>?_⟩;have s2:=Same.new k1 (.lst [V.int 1,V.int (-1)]);refine ⟨_,rfl,pl,_,9,_,rfl,rfl,s2.seq P1,a9,_,_,rfl,rfl,⟨by decide,by decide⟩,_,_,rfl,rfl,(by show (0:Int)<2; decide),l1,_,_,_,rfl,rfl,SqL.of upd_same,hd2,_,_,rfl,rfl,_,_,rfl,?_⟩;refine ⟨_,rfl,_,rfl,pl,_,9,_,rfl,rfl,s2.seq P1,a9,_,_,rfl,rfl,(by show (0:Int)<2; decide),?_⟩;have hm2:=s2 _ _ hm1;refine ⟨m,_,_,1,rfl,rfl,hm2,(by rw [e]; rfl),kt,y,rfl,U5 km (s1.trans s2),?_,by omega,by omega,by omega,by omega⟩;rw [upd_same,<- hy];rfl
 intro σ2 H2 hM_; refine C6 λ G_ hG_=>?_; obtain ⟨a,b,rfl,e2,hm2,a1,a4,b1,b4⟩:=hM_; subst hG_;have P2:=e2.seq hP;refine ⟨λ σ' H'=>∃ (tl:Addr) (ts:List Int),σ'=[some (.ref c),some (.ref pl),some (.ref m),some (.ref tl),none]/\Same H2 H'/\H2 tl=none/\H' tl=some (.lst (ts.map V.int))/\1<=ts.length/\ts.length<=13,?_,?_⟩
 ·refine ⟨_,rfl,_,rfl,m,_,0,_,rfl,rfl,SqL.of hm2,G3 _ _,_,rfl,pl,_,rfl,P2,λ l1 k1=>?_⟩
  rw [X6 _ a (by rw [aA]; omega),<- kU];have s3:=Same.new k1 (.lst ((ns.take a).map V.int));refine ⟨l1,rfl,⟨_,SqL.of upd_same⟩,λ tl ktl=>?_⟩;refine W7 (K1 (SqL.of upd_same)) ktl (by rw [aA,bP]; omega) (λ x=>.int (1+vI x % 30)) (λ i x H' N hx e hN=>?_) ?_
  ·obtain ⟨k,rfl⟩:=V1 hx
   exact ⟨Wk.set (by decide),_,rfl,_,_,rfl,rfl,(by show (0:Int)<30; decide),_,_,rfl,rfl,hN⟩
  ·have em:((ns.take a).map V.int).map (λ x=>V.int (1+vI x % 30))=((ns.take a).map λ x=>1+x % 30).map V.int:=by rw [aT,aT]; rfl
   rw [em];have kt0:H2 tl=none:=by
    cases z:H2 tl with
    | none=>rfl
    | some o=>rw [s3 _ _ z] at ktl; cases ktl
   exact ⟨tl,_,rfl,s3.trans (Same.new ktl _),kt0,upd_same,by rw [aA,bP]; omega,by rw [aA,bP]; omega⟩
 intro σ3 H3 hM_; refine C6 λ G_ hG_=>?_; obtain ⟨tl,ts,rfl,e3,ntl,htl,l1,l2⟩:=hM_; subst hG_;have ntl0:H tl=none:=by
  cases z:H tl with
  | none=>rfl
  | some o=>rw [e2 _ _ z] at ntl; cases ntl
 have P3:=e3.seq P2;have hm3:=e3 _ _ hm2;refine ⟨λ σ' H'=>∃ (gl:Addr) (gs:List Int),σ'=[some (.ref c),some (.ref pl),some (.ref m),some (.ref tl),some (.ref gl)]/\Same H3 H'/\H3 gl=none/\H' gl=some (.lst (gs.map V.int))/\1<=gs.length/\gs.length<=13,?_,?_⟩
 ·refine ⟨_,rfl,_,rfl,_,rfl,m,_,1,_,rfl,rfl,SqL.of hm3,O2 _ _,_,_,rfl,rfl,_,rfl,pl,_,rfl,P3,λ l1 k1=>?_⟩
  rw [show A7 (ns.map V.int) (some 4) (some (4+(b:Int)))=((ns.drop 4).take b).map V.int from by
   have:=b0t (ns.map V.int) 4 (4+b) (by omega) (by rw [aA]; omega);rw [dU,<- List.map_drop,<- kU] at this;rw [<- this]
   congr 1]
  have s3:=Same.new k1 (.lst (((ns.drop 4).take b).map V.int));refine ⟨l1,rfl,⟨_,SqL.of upd_same⟩,λ gl kgl=>?_⟩;refine W7 (K1 (SqL.of upd_same)) kgl (by rw [aA,bP,cW]; omega) (λ x=>.int (vI x % 30)) (λ i x H' N hx e hN=>?_) ?_
  ·obtain ⟨k,rfl⟩:=V1 hx
   exact ⟨Wk.set (by decide),_,rfl,_,_,rfl,rfl,(by show (0:Int)<30; decide),hN⟩
  ·have em:(((ns.drop 4).take b).map V.int).map (λ x=>V.int (vI x % 30))=(((ns.drop 4).take b).map λ x=>x % 30).map V.int:=by rw [aT,aT]; rfl
   rw [em];have kt0:H3 gl=none:=by
    cases z:H3 gl with
    | none=>rfl
    | some o=>rw [s3 _ _ z] at kgl; cases kgl
   exact ⟨gl,_,rfl,s3.trans (Same.new kgl _),kt0,upd_same,by rw [aA,bP,cW]; omega,by rw [aA,bP,cW]; omega⟩
 intro σ4 H4 hM_; refine C6 λ G_ hG_=>?_; obtain ⟨gl,gs,rfl,e4,ngl,hgl,l3,l4⟩:=hM_; subst hG_;have e03:=e2.trans e3;have ngl0:H gl=none:=by
  cases z:H gl with
  | none=>rfl
  | some o=>rw [e03 _ _ z] at ngl; cases ngl
 have ntg:tl≠gl:=λ z=>by rw [z,ngl] at htl; cases htl
 have htl4:=e4 _ _ htl;have e04:=e03.trans e4;refine ⟨λ σ' H'=>σ'=[some (.ref c),some (.ref pl),some (.ref m),some (.ref tl),some (.ref gl)]/\Same H H'/\H' tl=some (.lst (ts.map V.int))/\∃ gs:List Int,H' gl=some (.lst (gs.map V.int))/\1<=gs.length/\gs.length<=13,?_,?_⟩
 ·have la:N5 (gs.map V.int) (-1)=some (V.int (gs.getD (gs.length - 1) 0)):=by
   unfold N5;rw [aA,a1W l3];exact a9w (by omega)
  refine ⟨_,rfl,_,rfl,gl,_,_,_,rfl,rfl,SqL.of hgl,la,_,_,rfl,rfl,?_⟩;refine ⟨_,rfl,_,rfl,gl,_,_,gs.length - 1,rfl,rfl,hgl,by rw [aA]; exact a1W l3,rfl,U5 ngl0 e04,by rw [c9 ntg]; exact htl4,gs.set (gs.length - 1) (gs.getD (gs.length - 1) 0+1),by rw [upd_same,<- a6h],by rw [bW]; exact l3,by rw [bW]; exact l4⟩
 intro σ5 H5 hM_; refine C6 λ G_ hG_=>?_; obtain ⟨rfl,e5,htl5,gs5,hgl5,l5,l6⟩:=hM_; subst hG_;refine ⟨λ σ' H'=>σ'=[some (.ref c),some (.ref pl),some (.ref m),some (.ref tl),some (.ref gl)]/\Same H H'/\H' gl=some (.lst (gs5.map V.int))/\∃ ts:List Int,H' tl=some (.lst (ts.map V.int))/\1<=ts.length/\ts.length<=13,?_,?_⟩
 ·refine ⟨_,rfl,pl,_,10,_,rfl,rfl,e5.seq hP,atp (j:=10) (by decide),_,_,rfl,rfl,(by show (0:Int)<16; decide),rfl,_,rfl,A6 (λ _=>?_) (λ _=>⟨rfl,e5,hgl5,ts,htl5,l1,l2⟩)⟩
  refine ⟨_,rfl,_,_,rfl,rfl,⟨by decide,by decide,by decide⟩,_,_,rfl,rfl,(by show 3<=sizeLine; decide),λ l0 k0=>?_⟩;have s6:=Same.new k0 (.lst [V.int 0,V.int (-1),V.int (10 ^ (9:Int).toNat+1)]);obtain ⟨x,hx⟩:∃ x:Int,N5 [V.int 0,V.int (-1),V.int (10 ^ (9:Int).toNat+1)] (ns.getD 9 0 % 3)=some (.int x):=by
   have:ns.getD 9 0 % 3=0\/ns.getD 9 0 % 3=1\/ns.getD 9 0 % 3=2:=by omega
   rcases this with e | e | e <;> rw [e]
   ·exact ⟨_,W4 _ _ _⟩
   ·exact ⟨_,a3q _ _ _⟩
   ·exact ⟨_,a8g _ _ _⟩
  refine ⟨_,rfl,pl,_,9,_,rfl,rfl,(e5.trans s6).seq hP,atp (j:=9) (by decide),_,_,rfl,rfl,(by show (0:Int)<3; decide),l0,_,_,_,rfl,rfl,SqL.of upd_same,hx,?_⟩;refine ⟨_,rfl,tl,_,_,0,rfl,rfl,s6 _ _ htl5,b1i (i:=0) (by rw [aA]; omega),rfl,U5 ntl0 (e5.trans s6),by rw [c9 (aQ ntg)]; exact s6 _ _ hgl5,ts.set 0 x,by rw [upd_same,<- a6h],by rw [bW]; exact l1,by rw [bW]; exact l2⟩
 intro σ6 H6 hM_; refine C6 λ G_ hG_=>?_; obtain ⟨rfl,e6,hgl6,ts6,htl6,l7,l8⟩:=hM_; subst hG_;refine ⟨λ σ' H'=>∃ gl':Addr,σ'=[some (.ref c),some (.ref pl),some (.ref m),some (.ref tl),some (.ref gl')]/\Same H H'/\H' tl=some (.lst (ts6.map V.int))/\∃ gs:List Int,H' gl'=some (.lst (gs.map V.int))/\1<=gs.length/\gs.length<=13,?_,?_⟩
 ·refine ⟨_,rfl,pl,_,10,_,rfl,rfl,e6.seq hP,atp (j:=10) (by decide),_,_,rfl,rfl,(by show (0:Int)<16; decide),rfl,_,rfl,A6 (λ _=>?_) (λ _=>⟨gl,rfl,e6,htl6,gs5,hgl6,l5,l6⟩)⟩
  refine ⟨(by show 1<=sizeLine; decide),λ l0 k0=>?_⟩;have s7:=Same.new k0 (.lst [V.int 0]);refine ⟨_,rfl,gl,_,rfl,.inl (SqL.of (s7 _ _ hgl6)),l0,_,[V.int 0],rfl,rfl,upd_same,by rw [aA]; omega,by rw [aA]; omega,(by show 1*(((gs5.map V.int).length:Int)).toNat<=sizeLine; rw [aA]; omega),λ g2 kg2=>?_⟩;have s8:=Same.new kg2 (.lst (aJ (((gs5.map V.int).length:Int)).toNat [V.int 0]).flatten);have er:(aJ (((gs5.map V.int).length:Int)).toNat [V.int 0]).flatten=(aJ gs5.length (0:Int)).map V.int:=by
   rw [aA,bD]
   induction gs5.length with
   | zero=>rfl
   | succ k ih=>rw [dH,fE,ih,dH,aV]; rfl
  refine ⟨g2,rfl,e6.trans (s7.trans s8),(s7.trans s8) _ _ htl6,aJ gs5.length 0,by rw [upd_same,er],by rw [bK]; exact l5,by rw [bK]; exact l6⟩
 intro σ7 H7 hM_; refine C6 λ G_ hG_=>?_; obtain ⟨g7,rfl,e7,htl7,gs7,hgl7,l9,l10⟩:=hM_; subst hG_;refine ⟨_,rfl,tl,_,rfl,.inl ⟨SqL.of htl7,λ u1 k1=>?_⟩⟩;have z1:=Same.new k1 (.tup (ts6.map V.int));refine ⟨_,rfl,g7,_,rfl,.inl ⟨SqL.of (z1 _ _ hgl7),λ u2 k2=>?_⟩⟩;have z2:=Same.new k2 (.tup (gs7.map V.int));refine ⟨(by show 2<=sizeLine; decide),λ u3 k3=>?_⟩;have z3:=Same.new k3 (.tup [V.ref u1,V.ref u2]);exact q (.ref u3) (ts6,gs7) _ (e7.trans (z1.trans (z2.trans z3))) ⟨u3,u1,u2,rfl,SqT.of upd_same,SqT.of ((z2.trans z3) _ _ upd_same),SqT.of (z3 _ _ upd_same)⟩ ⟨by show ts6.length<=1000; omega,by show gs7.length<=1000; omega⟩ ⟨λ z=>by rw [show ts6=[] from z] at l7; simp at l7,λ z=>by rw [show gs7=[] from z] at l9; simp at l9⟩
end
section
variable {P:Program} {w:World} {K:W.Frag} {mg:Str->Option Value} {base:Heap} {f C Pt:Addr} {fd:FuncData} {n:Nat}
def a3T (K:W.Frag):Sp:=λ vs H Q _=>∃ (pl d c b:Addr) (init:List Addr) (xs:List V) (hs:List i9) (kt kg:Nat),vs=[.ref pl,.ref d,.ref c]/\H pl=some (.lst ((init++[b]).map V.ref))/\init.length<=900/\H b=some (.lst xs)/\Bk K H xs hs/\hs.length<=16/\SqT K H c [.int (kt:Int),.int (kg:Int)] ∧
  ((∃ (v:V) (h:i9),H d=some (.tup [.str "come",v])/\HS K H v h/\K4 h/\a2M h/\(GoodK h kt kg->hs.length<16->∀ (r:Addr) (H':Hp),Same H H'->H r=none->H' r=some (.lst (xs++[v]))->Q (.ref r) H')/\(¬ GoodK h kt kg->∀ H',Same H H'->Q (.str "NoBook") H')/\(GoodK h kt kg->16<=hs.length->∀ H',Same H H'->Q (.str "TooMany") H')) ∨
   (∃ num:Int,H d=some (.tup [.str "go",.int num])/\(∀ i:Nat,num=(i:Int)->i<hs.length->∀ (r:Addr) (H':Hp),Same H H'->H r=none->H' r=some (.lst (G8 xs i))->Q (.ref r) H')/\(¬ V7 hs.length num->Q (.str "NoHouse") H)) ∨
   (∃ (num:Int) (v:V) (h:i9),H d=some (.tup [.str "alter",.int num,v])/\HS K H v h/\K4 h/\a2M h/\(∀ i:Nat,num=(i:Int)->i<hs.length->GoodK h kt kg->∀ (r:Addr) (H':Hp),Same H H'->H r=none->H' r=some (.lst (a0n xs i v))->Q (.ref r) H')/\(¬ V7 hs.length num->Q (.str "NoHouse") H)/\(V7 hs.length num->¬ GoodK h kt kg->∀ H',Same H H'->Q (.str "NoBook") H')) ∨
   (H d=some (.tup [.str "back"])/\(init=[]->Q (.str "NothingLeft") H)/\(∀ (i':List Addr) (a':Addr),init=i'++[a']->Q (.ref a') H)))
theorem scLat31:j8 ["past","deed","counts","book"] ["past","deed","counts"] (h8 C2):=⟨rfl,rfl,rfl,by decide +kernel,rfl,by decide +kernel,by decide +kernel⟩
noncomputable def b5a {cdv:Value} {A:Around} {outer:List Env} {s:Shared} {H:Hp} {E:XK} {fa:Addr} {da:FuncData} (T:u0 mg) (Ci:S4 P w K mg base n "_law_is_house" ["house","counts"] (a4f K) fa da)
  (hr:Room n (A.deeper (cU "_law_a_later" (h8 C2) s.heap.objs.size f cdv))) :
  { t:TS // PSs (J1 D7 P w K mg base ["past","deed","counts","book"] "_law_a_later" (h8 C2) f cdv A outer s H E).nox (t0 C2) t } :=
 ⟨_,i7 (m4 (i:=3) scLat31.nd rfl (aC rfl) (j5 j4 (pv 0) (C8 x9 g0) (λ _ _=>rfl)))
  (i7 (w6 (m6 M4 (j5 x5 (pv 1) g0 (λ _ _=>rfl)) u9 (p6 _)) (j0 (o4 (a1U (m6 M4 (j3 j7 rfl T.len bE (a0 (pv 0) d0)) g0 (p6 _)) u9 (j5 j4 (pv 0) (C8 x9 g0) (λ _ _=>rfl))))) r9)
  (i7 (w6 (PW.pt (a3R (m6 a6b (j5 x5 (pv 1) g0 (λ _ _=>rfl)) u9 (p6 _)) (a1K (V4 (a4q a4H a0v g0 (j5 x5 (pv 1) g0 (λ _ _=>rfl)) (j3 j7 rfl T.len bE (a0 (pv 3) d0))))))) (j0 (o4 u9)) r9)
  (i7 (w6 (m6 M4 (j5 x5 (pv 1) g0 (λ _ _=>rfl)) u9 (p6 _)) (j0 (o4 (j6 x4 (A0 B6 (pv 3) D9 (A4 (j5 x5 (pv 1) g0 (λ _ _=>rfl)))) (A0 B6 (pv 3) (A4 (j6 D0 (j5 x5 (pv 1) g0 (λ _ _=>rfl)) g0)) D9)))) r9)
  (i7 (w6 (V4 (T9 (m9 Ci.ok hr rfl Ci.m Ci.k Ci.b .nil t7 (a0 (j5 x5 (pv 1) (C8 x9 g0) (λ _ _=>rfl)) (a0 (pv 2) d0))))) (j0 (o4 u9)) r9)
  (i7 (w6 (m6 M4 (j5 x5 (pv 1) g0 (λ _ _=>rfl)) u9 (p6 _)) (j0 (o4 (j6 x4 (j6 x4 (A0 B6 (pv 3) D9 (A4 (j5 x5 (pv 1) g0 (λ _ _=>rfl)))) (r6 (a0 (j5 x5 (pv 1) g0 (λ _ _=>rfl)) d0))) (A0 B6 (pv 3) (A4 (j6 D0 (j5 x5 (pv 1) g0 (λ _ _=>rfl)) g0)) D9)))) r9)
  (j0 (o4 (a1U (m6 M4 (j3 j7 rfl T.len bE (a0 (pv 3) d0)) g0 (p6 _)) u9 (j6 x4 (pv 3) (r6 (a0 (j5 x5 (pv 1) g0 (λ _ _=>rfl)) d0)))))))))))⟩
theorem a0Q {α:Type} (l:List α) (x:α):N5 (l++[x]) (-1)=some x:=by
 unfold N5;rw [a1W (by simp)];simp
theorem b0b {α:Type} (l:List α) (y x:α):N5 ((l++[y])++[x]) (-2)=some y:=by
 unfold N5 ixN;rw [if_neg (by omega),if_pos (by simp; omega)];simp;have e:(-2+((l.length:Int)+2)).toNat=l.length:=by omega
 rw [e];simp
theorem a9K {fa:Addr} {da:FuncData} (F:Fun K "_law_a_later" "_law_a_later" C2 f fd) (T:u0 mg) (Ci:S4 P w K mg base n "_law_is_house" ["house","counts"] (a4f K) fa da):FnOk P w K mg base D7 (n+1) f fd ["past","deed","counts"] (a3T K):=by
 refine F.ok scLat31 (λ vs H Q E h=>?_) (λ cdv A outer s H vs Q E hr h=>?_)
 ·obtain ⟨pl,d,c,b,init,xs,hs,kt,kg,rfl,_⟩:=h
  rfl
 obtain ⟨pl,d,c,b,init,xs,hs,kt,kg,rfl,hpl,li,hb,hB,h16,hc,hq⟩:=h;refine ⟨_,(b5a T Ci hr).2,?_⟩;have xl:xs.length=hs.length:=Paired.length hB;have s1k:=j9 (show (1000:Nat)<=1000 from aE _);have spl:=SqL.of (K:=K) hpl;have sb:=SqL.of (K:=K) hb;have lastp:N5 ((init++[b]).map V.ref) (-1)=some (V.ref b):=by rw [aW]; exact a0Q _ _
 refine ⟨_,rfl,_,rfl,pl,_,_,_,rfl,rfl,spl,lastp,?_⟩;rcases hq with ⟨v,h,hd,hH,sk,s1',q1,q2,q3⟩ | ⟨num,hd,q1,q2⟩ | ⟨num,v,h,hd,hH,sk,s1',q1,q2,q3⟩ | ⟨hd,q1,q2⟩
 ·have sd:=SqT.of (K:=K) hd
  refine ⟨_,rfl,d,_,0,_,rfl,rfl,sd,G3 _ _,rfl,_,rfl,D6 ?_⟩;refine ⟨_,rfl,d,_,0,_,rfl,rfl,sd,G3 _ _,rfl,_,rfl,D6 ?_⟩;refine D6 ?_;refine ⟨_,rfl,d,_,0,_,rfl,rfl,sd,G3 _ _,rfl,_,rfl,D6 ?_⟩;have al:N5 [V.str "come",v] (-1)=some v:=a0Q [V.str "come"] v;refine ⟨_,rfl,_,rfl,d,_,_,_,rfl,rfl,sd,al,_,rfl,v,h,c,kt,kg,rfl,hH,sk,s1',hc,λ g H1 e1 hg=>?_⟩
  cases g with
  | false=>exact ⟨_,rfl,O1 (q2 (λ z=>absurd (hg.mpr z) (by decide)) H1 e1)⟩
  | true =>
   have gk:=hg.mp rfl;refine ⟨_,rfl,D6 ?_⟩;have sd1:=e1.tseq sd;refine ⟨_,rfl,d,_,0,_,rfl,rfl,sd1,G3 _ _,rfl,_,rfl,D6 ?_⟩;refine ⟨_,rfl,b,_,rfl,.inl (e1.seq sb),rfl,_,rfl,A6 (λ c1=>?_) (λ c1=>?_)⟩
   ·have:V.int (xs.length:Int)=V.int 16:=by simpa using c1
    have:=V.int.inj this;exact q3 gk (by omega) H1 e1
   ·have ne:¬ xs.length=16:=λ z=>c1 (by rw [z]; simp)
    refine ⟨_,rfl,_,rfl,d,_,1,_,rfl,rfl,sd1,O2 _ _,(by show 1<=sizeLine; decide),λ l1 k1=>?_⟩;have s2:=Same.new k1 (.lst [v]);refine ⟨b,l1,_,_,rfl,rfl,s2 _ _ (e1 _ _ hb),upd_same,by show xs.length+1<=sizeLine; omega,λ r kr=>?_⟩;have e2:=e1.trans s2;have rn:H r=none:=by
     cases zz:H r with
     | none=>rfl
     | some o=>rw [e2 _ _ zz] at kr; cases kr
    exact q1 gk (by omega) r _ (e2.trans (Same.new kr _)) rn upd_same
 ·have sd:=SqT.of (K:=K) hd
  refine ⟨_,rfl,d,_,0,_,rfl,rfl,sd,G3 _ _,rfl,_,rfl,D6 ?_⟩;refine ⟨_,rfl,d,_,0,_,rfl,rfl,sd,G3 _ _,rfl,_,rfl,O1 ?_⟩
  by_cases g:V7 hs.length num
  ·obtain ⟨i,rfl⟩:∃ i:Nat,num=(i:Int):=⟨num.toNat,by have:=g.1; omega⟩
   have hi:i<hs.length:=by have:=g.2; omega
   refine ⟨_,rfl,d,_,1,_,rfl,rfl,sd,O2 _ _,_,_,rfl,rfl,_,rfl,A6 (λ _=>?_) (λ c1=>absurd (decide_eq_true (show (0:Int)<=(i:Int) by omega)) c1)⟩;refine ⟨_,rfl,b,_,rfl,.inl sb,_,_,rfl,rfl,_,rfl,A6 (λ c1=>absurd c1 (by rw [decide_eq_true (show (i:Int)<(xs.length:Int) by omega)]; decide)) (λ _=>?_)⟩;refine ⟨_,rfl,d,_,0,_,rfl,rfl,sd,G3 _ _,rfl,_,rfl,O1 ?_⟩;refine ⟨_,rfl,_,rfl,d,_,1,_,rfl,rfl,sd,O2 _ _,_,rfl,b,_,rfl,sb,λ u1 k1=>?_⟩;have t1:=Same.new k1 (.lst (A7 xs none (some (i:Int))));refine ⟨_,rfl,_,rfl,d,_,1,_,rfl,rfl,t1.tseq sd,O2 _ _,_,_,rfl,rfl,_,rfl,b,_,rfl,t1.seq sb,λ u2 k2=>?_⟩;have t2:=Same.new k2 (.lst (A7 xs (some ((i:Int)+1)) none));have l1:=C7 xs none (some (i:Int));have l2:=C7 xs (some ((i:Int)+1)) none;refine ⟨u1,u2,_,_,rfl,rfl,t2 _ _ upd_same,upd_same,by omega,λ r kr=>?_⟩;have e2:=t1.trans t2;have rn:H r=none:=by
    cases zz:H r with
    | none=>rfl
    | some o=>rw [e2 _ _ zz] at kr; cases kr
   refine q1 i rfl hi r _ (e2.trans (Same.new kr _)) rn ?_;rw [upd_same,show A7 xs none (some (i:Int))=xs.take i from X6 xs i (by omega),show A7 xs (some ((i:Int)+1)) none=xs.drop (i+1) from T0 xs (i+1) (by omega)];rfl
  ·refine ⟨_,rfl,d,_,1,_,rfl,rfl,sd,O2 _ _,_,_,rfl,rfl,_,rfl,A6 (λ c1=>?_) (λ _=>⟨_,rfl,O1 (q2 g)⟩)⟩
   have c1':(0:Int)<=num:=of_decide_eq_true c1;refine ⟨_,rfl,b,_,rfl,.inl sb,_,_,rfl,rfl,_,rfl,A6 (λ _=>q2 g) (λ c2=>absurd ⟨c1',?_⟩ g)⟩;have c2':num<(xs.length:Int):=by simpa using c2
   omega
 ·have sd:=SqT.of (K:=K) hd
  refine ⟨_,rfl,d,_,0,_,rfl,rfl,sd,W4 _ _ _,rfl,_,rfl,D6 ?_⟩;refine ⟨_,rfl,d,_,0,_,rfl,rfl,sd,W4 _ _ _,rfl,_,rfl,O1 ?_⟩
  by_cases g:V7 hs.length num
  ·obtain ⟨i,rfl⟩:∃ i:Nat,num=(i:Int):=⟨num.toNat,by have:=g.1; omega⟩
   have hi:i<hs.length:=by have:=g.2; omega
   refine ⟨_,rfl,d,_,1,_,rfl,rfl,sd,a3q _ _ _,_,_,rfl,rfl,_,rfl,A6 (λ _=>?_) (λ c1=>absurd (decide_eq_true (show (0:Int)<=(i:Int) by omega)) c1)⟩;refine ⟨_,rfl,b,_,rfl,.inl sb,_,_,rfl,rfl,_,rfl,A6 (λ c1=>absurd c1 (by rw [decide_eq_true (show (i:Int)<(xs.length:Int) by omega)]; decide)) (λ _=>?_)⟩;refine ⟨_,rfl,d,_,0,_,rfl,rfl,sd,W4 _ _ _,rfl,_,rfl,D6 ?_⟩;have al:N5 [V.str "alter",V.int (i:Int),v] (-1)=some v:=a0Q [V.str "alter",V.int (i:Int)] v;refine ⟨_,rfl,_,rfl,d,_,_,_,rfl,rfl,sd,al,_,rfl,v,h,c,kt,kg,rfl,hH,sk,s1',hc,λ g' H1 e1 hg=>?_⟩
   cases g' with
   | false=>exact ⟨_,rfl,O1 (q3 g (λ z=>absurd (hg.mpr z) (by decide)) H1 e1)⟩
   | true =>
    have gk:=hg.mp rfl;refine ⟨_,rfl,D6 ?_⟩;have sd1:=e1.tseq sd;refine ⟨_,rfl,d,_,0,_,rfl,rfl,sd1,W4 _ _ _,rfl,_,rfl,O1 ?_⟩;refine ⟨_,rfl,_,rfl,d,_,1,_,rfl,rfl,sd1,a3q _ _ _,_,rfl,b,_,rfl,e1.seq sb,λ u1 k1=>?_⟩;have t1:=Same.new k1 (.lst (A7 xs none (some (i:Int))));refine ⟨_,rfl,d,_,2,_,rfl,rfl,t1.tseq sd1,a8g _ _ _,(by show 1<=sizeLine; decide),λ u3 k3=>?_⟩;have t3:=Same.new k3 (.lst [v]);have l1:=C7 xs none (some (i:Int));have l2:=C7 xs (some ((i:Int)+1)) none;refine ⟨u1,u3,_,_,rfl,rfl,t3 _ _ upd_same,upd_same,by show (A7 xs none (some (i:Int))).length+1<=sizeLine; omega,λ u4 k4=>?_⟩;have t4:=Same.new k4 (.lst (A7 xs none (some (i:Int))++[v]));have e4:=e1.trans (t1.trans (t3.trans t4));refine ⟨_,rfl,_,rfl,d,_,1,_,rfl,rfl,e4.tseq sd,a3q _ _ _,_,_,rfl,rfl,_,rfl,b,_,rfl,e4.seq sb,λ u2 k2=>?_⟩;have t2:=Same.new k2 (.lst (A7 xs (some ((i:Int)+1)) none));refine ⟨u4,u2,_,_,rfl,rfl,t2 _ _ upd_same,upd_same,by rw [aM]; show (A7 xs none (some (i:Int))).length+1+_<=sizeLine; omega,λ r kr=>?_⟩;have e2:=e4.trans t2;have rn:H r=none:=by
     cases zz:H r with
     | none=>rfl
     | some o=>rw [e2 _ _ zz] at kr; cases kr
    refine q1 i rfl hi gk r _ (e2.trans (Same.new kr _)) rn ?_;rw [upd_same,show A7 xs none (some (i:Int))=xs.take i from X6 xs i (by omega),show A7 xs (some ((i:Int)+1)) none=xs.drop (i+1) from T0 xs (i+1) (by omega)];rfl
  ·refine ⟨_,rfl,d,_,1,_,rfl,rfl,sd,a3q _ _ _,_,_,rfl,rfl,_,rfl,A6 (λ c1=>?_) (λ _=>⟨_,rfl,O1 (q2 g)⟩)⟩
   have c1':(0:Int)<=num:=of_decide_eq_true c1;refine ⟨_,rfl,b,_,rfl,.inl sb,_,_,rfl,rfl,_,rfl,A6 (λ _=>q2 g) (λ c2=>absurd ⟨c1',?_⟩ g)⟩;have c2':num<(xs.length:Int):=by simpa using c2
   omega
 ·have sd:=SqT.of (K:=K) hd
  have at0:N5 [V.str "back"] 0=some (V.str "back"):=v7 (j:=0) rfl;refine ⟨_,rfl,d,_,0,_,rfl,rfl,sd,at0,rfl,_,rfl,O1 ?_⟩;refine ⟨_,rfl,pl,_,rfl,.inl spl,rfl,_,rfl,A6 (λ c1=>?_) (λ c1=>?_)⟩
  ·have:V.int (((init++[b]).map V.ref).length:Int)=V.int 1:=by simpa using c1
   have:=V.int.inj this;rw [aA,aM] at this;exact q1 (jM.mp (by simp at this; omega))
  ·rcases iN init with e | ⟨i',a',e⟩
   ·exact absurd (by rw [e]; simp) c1
   ·have e':init=i'++[a']:=by rw [e]; simp
    refine ⟨_,rfl,_,rfl,pl,_,_,_,rfl,rfl,spl,?_,q2 i' a' e'⟩;rw [e',aW,aW];exact b0b _ _ _
end
section
variable {P:Program} {w:World} {K:W.Frag} {mg:Str->Option Value} {base:Heap} {f C Pt CN:Addr} {fd:FuncData} {n:Nat}
theorem b0V:(["k","book","sizes"]:List Str).Nodup:=by decide +kernel
theorem a1e {H:Hp} {te:TE} {fr:List Nat} {σ:St} {wl:Addr} {D:Hp->Prop} {z:Str} {kt kg:Nat} {hs:List i9} {xs:List V} {bk:Addr} (LTH:LT Pt H) (ft:Fit z kt kg) (hG:∀ g∈hs,HG (10 ^ 9) kt kg g) (h16:hs.length<=16) (hwl:H wl=none)
  (step:∀ (i:Nat) (H1:Hp) (N:VK),i<hs.length->Same1 Pt H H1->LT Pt H1->(∀ (h':i9) (A' B':Int) (v:V) (H3:Hp),hs[i]?=some h'->ShU z hs h' kt kg A' B'->Same1 Pt H1 H3->LT Pt H3->FrT H3 v (low A' B')->N v H3)->te ((blkσ 1 fr σ).set 0 (some (.int (i:Int)))) H1 N)
  (hd:∀ ys H1,Same1 Pt H H1->LT Pt H1->H1 wl=some (.lst ys)->aL (FrT H1) ys (P5 z kt kg hs)->D H1):lcW 1 fr (M7 0) te σ (Itr 0 hs.length) H wl D:=by
 refine a6Y (P:=Pt) (pos:=a5s) (qual:=b2L) LTH hwl (j9 (by omega)) (λ i y H'=>∃ q h A B,(hs[i]?=some h/\ShU z hs h kt kg A B/\q=low A B)/\FrT H' y q) (λ i y H1 H2 L1 hz r k=>?_) (λ i H1 ys N' hi e1 L1 hp1 hN=>?_) (λ ys H1 e1 L1 hp1 len pr=>?_)
 ·obtain ⟨zs,hzs⟩:=hz
  obtain ⟨q,h,A,B,x,a,rfl,r⟩:=r;exact ⟨q,h,A,B,x,a,rfl,k _ _ (x6 r hzs nofun) (L1.ne r nofun) r⟩
 ·exact step i H1 N' hi e1 L1 λ h' A' B' v H3 hh X e3 L3 r=>hN v H3 e3 L3 ⟨_,h',A',B',⟨hh,X,rfl⟩,r⟩
 ·obtain ⟨qs,pq,kq⟩:=a8X (H:=H1) (ys:=ys) (R:=λ i q=>∃ h A B,hs[i]?=some h/\ShU z hs h kt kg A B/\q=low A B) λ i y e=>by
   obtain ⟨q,h,A,B,x,r⟩:=pr i y e;exact ⟨q,⟨h,A,B,x⟩,r⟩
  have sh:Shs z hs kt kg qs:=⟨by rw [<- pq.length,len],λ i h q hh hq=>by
   obtain ⟨h',A,B,hh',X,e⟩:=kq i q hq;rw [hh] at hh'; cases hh';exact ⟨A,B,X,e⟩⟩
  have:=sh.q ft.z hG;subst this;exact hd ys H1 e1 L1 hp1 pq
theorem a8C {hs:List i9}:PyData.eqv (.list (hs.map K5)) (.list [])=hs.isEmpty:=by
 rw [PyData.eqv]
 cases hs with
 | nil=>rw [dL,PyData.eqvAll]; rfl
 | cons a r=>rw [aV,PyData.eqvAll] <;> first | rfl | simp
def a5x (K:W.Frag) (C Pt:Addr):Sp:=λ vs H Q _=>∃ (o:Kq) (S:KS) (lo:List Addr) (bk:Addr) (xs:List V),vs=[.ref o.p,.ref bk,.str o.z]/\KpS K C H o.p o.kt o.kg o.z S o.pa lo/\Fit o.z o.kt o.kg/\OkS o.z o.kt o.kg S/\LT Pt H/\H bk=some (.lst xs)/\Bk K H xs S.1 ∧
 ∀ H',Same1 Pt H H'->LT Pt H'->Q (.bl true) H'
theorem scKr31:j8 ["kept","book","sizes","found","shares","due","one"] ["kept","book","sizes"] (h8 y8):=⟨rfl,rfl,rfl,by decide +kernel,rfl,by decide +kernel,by decide +kernel⟩
noncomputable def krT {cdv:Value} {A:Around} {outer:List Env} {s:Shared} {H:Hp} {E:XK} {f1 f2 f3 f4 f5:Addr} {d1 d2 d3 d4 d5:FuncData} (T:u0 mg) (TKd:TK K C) (Cs:a0H P w K mg base n "share" ["book","number","sizes"] (Q9 K CN Pt) f1 d1) (Co:S4 P w K mg base n "rim_of" ["book","sizes"] (a1H K Pt) f2 d2)
  (Ch:M8 P w K mg base D7 n C "houses" ["self"] (a1h K C) f3 d3) (Csh:M8 P w K mg base D7 n C "shares" ["self"] (a1c K C) f4 d4) (Cr:M8 P w K mg base D7 n C "rim" ["self"] (a5h K C Pt) f5 d5)
  (hr:Room n (A.deeper (cU "_law_kept_right" (h8 y8) s.heap.objs.size f cdv))) :
  { t:TS // PSs (J1 D7 P w K mg base ["kept","book","sizes","found","shares","due","one"] "_law_kept_right" (h8 y8) f cdv A outer s H E).nox (t0 y8) t } :=
 ⟨_,p7 (m4 (i:=3) scKr31.nd rfl (aC rfl) (r6 (a0 (G7 (pv 0) TKd.cl Ch.me Ch.ok hr Ch.bd .nil t7) (a0 (G7 (pv 0) TKd.cl Csh.me Csh.ok hr Csh.bd .nil t7) (a0 (G7 (pv 0) TKd.cl Cr.me Cr.ok hr Cr.bd .nil t7) d0)))))
  (p7 (a0g (i:=4) ["k"] [1,2] scKr31.nd rfl rfl rfl (E7 rfl T.range (a0 (j3 j7 rfl T.len bE (a0 (pv 1) d0)) d0)) (λ _ _ _ _=>m5 (i:=0) b0V rfl (aC rfl)) (λ _ _ _ _=>m9 (Z0 Cs.ok) hr rfl Cs.m Cs.k Cs.b .nil a3D (a0 (pv 1) (a0 (pv 0) (a0 (pv 2) d0)))))
  (p7 (m4 (i:=5) scKr31.nd rfl (aC rfl) (r6 (a0 (pv 1) (a0 (pv 4) (a0 (r6 d0) d0)))))
  (p7 (w6 (m6 (X4 hr) (pv 1) (r6 d0) (p6 _)) (j0 (K7 (m9 Co.ok hr rfl Co.m Co.k Co.b .nil t7 (a0 (pv 1) (a0 (pv 2) d0))) (R7 (pv 5) g0 G6))) r9)
  (p7 (w6 (m6 (X4 hr) (pv 3) (pv 5) (p6 _)) a0N r9)
  (p7 (a0l PassesOwn.never rfl (M6 (pv 3)) (m5 (i:=6) scKr31.nd rfl (aC rfl)) (j0 (B8 (a1Z dR eY eZ J8 (pv 6) (a0 g0 d0)))))
  (j0 (o4 (O8 (b2t hr) (r6 (a0 (G7 (pv 0) TKd.cl Ch.me Ch.ok hr Ch.bd .nil t7) (a0 (G7 (pv 0) TKd.cl Csh.me Csh.ok hr Csh.bd .nil t7) (a0 (G7 (pv 0) TKd.cl Cr.me Cr.ok hr Cr.bd .nil t7) d0)))) (pv 5) (p6 _)))))))))⟩
end
section
variable {P:Program} {w:World} {K:W.Frag} {mg:Str->Option Value} {base:Heap} {f C Pt CN:Addr} {fd:FuncData} {n:Nat}
theorem a8m (z:Str) (hs:List i9):(a2J z hs).length<=hs.length:=by
 have:=fW (λ i=>@decide (a2o z hs (hs.getD i ([],[]))) (iM _)) (aF hs.length);rw [dQ] at this;exact this
theorem a0D {H:Hp}:∀ {l:List Nat},Dqs K H (λ _=>True) (l.map λ (i:Nat)=>V.int (i:Int)) (l.map λ (i:Nat)=>PyData.int (i:Int))
 | []=>.nil
 | x::l=>.cons (.int _) a0D
theorem b1l {f1 f2 f3 f4 f5:Addr} {d1 d2 d3 d4 d5:FuncData} (F:Fun K "_law_kept_right" "_law_kept_right" y8 f fd) (T:u0 mg) (TKd:TK K C) (Cs:a0H P w K mg base n "share" ["book","number","sizes"] (Q9 K CN Pt) f1 d1) (Co:S4 P w K mg base n "rim_of" ["book","sizes"] (a1H K Pt) f2 d2)
  (Ch:M8 P w K mg base D7 n C "houses" ["self"] (a1h K C) f3 d3) (Csh:M8 P w K mg base D7 n C "shares" ["self"] (a1c K C) f4 d4) (Cr:M8 P w K mg base D7 n C "rim" ["self"] (a5h K C Pt) f5 d5) :
  FnOk P w K mg base D7 (n+1) f fd ["kept","book","sizes"] (a5x K C Pt):=by
 refine F.ok scKr31 (λ vs H Q E h=>?_) (λ cdv A outer s H vs Q E hr h=>?_)
 ·obtain ⟨o,S,lo,bk,xs,rfl,_⟩:=h
  rfl
 obtain ⟨o,S,lo,bk,xs,rfl,KP,ft,ok,LTH,hbk,hB,q⟩:=h;refine ⟨_,(krT T TKd Cs Co Ch Csh Cr hr).2,?_⟩;have ok1:OkK o.z o.kt o.kg S.1:=ok S.1 (bS _ (.head _));have xl:xs.length=S.1.length:=Paired.length hB;have h16:=ok1.m;obtain ⟨dx,ta,wa,pv0,hp,_,hpa,_⟩:=id KP.ex;refine ⟨λ σ' H'=>∃ (fo l1 l2 l3:Addr) (x1 x2:List V),σ'=[some (.ref o.p),some (.ref bk),some (.str o.z),some (.ref fo),none,none,none]/\Same1 Pt H H'/\LT Pt H'/\H' fo=some (.lst [.ref l1,.ref l2,.ref l3])/\(H fo=none/\H l1=none/\H l2=none/\H l3=none)/\(fo≠l1/\fo≠l2/\fo≠l3)/\H' l1=some (.lst x1)/\Bk K H' x1 S.1/\H' l2=some (.lst x2)/\aL (FrT H') x2 (P5 o.z o.kt o.kg S.1)/\H' l3=some (.lst ((a2J o.z S.1).map λ (i:Nat)=>V.int (i:Int))),?_,?_⟩
 ·refine ⟨_,rfl,o.p,dx,_,rfl,hp,rfl,o.p,o.pa,o.kt,o.kg,o.z,_,_,lo,rfl,KP,λ l1 x1 H3 e3 hl1 h1 b1=>?_⟩
  refine ⟨_,rfl,o.p,dx,_,rfl,e3 _ _ hp,rfl,o.p,o.pa,o.kt,o.kg,o.z,_,_,lo,rfl,KP.same e3,λ l2 x2 H4 e4 hl2 h2 b2=>?_⟩;have e34:=e3.trans e4;refine ⟨_,rfl,o.p,dx,_,rfl,e34 _ _ hp,rfl,o.p,o.pa,o.kt,o.kg,o.z,_,_,lo,rfl,KP.same e34,ft,ok1.g,h16,LTH.same e34,λ H5 l3 e5 L5 hl3 h3=>?_⟩;refine ⟨(by show 3<=sizeLine; decide),λ fo hfo=>?_⟩;have s6:=Same.new hfo (.lst [V.ref l1,V.ref l2,V.ref l3]);have L4:=LTH.same e34;have fr5:=X8 L4 e5;have g1:=e5.get L4 (e4 _ _ h1) nofun;have g2:=e5.get L4 h2 nofun;exact ⟨fo,l1,l2,l3,x1,x2,rfl,λ b o nb h=>s6 _ _ (e5 _ _ nb (e34 _ _ h)),L5.same s6,upd_same,⟨e34.free (a6g e5 L5 hfo),hl1,e3.free hl2,e34.free hl3⟩,⟨(d9 g1 hfo).symm,(d9 g2 hfo).symm,(d9 h3 hfo).symm⟩,s6 _ _ g1,Bk.same s6 ((Bk.same e4 b1).fr0 fr5),s6 _ _ g2,Paired.imp' (λ _ _ r=>(FrT.fr0 fr5 r).same s6) b2,s6 _ _ h3⟩
 intro σ1 H1 hM_; refine C6 λ G_ hG_=>?_; obtain ⟨fo,l1,l2,l3,x1,x2,rfl,e1,L1,hfo,⟨f0,f1,f2,f3⟩,⟨n1,n2,n3⟩,hl1,b1,hl2,b2,hl3⟩:=hM_; subst hG_;have hbk1:=e1.get LTH hbk nofun;have hB1:=Bk.same1 LTH e1 hB;refine ⟨λ σ' H'=>∃ (sl:Addr) (ys:List V),σ'=[some (.ref o.p),some (.ref bk),some (.str o.z),some (.ref fo),some (.ref sl),none,none]/\Same1 Pt H1 H'/\LT Pt H'/\H1 sl=none/\H' sl=some (.lst ys)/\aL (FrT H') ys (P5 o.z o.kt o.kg S.1),?_,?_⟩
 ·refine ⟨_,rfl,bk,_,rfl,.inl (SqL.of hbk1),_,rfl,by omega,by omega,λ sl hsl=>?_⟩
  rw [xl,bD];refine a1e (z:=o.z) (kt:=o.kt) (kg:=o.kg) (hs:=S.1) (xs:=xs) (bk:=bk) L1 ft ok1.g h16 hsl (λ i H2 N hi e2 L2 hN=>?_) (λ ys H2 e2 L2 hp2 pq=>?_)
  ·have hbk2:=e2.get L1 hbk1 nofun
   have bin:U6 K H2 bk xs S.1 (10 ^ 9) o.kt o.kg:=⟨SqL.of hbk2,Bk.same1 L1 e2 hB1,ok1.g,by decide,h16,by have:=ft.t4; omega,by have:=ft.g4; omega⟩;refine ⟨_,rfl,_,rfl,_,rfl,bk,xs,S.1,(i:Int),o.z,10 ^ 9,o.kt,o.kg,rfl,ft.z,bin,ft.t1,O6 (by omega),L2,λ i' h' A' B' H7 u' hi' hh' X' e7 L7 hu'=>?_,λ bad=>absurd ⟨by omega,by omega⟩ bad⟩;have:i'=i:=by omega
   subst this;exact hN h' A' B' _ _ hh' X' e7 L7 hu'
  ·exact ⟨sl,ys,rfl,e2,L2,hsl,hp2,pq⟩
 intro σ2 H2 hM_; refine C6 λ G_ hG_=>?_; obtain ⟨sl,ys,rfl,e2,L2,nsl,hsl,pys⟩:=hM_; subst hG_;refine ⟨λ σ' H'=>∃ (du el:Addr),σ'=[some (.ref o.p),some (.ref bk),some (.str o.z),some (.ref fo),some (.ref sl),some (.ref du),none]/\Same H2 H'/\H2 du=none/\H' du=some (.lst [.ref bk,.ref sl,.ref el])/\H' el=some (.lst [])/\H2 el=none,?_,?_⟩
 ·refine ⟨_,rfl,_,rfl,(by show 0<=sizeLine; decide),λ el hel=>⟨(by show 3<=sizeLine; decide),λ du hdu=>?_⟩⟩
  have t1:=Same.new hel (.lst []);have t2:=Same.new hdu (.lst [V.ref bk,V.ref sl,V.ref el]);exact ⟨du,el,rfl,t1.trans t2,t1.free hdu,upd_same,t2 _ _ upd_same,hel⟩
 intro σ3 H3 hM_; refine C6 λ G_ hG_=>?_; obtain ⟨du,el,rfl,e3,ndu,hdu,hel,nel⟩:=hM_; subst hG_;have L3:=L2.same e3;have e13:Same1 Pt H1 H3:=e2.trans e3.to1;have hbk3:=e13.get L1 hbk1 nofun;have hB3:=Bk.same1 L1 e13 hB1;have hsl3:=e3 _ _ hsl;have nds:sl≠du:=d9 hsl ndu;have ndb:bk≠du:=d9 (e2.get L1 hbk1 nofun) ndu;have old1:∀ {b:Addr} {u:HO},H1 b=some u->b≠Pt->b≠du:=λ h nb=>d9 (e2 _ _ nb h) ndu;refine ⟨λ σ' H'=>∃ (rl:Addr),σ'=[some (.ref o.p),some (.ref bk),some (.str o.z),some (.ref fo),some (.ref sl),some (.ref du),none]/\Same1 Pt H1 H'/\LT Pt H'/\H' du=some (.lst [.ref bk,.ref sl,.ref rl])/\H' sl=some (.lst ys)/\aL (FrT H') ys (P5 o.z o.kt o.kg S.1)/\H' rl=some (.lst ((a2J o.z S.1).map λ (i:Nat)=>V.int (i:Int)))/\H1 du=none/\H1 rl=none,?_,?_⟩
 ·refine ⟨_,rfl,(by show 0<=sizeLine; decide),λ nl hnl=>?_⟩
  have t1:=Same.new hnl (.lst []);have layb:PyData.canLay0 (.list (S.1.map K5))=true:=by rw [PyData.canLay0]; exact a2f _
  have depb:(PyData.list (S.1.map K5)).depth<=60:=by
   have:=a0m S.1;rw [PyData.depth];lia
  refine ⟨.list (S.1.map K5),.list [],.lst (SqL.of (t1 _ _ hbk3)) (Bk.dps (Bk.same t1 hB3)),.lst (SqL.of upd_same) .nil,layb,rfl,aZ (eM _ _) depb,_,rfl,?_⟩;rw [a8C];have L4:=L3.same t1;have fdu1:H1 du=none:=a6g e2 L2 ndu;refine A6 (λ d=>?_) (λ d=>?_)
  ·have hbk4:=t1 _ _ hbk3
   refine ⟨_,rfl,_,rfl,bk,xs,S.1,o.z,10 ^ 9,o.kt,o.kg,rfl,ft.z,⟨SqL.of hbk4,Bk.same t1 hB3,ok1.g,by decide,h16,by have:=ft.t4; omega,by have:=ft.g4; omega⟩,by decide,L4,λ H5 rl e5 L5 hrl0 hrl=>?_⟩;have g5:∀ {b:Addr} {xs:List V},H3 b=some (.lst xs)->H5 b=some (.lst xs):=λ h=>e5.get L4 (t1 _ _ h) nofun;refine ⟨_,rfl,du,_,2,2,rfl,rfl,g5 hdu,rfl,?_⟩;have nrl:rl≠du:=λ z=>by rw [z,t1 _ _ hdu] at hrl0; cases hrl0
   refine ⟨rl,rfl,λ b o nb h=>?_,L5.write (g5 hdu),upd_same,by rw [c9 nds]; exact g5 hsl3,Paired.imp' (λ _ _ ⟨a,h1,h2⟩=>⟨a,h1,by rw [c9 (x6 (e5.get L4 (t1 _ _ (e3 _ _ h2)) nofun) (g5 hdu) nofun)]; exact e5.get L4 (t1 _ _ (e3 _ _ h2)) nofun⟩) pys,by rw [c9 nrl]; exact hrl,fdu1,a6g e13 L3 (t1.free hrl0)⟩;rw [c9 (d9 h fdu1)];exact e5 _ _ nb (t1 _ _ (e13 _ _ nb h))
  ·have hn:S.1=[]:=by
    cases hl:S.1 with
    | nil=>rfl
    | cons a r=>rw [hl] at d; simp at d
   refine ⟨el,rfl,λ b o nb h=>t1 _ _ (e13 _ _ nb h),L4,t1 _ _ hdu,t1 _ _ hsl3,Paired.imp' (λ _ _ r=>(r.same e3).same t1) pys,?_,fdu1,a6g e2 L2 nel⟩;rw [hn];exact t1 _ _ hel
 intro σ4 H4 hM_; refine C6 λ G_ hG_=>?_; obtain ⟨rl,rfl,e4,L4,hdu4,hsl4,pys4,hrl4,fdu,frl⟩:=hM_; subst hG_;have fr4:=X8 L1 e4;have g4:∀ {b:Addr} {xs:List V},H1 b=some (.lst xs)->H4 b=some (.lst xs):=λ h=>e4.get L1 h nofun;have hbk4:=g4 hbk1;have hB4:=Bk.same1 L1 e4 hB1;have ly:=a9i o.z o.kt o.kg S.1;refine ⟨λ σ' H'=>σ'=[some (.ref o.p),some (.ref bk),some (.str o.z),some (.ref fo),some (.ref sl),some (.ref du),none]/\H4=H',?_,?_⟩
 ·have D1:Dq K H4 (λ _=>True) (.ref fo) (a1w o.z o.kt o.kg S.1):=.lst trivial (g4 hfo) (.cons (.lst trivial (g4 hl1) (T4 (λ v a r=>a7a r) (b1.fr0 fr4))) (.cons (.lst trivial (g4 hl2) (T4 (λ v a r=>a3I (FrT.fr0 fr4 r)) b2)) (.cons (.lst trivial (g4 hl3) a0D) .nil)))
  have D2:Dq K H4 (λ _=>True) (.ref du) (a1w o.z o.kt o.kg S.1):=.lst trivial hdu4 (.cons (.lst trivial hbk4 (T4 (λ v a r=>a7a r) hB4)) (.cons (.lst trivial hsl4 (T4 (λ v a r=>a3I r) pys4)) (.cons (.lst trivial hrl4 a0D) .nil)));refine ⟨_,rfl,_,rfl,_,_,D1.dp,D2.dp,ly,ly,aZ (eM _ _) (a4p _ _ _ _),_,rfl,?_⟩;rw [W5 _ ly];exact D6 ⟨rfl,rfl⟩
 intro σ5 H5 hM_; refine C6 λ G_ hG_=>?_; obtain ⟨rfl,rfl⟩:=hM_; subst hG_;have hfo4:=g4 hfo;have hl14:=g4 hl1;have hl24:=g4 hl2;have hl34:=g4 hl3;refine ⟨λ σ' H'=>∃ o6,σ'=[some (.ref o.p),some (.ref bk),some (.str o.z),some (.ref fo),some (.ref sl),some (.ref du),o6]/\(∀ b u,b≠l1->b≠l2->b≠l3->H4 b=some u->H' b=some u),?_,?_⟩
 ·refine ⟨_,rfl,fo,rfl,⟨_,SqL.of hfo4⟩,?_⟩
  refine a4B (xs:=[V.ref l1,V.ref l2,V.ref l3]) (λ i σ H'=>∃ o6,σ=[some (.ref o.p),some (.ref bk),some (.str o.z),some (.ref fo),some (.ref sl),some (.ref du),o6]/\(∀ b u,b≠l1->b≠l2->b≠l3->H4 b=some u->H' b=some u)/\∀ l∈[l1,l2,l3],∃ c,H' l=some (.lst c)/\c.length<=16+i)
   ⟨_,rfl,λ _ _ _ _ _ h=>h,λ l hl=>?_⟩ (λ i σ H' _ ⟨_,_,k,_⟩=>SqL.of (k _ _ n1 n2 n3 hfo4)) ?_ ?_
  ·simp only [aH,bA,or_false] at hl
   rcases hl with rfl | rfl | rfl
   ·exact ⟨x1,hl14,by rw [Paired.length b1]; exact h16⟩
   ·exact ⟨x2,hl24,by rw [b2.length,ok1.l]; exact h16⟩
   ·exact ⟨_,hl34,by rw [aA]; have:=a8m o.z S.1; omega⟩
  ·rintro i x σ H6 hx ⟨o6,rfl,k6,c6⟩
   have hm:∃ l∈[l1,l2,l3],x=.ref l:=by
    have:=bV hx;simp only [aH,bA,or_false] at this;rcases this with rfl | rfl | rfl
    ·exact ⟨l1,by simp,rfl⟩
    ·exact ⟨l2,by simp,rfl⟩
    ·exact ⟨l3,by simp,rfl⟩
   obtain ⟨l,hl,rfl⟩:=hm;obtain ⟨c,hc,lc⟩:=c6 l hl;have hi:i<3:=(bN.mp hx).1;refine ⟨_,rfl,.inl ⟨rfl,_,SqL.of hc⟩,l,_,_,rfl,rfl,hc,cI (show c.length<=1000 by omega) (j9 (aE _)),?_⟩;refine ⟨_,rfl,λ b u m1 m2 m3 h=>?_,λ l' hl'=>?_⟩
   ·rw [c9 (λ z=>by
     subst z;simp only [aH,bA,or_false] at hl;rcases hl with z | z | z
     ·exact m1 z
     ·exact m2 z
     ·exact m3 z)]
    exact k6 b u m1 m2 m3 h
   ·by_cases e:l'=l
    ·subst e
     exact ⟨_,upd_same,by rw [aM,cX]; omega⟩
    ·obtain ⟨c',hc',lc'⟩:=c6 l' hl'
     exact ⟨c',by rw [c9 e]; exact hc',by omega⟩
  ·rintro σ H6 ⟨o6,rfl,k6,_⟩
   exact ⟨o6,rfl,k6⟩
 intro σ6 H6 hM_; refine C6 λ G_ hG_=>?_; obtain ⟨o6,rfl,k6⟩:=hM_; subst hG_;have oldH:∀ {b:Addr} {u:HO},H b=some u->b≠l1/\b≠l2/\b≠l3:=λ h=>⟨d9 h f1,d9 h f2,d9 h f3⟩;have new1:∀ {b:Addr},H1 b=none->b≠l1/\b≠l2/\b≠l3:=λ h=>⟨(d9 hl1 h).symm,(d9 hl2 h).symm,(d9 hl3 h).symm⟩;have fr6:Fr0 (λ b=>b=l1\/b=l2\/b=l3) H4 H6:=⟨λ b u hx h=>k6 b u (λ z=>hx (.inl z)) (λ z=>hx (.inr (.inl z))) (λ z=>hx (.inr (.inr z))) h,λ x hx=>by
  rcases hx with rfl | rfl | rfl
  ·exact G1 hl14
  ·exact G1 hl24
  ·exact G1 hl34⟩
 have no6:∀ {b:Addr} {u:HO},H b=some u->¬ (b=l1\/b=l2\/b=l3):=λ h z=>z.elim (oldH h).1 λ z=>z.elim (oldH h).2.1 (oldH h).2.2;have KP4:=KpAt.same1 L1 e4 (KpAt.same1 LTH e1 KP);have KP6:=KP4.fr0 fr6 (λ b hb=>by obtain ⟨zs,hz⟩:=KP.ls b hb; exact no6 hz) (no6 hp) (no6 hpa);have L6:LT Pt H6:=by
  rcases L4 with x | ⟨c,x,y⟩
  ·exact .inl (k6 _ _ (x6 x hl14 nofun) (x6 x hl24 nofun) (x6 x hl34 nofun) x)
  ·exact .inr ⟨c,k6 _ _ (x6 x hl14 nofun) (x6 x hl24 nofun) (x6 x hl34 nofun) x,k6 _ _ (x6 y hl14 nofun) (x6 y hl24 nofun) (x6 y hl34 nofun) y⟩
 have e6:Same1 Pt H H6:=λ b u nb h=>k6 _ _ (oldH h).1 (oldH h).2.1 (oldH h).2.2 (e4 _ _ nb (e1 _ _ nb h));have hbk6:H6 bk=some (.lst xs):=k6 _ _ (oldH hbk).1 (oldH hbk).2.1 (oldH hbk).2.2 hbk4;have hdu6:H6 du=some (.lst [.ref bk,.ref sl,.ref rl]):=k6 _ _ (new1 fdu).1 (new1 fdu).2.1 (new1 fdu).2.2 hdu4;have hsl6:H6 sl=some (.lst ys):=k6 _ _ (new1 nsl).1 (new1 nsl).2.1 (new1 nsl).2.2 hsl4;have hrl6:=k6 _ _ (new1 frl).1 (new1 frl).2.1 (new1 frl).2.2 hrl4;have hB6:=hB4.fr0 fr6;have ps6:aL (FrT H6) ys (P5 o.z o.kt o.kg S.1):=Paired.imp' (λ _ _ r=>FrT.fr0 fr6 r) pys4;obtain ⟨dx',ta',wa',pv',hp6,_,hpa6,_⟩:=id KP6.ex;refine ⟨_,rfl,o.p,dx',_,rfl,hp6,rfl,o.p,o.pa,o.kt,o.kg,o.z,_,_,lo,rfl,KP6,λ m1 y1 H7 e7 hm1 h1 c1=>?_⟩;refine ⟨_,rfl,o.p,dx',_,rfl,e7 _ _ hp6,rfl,o.p,o.pa,o.kt,o.kg,o.z,_,_,lo,rfl,KP6.same e7,λ m2 y2 H8 e8 hm2 h2 c2=>?_⟩;have e78:=e7.trans e8;refine ⟨_,rfl,o.p,dx',_,rfl,e78 _ _ hp6,rfl,o.p,o.pa,o.kt,o.kg,o.z,_,_,lo,rfl,KP6.same e78,ft,ok1.g,h16,L6.same e78,λ H9 m3 e9 L9 hm3 h3=>?_⟩;refine ⟨(by show 3<=sizeLine; decide),λ fn hfn=>?_⟩;have s10:=Same.new hfn (.lst [V.ref m1,V.ref m2,V.ref m3]);have L8:=L6.same e78;have fr9:=X8 L8 e9;have g9:∀ {b:Addr} {xs:List V},H6 b=some (.lst xs)->(upd H9 fn (.lst [V.ref m1,V.ref m2,V.ref m3])) b=some (.lst xs):=λ h=>s10 _ _ (e9.get L8 (e78 _ _ h) nofun);have D1:Dq K (upd H9 fn (.lst [V.ref m1,V.ref m2,V.ref m3])) (λ _=>True) (.ref fn) (a1w o.z o.kt o.kg S.1):=.lst trivial upd_same (.cons (.lst trivial (s10 _ _ (e9.get L8 (e8 _ _ h1) nofun)) (T4 (λ v a r=>a7a r) (Bk.same s10 ((Bk.same e8 (show Bk K H7 y1 S.1 from c1)).fr0 fr9)))) (.cons (.lst trivial (s10 _ _ (e9.get L8 h2 nofun)) (T4 (λ v a r=>a3I ((FrT.fr0 fr9 r).same s10)) c2)) (.cons (.lst trivial (s10 _ _ h3) a0D) .nil)));have D2:Dq K (upd H9 fn (.lst [V.ref m1,V.ref m2,V.ref m3])) (λ _=>True) (.ref du) (a1w o.z o.kt o.kg S.1):=.lst trivial (g9 hdu6) (.cons (.lst trivial (g9 hbk6) (T4 (λ v a r=>a7a r) (Bk.same s10 ((Bk.same e78 hB6).fr0 fr9)))) (.cons (.lst trivial (g9 hsl6) (T4 (λ v a r=>a3I ((FrT.fr0 fr9 (r.same e78)).same s10)) ps6)) (.cons (.lst trivial (g9 hrl6) a0D) .nil)));refine ⟨_,rfl,_,_,D1.dp,D2.dp,ly,ly,aZ (eM _ _) (a4p _ _ _ _),?_⟩;rw [W5 _ ly];exact q _ (λ b u nb h=>s10 _ _ (e9 _ _ nb (e78 _ _ (e6 _ _ nb h)))) (L9.same s10)
end
section
variable {P:Program} {w:World} {K:W.Frag} {mg:Str->Option Value} {base:Heap} {f C Pt:Addr} {fd:FuncData} {n:Nat}
def a3U (K:W.Frag):Sp:=λ vs H Q _=>∃ (l1 l2:Addr) (xs ys:List V) (ps qs:List Q2),vs=[.ref l1,.ref l2]/\H l1=some (.lst xs)/\H l2=some (.lst ys)/\FrL K H xs ps/\FrL K H ys qs/\xs.length<=1000 ∧
 ∀ (l:Addr) (H':Hp),Same H H'->Dp K H' (.ref l) (V6 ps qs)->Q (.ref l) H'
theorem scChg31:j8 ["was","now","found","k"] ["was","now"] (h8 C3):=⟨rfl,rfl,rfl,by decide +kernel,rfl,by decide +kernel,by decide +kernel⟩
abbrev dC (ps qs:List Q2) (i:Nat):PyData:=.tuple [.int (i:Int),dF (ps.getD i (0,0)),dF (qs.getD i (0,0))]
abbrev chT (ps qs:List Q2) (m:Nat):List Nat:=(aF m).filter λ i=>decide (ps.getD i (0,0)≠qs.getD i (0,0))
theorem a4v (ps qs:List Q2) (m:Nat):chT ps qs (m+1)=chT ps qs m++(if ps.getD m (0,0)≠qs.getD m (0,0) then [m] else []):=by
 unfold chT;rw [fN,gK]
 congr 1
 by_cases h:ps.getD m (0,0)≠qs.getD m (0,0)
 ·rw [if_pos h]
  simp only [kW,decide_eq_true h]
 ·rw [if_neg h]
  simp only [kW,decide_eq_false h]
theorem b0T (ps qs:List Q2) (m:Nat):(chT ps qs m).length<=m:=aZ (fW _ _) (by rw [dQ]; exact aE _)
def Tr3 (K:W.Frag) (H:Hp) (ps qs:List Q2) (v:V) (i:Nat):Prop:=∃ (t:Addr) (x y:V),v=.ref t/\H t=some (.tup [.int (i:Int),x,y])/\FrV K H x (ps.getD i (0,0))/\FrV K H y (qs.getD i (0,0))
theorem a6w {H:Hp} {v:V} {q:Q2} {a:Addr} {us us':List V} (h:FrV K H v q) (ha:H a=some (.lst us)):FrV K (upd H a (.lst us')) v q:=by
 obtain ⟨b,rfl,hb⟩:=h;refine ⟨b,rfl,?_⟩;rcases hb with (hb | ⟨o,hb⟩) | hb
 ·exact .inl (.inl (by rw [c9 (λ z=>by rw [z,ha] at hb; cases hb)]; exact hb))
 ·exact .inl (.inr ⟨o,by rw [c9 (λ z=>by rw [z,ha] at hb; cases hb)]; exact hb⟩)
 ·exact .inr hb
theorem Tr3.upd {H:Hp} {ps qs:List Q2} {v:V} {i:Nat} {a:Addr} {us us':List V} (h:Tr3 K H ps qs v i) (ha:H a=some (.lst us)):Tr3 K (upd H a (.lst us')) ps qs v i:=by
 obtain ⟨t,x,y,rfl,ht,hx,hy⟩:=h;exact ⟨t,x,y,rfl,by rw [c9 (λ z=>by rw [z,ha] at ht; cases ht)]; exact ht,a6w hx ha,a6w hy ha⟩
theorem Tr3.same {H H':Hp} {ps qs:List Q2} {v:V} {i:Nat} (e:Same H H') (h:Tr3 K H ps qs v i):Tr3 K H' ps qs v i:=by
 obtain ⟨t,x,y,rfl,ht,hx,hy⟩:=h;exact ⟨t,x,y,rfl,e _ _ ht,FrV.same e hx,FrV.same e hy⟩
theorem Tr3.dps {H:Hp} {ps qs:List Q2} {vs:List V} {is:List Nat} (h:aL (Tr3 K H ps qs) vs is):Dps K H vs (is.map (dC ps qs)):=by
 induction h with
 | nil=>exact .nil
 | cons r _ ih =>
  obtain ⟨t,x,y,rfl,ht,hx,hy⟩:=r;exact .cons (.tup (SqT.of ht) (.cons (.int _) (.cons (FrV.dp hx) (.cons (FrV.dp hy) .nil)))) ih
theorem P0 {α β:Type} {R:α->β->Prop}:∀ {as:List α} {bs:List β} {cs:List α} {ds:List β},aL R as bs->aL R cs ds->aL R (as++cs) (bs++ds)
 | _,_,_,_,.nil,h=>h
 | _,_,_,_,.cons a t,h=>.cons a (P0 t h)
noncomputable def b2Z {cdv:Value} {A:Around} {outer:List Env} {s:Shared} {H:Hp} {E:XK} (T:u0 mg)
  (hr:Room n (A.deeper (cU "_law_changes" (h8 C3) s.heap.objs.size f cdv))) :
  { t:TS // PSs (J1 D7 P w K mg base ["was","now","found","k"] "_law_changes" (h8 C3) f cdv A outer s H E).nox (t0 C3) t } :=
 ⟨_,i7 (m4 (i:=2) scChg31.nd rfl (aC rfl) (r6 d0))
  (i7 (a0l PassesOwn.never rfl (E7 rfl T.range (a0 (j3 (a7z rfl) rfl T.min iO (a0 (j3 j7 rfl T.len bE (a0 (pv 0) d0)) (a0 (j3 j7 rfl T.len bE (a0 (pv 1) d0)) d0))) d0)) (m5 (i:=3) scChg31.nd rfl (aC rfl))
   (j0 (w6 (m6 (X4 hr) (j5 j4 (pv 0) (pv 3) (λ _ _=>rfl)) (j5 j4 (pv 1) (pv 3) (λ _ _=>rfl)) (p6 _)) (j0 (B8 (a1Z dR eY eZ J8 (pv 2) (a0 (G5 (a0 (pv 3) (a0 (j5 j4 (pv 0) (pv 3) (λ _ _=>rfl)) (a0 (j5 j4 (pv 1) (pv 3) (λ _ _=>rfl)) d0)))) d0)))) r9)))
  (j0 (o4 (pv 2))))⟩
theorem a9M (F:Fun K "_law_changes" "_law_changes" C3 f fd) (T:u0 mg):FnOk P w K mg base D7 (n+1) f fd ["was","now"] (a3U K):=by
 refine F.ok scChg31 (λ vs H Q E h=>?_) (λ cdv A outer s H vs Q E hr h=>?_)
 ·obtain ⟨l1,l2,xs,ys,ps,qs,rfl,_⟩:=h
  rfl
 obtain ⟨l1,l2,xs,ys,ps,qs,rfl,h1,h2,f1,f2,hz,q⟩:=h;refine ⟨_,(b2Z T hr).2,?_⟩;have lp:xs.length=ps.length:=f1.length;have lq:ys.length=qs.length:=f2.length;have s1k:=j9 (show (1000:Nat)<=1000 from aE _);refine ⟨(by show 0<=sizeLine; decide),λ fl kfl=>?_⟩;have s1:=Same.new kfl (.lst []);have hfl:=upd_same (H:=H) (a:=fl) (o:=.lst []);refine ⟨_,rfl,l1,_,rfl,.inl (SqL.of (s1 _ _ h1)),_,rfl,l2,_,rfl,.inl (SqL.of (s1 _ _ h2)),_,_,rfl,_,rfl,?_,?_,?_⟩
 ·split <;> lia
 ·split <;> lia
 have em:(if (ys.length:Int)<(xs.length:Int) then (ys.length:Int) else (xs.length:Int)).toNat=min ps.length qs.length:=by split <;> lia
 rw [em];refine a1o (n:=min ps.length qs.length) (λ i σ H'=>∃ (o3:Option V) (vs:List V),σ=[some (.ref l1),some (.ref l2),some (.ref fl),o3]/\Same H H'/\H' fl=some (.lst vs)/\aL (Tr3 K H' ps qs) vs (chT ps qs i))
  ⟨_,[],rfl,s1,hfl,.nil⟩ ?_ ?_
 ·rintro i σ H2 hi ⟨o3,vs,rfl,e2,hv,pr⟩
  rw [fL];have ex:xs[i]?=some xs[i]:=aG (by lia);have ey:ys[i]?=some ys[i]:=aG (by lia);obtain ⟨p,e1,r1⟩:=E6 f1 ex;obtain ⟨q',e1',r2⟩:=E6 f2 ey;have gp:ps.getD i (0,0)=p:=by rw [aI,e1]; rfl
  have gq:qs.getD i (0,0)=q':=by rw [aI,e1']; rfl
  have r1':=FrV.same e2 r1;have r2':=FrV.same e2 r2;have sl1:=SqL.of (K:=K) (e2 _ _ h1);have sl2:=SqL.of (K:=K) (e2 _ _ h2);refine ⟨_,rfl,_,rfl,l1,_,_,_,rfl,rfl,sl1,v7 ex,_,rfl,_,rfl,l2,_,_,_,rfl,rfl,sl2,v7 ey,dF p,dF q',FrV.dp r1',FrV.dp r2',a1u _,a1u _,aZ (eM _ _) (b1P _),_,rfl,?_⟩;rw [b2a];refine A6 (λ c=>?_) (λ c=>⟨_,vs,rfl,e2,hv,?_⟩)
  ·have ne:ps.getD i (0,0)≠qs.getD i (0,0):=by rw [gp,gq]; simpa using c
   refine ⟨_,rfl,.inl ⟨rfl,_,SqL.of hv⟩,_,rfl,_,rfl,_,rfl,l1,_,_,_,rfl,rfl,sl1,v7 ex,_,rfl,_,rfl,l2,_,_,_,rfl,rfl,sl2,v7 ey,(by show 3<=sizeLine; decide),λ t kt=>?_⟩;have s3:=Same.new kt (.tup [V.int (i:Int),xs[i],ys[i]]);have lv:vs.length=(chT ps qs i).length:=Paired.length pr;have:=b0T ps qs i;refine ⟨fl,vs,_,rfl,rfl,s3 _ _ hv,by lia,_,vs++[.ref t],rfl,λ b u z=>by rw [c9 (d9 z kfl)]; exact s3 _ _ (e2 _ _ z),upd_same,?_⟩;rw [a4v,if_pos ne];have hv3:=s3 _ _ hv;exact P0 (Paired.imp' (λ _ _ r=>Tr3.upd (r.same s3) hv3) pr) (.cons (Tr3.upd ⟨t,_,_,rfl,upd_same,by rw [gp]; exact FrV.same s3 r1',by rw [gq]; exact FrV.same s3 r2'⟩ hv3) .nil)
  ·have ne:¬ ps.getD i (0,0)≠qs.getD i (0,0):=by rw [gp,gq]; simpa using c
   rw [a4v,if_neg ne,dX];exact pr
 ·intro σ H2 hM_; refine C6 λ G_ hG_=>?_; obtain ⟨o3,vs,rfl,e2,hv,pr⟩:=hM_; subst hG_
  exact ⟨_,rfl,q fl H2 e2 (.lst (SqL.of hv) (Tr3.dps pr))⟩
end
section
variable {P:Program} {w:World} {K:W.Frag} {mg:Str->Option Value} {base:Heap} {f C Pt:Addr} {fd:FuncData} {n:Nat}
noncomputable def a0h (z:Str) (kt kg:Nat) (hs:List i9) (h:i9):PyData:=.tuple [dF ((P5 z kt kg (hs++[h])).getLastD (0,0)),V6 (P5 z kt kg hs) (P5 z kt kg (hs++[h])).dropLast]
def a1Q (K:W.Frag) (C Pt:Addr) (H:Hp) (o:Kq) (lo:List Addr) (S':KS) (Q:VK) (D:PyData):Prop:=∀ (H':Hp) (r kl:Addr) (t:V) (lo':List Addr),KpS K C H' o.p o.kt o.kg o.z S' o.pa lo'->OkS o.z o.kt o.kg S'->Left Pt o.p o.pa H H'->LT Pt H'->(∀ b∈lo',b∈lo\/H b=none) →
 H' r=some (.tup [t,.ref kl])->H' kl=some (.lst [])->Dp K H' t D->Q (.ref r) H'
def W3 (H:Hp) (ks:List V) (Q:VK):Prop:=∀ (H':Hp) (r kl:Addr),Same H H'->H' r=some (.tup [.non,.ref kl])->H' kl=some (.lst ks)->Q (.ref r) H'
abbrev kNB:List V:=a0E true false false false false false
abbrev kNH:List V:=a0E false true false false false false
abbrev kTM:List V:=a0E false false false false true false
abbrev kNL:List V:=a0E false false false false false true
def Z8 (K:W.Frag) (C Pt:Addr):Sp:=λ vs H Q _=>∃ (o:Kq) (S:KS) (lo:List Addr) (d:Addr),vs=[.ref o.p,.ref d]/\KpS K C H o.p o.kt o.kg o.z S o.pa lo/\Fit o.z o.kt o.kg/\OkS o.z o.kt o.kg S/\S.2.length<=900/\LT Pt H ∧
  ((∃ (v:V) (h:i9),H d=some (.tup [.str "come",v])/\HS K H v h/\K4 h/\(GoodK h o.kt o.kg->S.1.length<16->a1Q K C Pt H o lo (S.1++[h],S.2++[S.1]) Q (a0h o.z o.kt o.kg S.1 h))/\(¬ GoodK h o.kt o.kg->W3 H kNB Q)/\(GoodK h o.kt o.kg->16<=S.1.length->W3 H kTM Q)) ∨
   (∃ num:Int,H d=some (.tup [.str "go",.int num])/\num.natAbs.log2<1920/\(∀ i:Nat,num=(i:Int)->i<S.1.length->a1Q K C Pt H o lo (G8 S.1 i,S.2++[S.1]) Q (V6 (G8 (P5 o.z o.kt o.kg S.1) i) (P5 o.z o.kt o.kg (G8 S.1 i))))/\(¬ V7 S.1.length num->W3 H kNH Q)) ∨
   (∃ (num:Int) (v:V) (h:i9),H d=some (.tup [.str "alter",.int num,v])/\num.natAbs.log2<1920/\HS K H v h/\K4 h/\(∀ i:Nat,num=(i:Int)->i<S.1.length->GoodK h o.kt o.kg->a1Q K C Pt H o lo (a0n S.1 i h,S.2++[S.1]) Q (V6 (P5 o.z o.kt o.kg S.1) (P5 o.z o.kt o.kg (a0n S.1 i h))))/\(¬ V7 S.1.length num->W3 H kNH Q)/\(V7 S.1.length num->¬ GoodK h o.kt o.kg->W3 H kNB Q)) ∨
   (H d=some (.tup [.str "back"])/\(∀ (hs0:List i9) (past0:List (List i9)),S.2=past0++[hs0]->a1Q K C Pt H o lo (hs0,past0) Q .none)/\(S.2=[]->W3 H kNL Q)))
theorem scTried31:j8 ["kept","deed","found","kin","e"] ["kept","deed"] (h8 E8):=⟨rfl,rfl,rfl,by decide +kernel,rfl,by decide +kernel,by decide +kernel⟩
noncomputable def b2S {cdv:Value} {A:Around} {outer:List Env} {s:Shared} {H:Hp} {E:XK} {cE cB cH cR cT cM cL f1 f2 f3 f4 fc:Addr} {d1 d2 d3 d4 dc:FuncData} (TKd:TK K C) (R:b0D K mg cE cB cH cR cT cM cL)
  (Cg:M8 P w K mg base (V8 P w) n C "go" ["self","number"] (a9d K C cH Pt) f1 d1) (Cc:M8 P w K mg base (V8 P w) n C "come" ["self","house"] (a3Z K C cB cM Pt) f2 d2) (Ca:M8 P w K mg base (V8 P w) n C "alter" ["self","number","house"] (a2h K C cH cB Pt) f3 d3) (Cb:M8 P w K mg base (V8 P w) n C "back" ["self"] (a3M K C cL Pt) f4 d4) (Ck:b4z P w K mg base n "_law_a_kin" ["e"] (a5n K cE cB cH cR cT cM cL) fc dc)
  (hr:Room n (A.deeper (cU "_law_tried" (h8 E8) s.heap.objs.size f cdv))) :
  { t:TS // PSs (J1 D7 P w K mg base ["kept","deed","found","kin","e"] "_law_tried" (h8 E8) f cdv A outer s H E).nox (t0 E8) t } :=
 ⟨_,i7 (m4 (i:=2) scTried31.nd rfl (aC rfl) T8)
  (i7 (m4 (i:=3) scTried31.nd rfl (aC rfl) (r6 d0))
  (i7 (b2H (i:=4) R.kE scTried31.nd rfl rfl rfl rfl R.mE
   (λ EX pn WE hx=>j0 (w6 (m6 M4 (j5 (V9 K rfl) (pv 1) g0 (λ _ _=>rfl)) u9 (p6 _)) (j0 (m4 (i:=2) scTried31.nd rfl (aC rfl) (a2D (pv 0) TKd.cl Cc.me Cc.ok hr Cc.bd hx (a0 (j5 (V9 K rfl) (pv 1) g0 (λ _ _=>rfl)) d0))))
    (j0 (w6 (m6 M4 (j5 (V9 K rfl) (pv 1) g0 (λ _ _=>rfl)) u9 (p6 _)) (j0 (m4 (i:=2) scTried31.nd rfl (aC rfl) (a2D (pv 0) TKd.cl Cg.me Cg.ok hr Cg.bd hx (a0 (j5 (V9 K rfl) (pv 1) g0 (λ _ _=>rfl)) d0))))
    (j0 (w6 (m6 M4 (j5 (V9 K rfl) (pv 1) g0 (λ _ _=>rfl)) u9 (p6 _)) (j0 (m4 (i:=2) scTried31.nd rfl (aC rfl) (a2D (pv 0) TKd.cl Ca.me Ca.ok hr Ca.bd hx (a0 (j5 (V9 K rfl) (pv 1) g0 (λ _ _=>rfl)) (a0 (j5 (V9 K rfl) (pv 1) g0 (λ _ _=>rfl)) d0)))))
    (j0 (m4 (i:=2) scTried31.nd rfl (aC rfl) (a7I (pv 0) TKd.cl Cb.me Cb.ok hr Cb.bd hx)))))))))
   (λ ea=>j0 (m4 (i:=3) scTried31.nd rfl (aC rfl) (a8i Ck.ok (hr.u _) rfl Ck.m Ck.k Ck.b (a0 (pv 4) d0)))))
  (j0 (o4 (G5 (a0 (pv 2) (a0 (pv 3) d0)))))))⟩
theorem a5y {cE cB cH cR cT cM cL f1 f2 f3 f4 fc:Addr} {d1 d2 d3 d4 dc:FuncData} (F:Fun K "_law_tried" "_law_tried" E8 f fd) (TKd:TK K C) (R:b0D K mg cE cB cH cR cT cM cL) (MB:a0w K cB cE cB cH cR cT cM cL true false false false false false) (MH:a0w K cH cE cB cH cR cT cM cL false true false false false false) (MM:a0w K cM cE cB cH cR cT cM cL false false false false true false) (ML:a0w K cL cE cB cH cR cT cM cL false false false false false true)
  (Cg:M8 P w K mg base (V8 P w) n C "go" ["self","number"] (a9d K C cH Pt) f1 d1) (Cc:M8 P w K mg base (V8 P w) n C "come" ["self","house"] (a3Z K C cB cM Pt) f2 d2) (Ca:M8 P w K mg base (V8 P w) n C "alter" ["self","number","house"] (a2h K C cH cB Pt) f3 d3) (Cb:M8 P w K mg base (V8 P w) n C "back" ["self"] (a3M K C cL Pt) f4 d4) (Ck:b4z P w K mg base n "_law_a_kin" ["e"] (a5n K cE cB cH cR cT cM cL) fc dc) :
  FnOk P w K mg base D7 (n+1) f fd ["kept","deed"] (Z8 K C Pt):=by
 refine F.ok scTried31 (λ vs H Q E h=>?_) (λ cdv A outer s H vs Q E hr h=>?_)
 ·obtain ⟨o,S,lo,d,rfl,_⟩:=h
  rfl
 obtain ⟨o,S,lo,d,rfl,KP,ft,ok,hpl,LTH,hc⟩:=h;refine ⟨_,(b2S TKd R Cg Cc Ca Cb Ck hr).2,?_⟩;refine ⟨(by show 0<=sizeLine; decide),λ kl hkl=>?_⟩;have s1:=Same.new hkl (.lst []);have hkl1:(upd H kl (.lst [])) kl=some (.lst []):=upd_same;generalize upd H kl (.lst [])=H1 at *;obtain ⟨dx,ta,wa,pv0,hp,hlv,hpa,hps⟩:=KP.ex;have nkp:kl≠o.p:=λ z0=>by subst z0; rw [hp] at hkl; cases hkl
 have nka:kl≠o.pa:=λ z0=>by subst z0; rw [hpa] at hkl; cases hkl
 have nkt:kl≠Pt:=(LTH.same s1).ne hkl1 nofun;have ok1:OkK o.z o.kt o.kg S.1:=ok S.1 (bS _ (.head _));have hpl':(S.2.map (lv o.z o.kt o.kg)).length<=1000:=by rw [aA]; omega
 have KP1:=KP.same s1;have hp1:=s1 _ _ hp;have L1:=LTH.same s1;refine ⟨λ σ' c _ H'=>σ'=[some (.ref o.p),some (.ref d),some .non,some (.ref kl),none]/\Same H H'/\((c=.ref cB/\W3 H kNB Q)\/(c=.ref cH/\W3 H kNH Q)\/(c=.ref cM/\W3 H kTM Q)\/(c=.ref cL/\W3 H kNL Q)),?_,?_⟩
 rotate_left
 ·rintro σ' H' c ea d' ⟨rfl,e2,hk⟩ hea Da hC
  cases hC;rcases hk with ⟨hk,q⟩ | ⟨hk,q⟩ | ⟨hk,q⟩ | ⟨hk,q⟩
  ·cases hk
   refine ⟨MB.k,MB.sub,?_⟩;refine ⟨_,rfl,ea,_,_,_,_,_,_,_,rfl,upd_same,MB,λ r2 H3 e3 hr2=>?_⟩;refine ⟨_,rfl,_,rfl,(by show 2<=sizeLine; decide),λ rt hrt=>?_⟩;have s4:=Same.new hrt (.tup [V.non,V.ref r2]);exact q _ rt r2 (e2.trans ((Same.new hea _).trans (e3.trans s4))) upd_same (s4 _ _ hr2)
  ·cases hk
   refine ⟨MH.k,MH.sub,?_⟩;refine ⟨_,rfl,ea,_,_,_,_,_,_,_,rfl,upd_same,MH,λ r2 H3 e3 hr2=>?_⟩;refine ⟨_,rfl,_,rfl,(by show 2<=sizeLine; decide),λ rt hrt=>?_⟩;have s4:=Same.new hrt (.tup [V.non,V.ref r2]);exact q _ rt r2 (e2.trans ((Same.new hea _).trans (e3.trans s4))) upd_same (s4 _ _ hr2)
  ·cases hk
   refine ⟨MM.k,MM.sub,?_⟩;refine ⟨_,rfl,ea,_,_,_,_,_,_,_,rfl,upd_same,MM,λ r2 H3 e3 hr2=>?_⟩;refine ⟨_,rfl,_,rfl,(by show 2<=sizeLine; decide),λ rt hrt=>?_⟩;have s4:=Same.new hrt (.tup [V.non,V.ref r2]);exact q _ rt r2 (e2.trans ((Same.new hea _).trans (e3.trans s4))) upd_same (s4 _ _ hr2)
  ·cases hk
   refine ⟨ML.k,ML.sub,?_⟩;refine ⟨_,rfl,ea,_,_,_,_,_,_,_,rfl,upd_same,ML,λ r2 H3 e3 hr2=>?_⟩;refine ⟨_,rfl,_,rfl,(by show 2<=sizeLine; decide),λ rt hrt=>?_⟩;have s4:=Same.new hrt (.tup [V.non,V.ref r2]);exact q _ rt r2 (e2.trans ((Same.new hea _).trans (e3.trans s4))) upd_same (s4 _ _ hr2)
 rcases hc with ⟨v,h,hd,hH,sk,q1,q2,q3⟩ | ⟨num,hd,lm,q1,q2⟩ | ⟨num,v,h,hd,lm,hH,sk,q1,q2,q3⟩ | ⟨hd,q1,q2⟩
 ·have hd1:=SqT.of (K:=K) (s1 _ _ hd)
  refine ⟨_,rfl,d,_,0,_,rfl,rfl,hd1,G3 _ _,rfl,_,rfl,O1 ?_⟩;refine ⟨_,rfl,o.p,dx,_,rfl,hp1,rfl,_,rfl,d,_,1,_,rfl,rfl,hd1,O2 _ _,?_⟩;refine ⟨o.p,o.pa,v,h,o.kt,o.kg,o.z,lv o.z o.kt o.kg S.1,S.2.map (lv o.z o.kt o.kg),lo,rfl,KP1,ft,hH.same s1,sk,ok1.g,ok1.m,ok1.l,hpl',L1,λ gk l16 H2 ha wa' r cl u qs x KP2 sh n1 n2 lf L2 n4 hr hu n5 ch _ _=>?_,λ bad H2 e2=>⟨rfl,s1.trans e2,.inl ⟨rfl,q2 bad⟩⟩,λ gk l16 H2 e2=>⟨rfl,s1.trans e2,.inr (.inr (.inl ⟨rfl,q3 gk l16⟩))⟩⟩;have l16':S.1.length<16:=l16;have hG:∀ g∈S.1++[h],HG (10 ^ 9) o.kt o.kg g:=λ g hg=>by
   rcases aS.mp hg with hg | hg
   ·exact ok1.g g hg
   ·rw [aY.mp hg]; exact gk.hg
  have eq:=Shs.q ft.z hG sh;have okn:OkK o.z o.kt o.kg (S.1++[h]):=⟨by simp; omega,hG,by rw [<- eq]; exact sh.1⟩;have hkl2:H2 kl=some (.lst []):=lf kl _ nkp nkt nka hkl1;refine ⟨_,rfl,_,rfl,(by show 2<=sizeLine; decide),λ rt hrt=>?_⟩;have s3:=Same.new hrt (.tup [V.ref r,V.ref kl]);refine q1 gk l16' _ rt kl (.ref r) _ (KpAt.same s3 ?_) (a2t ok okn) (λ b o' n1 n2 n3 q0=>s3 _ _ (lf b o' n1 n2 n3 (s1 _ _ q0))) (L2.same s3) (λ b hb=>(a5w n1 n2 b hb).imp id s1.free) upd_same (s3 _ _ hkl2) ?_
  ·show KpAt _ _ _ _ _ _ _ (S.1++[h],P5 o.z o.kt o.kg (S.1++[h])) ((S.2++[S.1]).map (lv o.z o.kt o.kg)) _ _
   rw [aW,<- eq];exact KP2
  ·unfold a0h
   rw [<- eq];have g1:(qs++[x]).getLastD (0,0)=x:=by simp
   have g2:(qs++[x]).dropLast=qs:=by simp
   rw [g1,g2];exact Dp.same s3 (.tup (SqT.of hr) (.cons (FrV.dp hu.v) (.cons (ch.dq (F:=λ _=>True) trivial).dp .nil)))
 ·have hd1:=SqT.of (K:=K) (s1 _ _ hd)
  refine ⟨_,rfl,d,_,0,_,rfl,rfl,hd1,G3 _ _,rfl,_,rfl,D6 ?_⟩;refine ⟨_,rfl,d,_,0,_,rfl,rfl,hd1,G3 _ _,rfl,_,rfl,O1 ?_⟩;refine ⟨_,rfl,o.p,dx,_,rfl,hp1,rfl,_,rfl,d,_,1,_,rfl,rfl,hd1,O2 _ _,?_⟩;refine ⟨o.p,o.pa,num,o.kt,o.kg,o.z,lv o.z o.kt o.kg S.1,S.2.map (lv o.z o.kt o.kg),lo,rfl,KP1,ft,ok1.g,ok1.m,ok1.l,hpl',lm,L1,λ i hi hil H2 ha wa' cl qs KP2 sh n1 n2 lf L2 n3 ch _ _=>?_,λ bad H2 e2=>⟨rfl,s1.trans e2,.inr (.inl ⟨rfl,q2 bad⟩)⟩⟩;have hG:∀ g∈G8 S.1 i,HG (10 ^ 9) o.kt o.kg g:=λ g hg=>ok1.g g (a4r hg);have eq:=sh.q ft.z hG;have okn:OkK o.z o.kt o.kg (G8 S.1 i):=⟨Nat.le_trans a0U ok1.m,hG,by rw [<- eq]; exact sh.1⟩;subst eq;have hkl2:H2 kl=some (.lst []):=lf kl _ nkp nkt nka hkl1;refine ⟨_,rfl,_,rfl,(by show 2<=sizeLine; decide),λ rt hrt=>?_⟩;have s3:=Same.new hrt (.tup [V.ref cl,V.ref kl]);refine q1 i hi hil _ rt kl (.ref cl) _ (KpAt.same s3 ?_) (a2t ok okn) (λ b o' n1 n2 n3 q0=>s3 _ _ (lf b o' n1 n2 n3 (s1 _ _ q0))) (L2.same s3) (λ b hb=>(a5w n1 n2 b hb).imp id s1.free) upd_same (s3 _ _ hkl2) (Dp.same s3 (ch.dq (F:=λ _=>True) trivial).dp)
  show KpAt _ _ _ _ _ _ _ _ ((S.2++[S.1]).map (lv o.z o.kt o.kg)) _ _
  rw [aW];exact KP2
 ·have hd1:=SqT.of (K:=K) (s1 _ _ hd)
  refine ⟨_,rfl,d,_,0,_,rfl,rfl,hd1,W4 _ _ _,rfl,_,rfl,D6 ?_⟩;refine ⟨_,rfl,d,_,0,_,rfl,rfl,hd1,W4 _ _ _,rfl,_,rfl,D6 ?_⟩;refine ⟨_,rfl,d,_,0,_,rfl,rfl,hd1,W4 _ _ _,rfl,_,rfl,O1 ?_⟩;refine ⟨_,rfl,o.p,dx,_,rfl,hp1,rfl,_,rfl,d,_,1,_,rfl,rfl,hd1,a3q _ _ _,_,rfl,d,_,2,_,rfl,rfl,hd1,a8g _ _ _,?_⟩;refine ⟨o.p,o.pa,num,v,h,o.kt,o.kg,o.z,lv o.z o.kt o.kg S.1,S.2.map (lv o.z o.kt o.kg),lo,rfl,KP1,ft,hH.same s1,sk,ok1.g,ok1.m,ok1.l,hpl',lm,L1,λ i hi hil gk H2 ha wa' cl qs KP2 sh n1 n2 lf L2 n3 ch _ _=>?_,λ bad H2 e2=>⟨rfl,s1.trans e2,.inr (.inl ⟨rfl,q2 bad⟩)⟩,λ gd bad H2 e2=>⟨rfl,s1.trans e2,.inl ⟨rfl,q3 gd bad⟩⟩⟩;have hil':i<S.1.length:=hil;have hG:∀ g∈a0n S.1 i h,HG (10 ^ 9) o.kt o.kg g:=λ g hg=>by
   rcases a4t hg with rfl | hg
   ·exact gk.hg
   ·exact ok1.g g hg
  have eq:=sh.q ft.z hG;have la:(a0n S.1 i h).length<=16:=by
   have:=ok1.m;unfold a0n;simp;omega
  have okn:OkK o.z o.kt o.kg (a0n S.1 i h):=⟨la,hG,by rw [<- eq]; exact sh.1⟩;subst eq;have hkl2:H2 kl=some (.lst []):=lf kl _ nkp nkt nka hkl1;refine ⟨_,rfl,_,rfl,(by show 2<=sizeLine; decide),λ rt hrt=>?_⟩;have s3:=Same.new hrt (.tup [V.ref cl,V.ref kl]);refine q1 i hi hil gk _ rt kl (.ref cl) _ (KpAt.same s3 ?_) (a2t ok okn) (λ b o' n1 n2 n3 q0=>s3 _ _ (lf b o' n1 n2 n3 (s1 _ _ q0))) (L2.same s3) (λ b hb=>(a5w n1 n2 b hb).imp id s1.free) upd_same (s3 _ _ hkl2) (Dp.same s3 (ch.dq (F:=λ _=>True) trivial).dp)
  show KpAt _ _ _ _ _ _ _ _ ((S.2++[S.1]).map (lv o.z o.kt o.kg)) _ _
  rw [aW];exact KP2
 ·have hd1:=SqT.of (K:=K) (s1 _ _ hd)
  have at0:N5 [V.str "back"] 0=some (V.str "back"):=v7 (j:=0) rfl;refine ⟨_,rfl,d,_,0,_,rfl,rfl,hd1,at0,rfl,_,rfl,D6 ?_⟩;refine ⟨_,rfl,d,_,0,_,rfl,rfl,hd1,at0,rfl,_,rfl,D6 ?_⟩;refine ⟨_,rfl,d,_,0,_,rfl,rfl,hd1,at0,rfl,_,rfl,D6 ?_⟩;refine ⟨_,rfl,o.p,dx,_,rfl,hp1,rfl,?_⟩;refine ⟨o.p,o.pa,o.kt,o.kg,o.z,lv o.z o.kt o.kg S.1,S.2.map (lv o.z o.kt o.kg),lo,rfl,KP1,L1,λ L0 past0 H2 hpast KP2 lf L2=>?_,λ hn H2 e2=>⟨rfl,s1.trans e2,.inr (.inr (.inr ⟨rfl,q2 (iP.mp hn)⟩))⟩⟩;obtain ⟨p0,l0,e1,e2,e3⟩:=List.map_eq_append_iff.mp hpast;obtain ⟨hs0,e4,e5⟩:∃ hs0,l0=[hs0]/\lv o.z o.kt o.kg hs0=L0:=by
   match l0,e3 with
   | [x],e3=>exact ⟨x,rfl,by simpa using e3⟩
  subst e4;have hkl2:H2 kl=some (.lst []):=lf kl _ nkp nkt nka hkl1;refine ⟨_,rfl,_,rfl,(by show 2<=sizeLine; decide),λ rt hrt=>?_⟩;have s3:=Same.new hrt (.tup [V.non,V.ref kl]);refine q1 hs0 p0 e1 _ rt kl .non lo (KpAt.same s3 ?_) (λ hs hm=>ok hs (dJ _ (by rw [e1]; exact hm))) (λ b o' n1 n2 n3 q0=>s3 _ _ (lf b o' n1 n2 n3 (s1 _ _ q0))) (L2.same s3) (λ b hb=>.inl hb) upd_same (s3 _ _ hkl2) .non
  show KpAt _ _ _ _ _ _ _ (lv o.z o.kt o.kg hs0) (p0.map (lv o.z o.kt o.kg)) _ _
  rw [e5,e2];exact KP2
end
section
variable {P:Program} {w:World} {K:W.Frag} {mg:Str->Option Value} {base:Heap} {f C Pt CN:Addr} {fd:FuncData} {n:Nat}
theorem a8W {ps qs:List Q2} (h:qs.length=ps.length+1):V6 ps qs=V6 ps qs.dropLast:=by
 have gd:∀ i,i<ps.length->qs.getD i (0,0)=qs.dropLast.getD i (0,0):=λ i hi=>by
  rw [aI,aI,List.getElem?_dropLast,if_pos (by omega)]
 have ec:chI ps qs=chI ps qs.dropLast:=by
  unfold chI;rw [hU,show min ps.length qs.length=ps.length by omega,show min ps.length (qs.length - 1)=ps.length by omega];refine List.filter_congr λ i hi=>?_;rw [gd i (cO.mp hi)]
 unfold V6;rw [<- ec]
 congr 1
 refine cS λ i hi=>?_;have:i<ps.length:=by
  have:=cO.mp ((fQ.mp hi).1);omega
 rw [gd i this]
def a6K (K:W.Frag) (Pt:Addr):Sp:=λ vs H Q _=>∃ (pl lt d b:Addr) (init:List Addr) (xs ys:List V) (hs hs':List i9) (z:Str) (kt kg:Nat) (D:PyData),vs=[.ref pl,.ref lt,.ref d,.str z]/\H pl=some (.lst ((init++[b]).map V.ref))/\H b=some (.lst xs)/\Bk K H xs hs/\H lt=some (.lst ys)/\Bk K H ys hs'/\Fit z kt kg/\OkK z kt kg hs/\OkK z kt kg hs'/\LT Pt H ∧
 ((∃ (v:V) (h:i9),H d=some (.tup [.str "come",v])/\hs'=hs++[h]/\D=a0h z kt kg hs h)\/(∃ i:Nat,H d=some (.tup [.str "go",.int (i:Int)])/\i<hs.length/\D=V6 (G8 (P5 z kt kg hs) i) (P5 z kt kg hs'))\/(∃ (num:Int) (v:V),H d=some (.tup [.str "alter",.int num,v])/\D=V6 (P5 z kt kg hs) (P5 z kt kg hs'))\/(H d=some (.tup [.str "back"])/\D=.none)) ∧
 ∀ (v:V) (H':Hp),Same1 Pt H H'->LT Pt H'->Dp K H' v D->Q v H'
theorem scDue31:j8 ["past","later","deed","sizes","was","now","found"] ["past","later","deed","sizes"] (h8 E9):=⟨rfl,rfl,rfl,by decide +kernel,rfl,by decide +kernel,by decide +kernel⟩
theorem b3Q:(["k","past","sizes"]:List Str).Nodup:=by decide +kernel
theorem b4H:(["k","later","sizes"]:List Str).Nodup:=by decide +kernel
noncomputable def b5p {cdv:Value} {A:Around} {outer:List Env} {s:Shared} {H:Hp} {E:XK} {f1 f2:Addr} {d1 d2:FuncData} (T:u0 mg) (Cs:a0H P w K mg base n "share" ["book","number","sizes"] (Q9 K CN Pt) f1 d1) (Cc:S4 P w K mg base n "_law_changes" ["was","now"] (a3U K) f2 d2)
  (hr:Room n (A.deeper (cU "_law_a_due" (h8 E9) s.heap.objs.size f cdv))) :
  { t:TS // PSs (J1 D7 P w K mg base ["past","later","deed","sizes","was","now","found"] "_law_a_due" (h8 E9) f cdv A outer s H E).nox (t0 E9) t } :=
 ⟨_,p7 (a0g (i:=4) ["k"] [0,3] scDue31.nd rfl rfl rfl (E7 rfl T.range (a0 (j3 j7 rfl T.len bE (a0 (j5 j4 (pv 0) (C8 x9 g0) (λ _ _=>rfl)) d0)) d0)) (λ _ _ _ _=>m5 (i:=0) b3Q rfl (aC rfl)) (λ _ _ _ _=>m9 (Z0 Cs.ok) hr rfl Cs.m Cs.k Cs.b .nil a3D (a0 (j5 (a3x K rfl) (pv 1) (C8 x9 g0) (λ _ _=>rfl)) (a0 (pv 0) (a0 (pv 2) d0)))))
  (p7 (a0g (i:=5) ["k"] [1,3] scDue31.nd rfl rfl rfl (E7 rfl T.range (a0 (j3 j7 rfl T.len bE (a0 (pv 1) d0)) d0)) (λ _ _ _ _=>m5 (i:=0) b4H rfl (aC rfl)) (λ _ _ _ _=>m9 (Z0 Cs.ok) hr rfl Cs.m Cs.k Cs.b .nil a3D (a0 (pv 1) (a0 (pv 0) (a0 (pv 2) d0)))))
  (i7 (w6 (m6 M4 (j5 x5 (pv 2) g0 (λ _ _=>rfl)) u9 (p6 _)) (j0 (o4 T8)) r9)
  (p7 (w6 (m6 M4 (j5 x5 (pv 2) g0 (λ _ _=>rfl)) u9 (p6 _)) (j0 (m4 (i:=4) scDue31.nd rfl (aC rfl) (j6 x4 (A0 B6 (pv 4) D9 (A4 (j5 x5 (pv 2) g0 (λ _ _=>rfl)))) (A0 B6 (pv 4) (A4 (j6 D0 (j5 x5 (pv 2) g0 (λ _ _=>rfl)) g0)) D9)))) r9)
  (i7 (m4 (i:=6) scDue31.nd rfl (aC rfl) (m9 Cc.ok hr rfl Cc.m Cc.k Cc.b .nil t7 (a0 (pv 4) (a0 (pv 5) d0))))
  (j0 (o4 (a1U (m6 M4 (j5 x5 (pv 2) g0 (λ _ _=>rfl)) u9 (p6 _)) (G5 (a0 (j5 j4 (pv 5) (C8 x9 g0) (λ _ _=>rfl)) (a0 (pv 6) d0))) (pv 6))))))))⟩
theorem a3k {α β:Type} {R:α->β->Prop} {as:List α} {bs:List β} (h:aL R as bs) (i:Nat):aL R (G8 as i) (G8 bs i):=P0 (Paired.take i h) (Paired.drop (i+1) h)
theorem a8l {f1 f2:Addr} {d1 d2:FuncData} (F:Fun K "_law_a_due" "_law_a_due" E9 f fd) (T:u0 mg) (Cs:a0H P w K mg base n "share" ["book","number","sizes"] (Q9 K CN Pt) f1 d1) (Cc:S4 P w K mg base n "_law_changes" ["was","now"] (a3U K) f2 d2):FnOk P w K mg base D7 (n+1) f fd ["past","later","deed","sizes"] (a6K K Pt):=by
 refine F.ok scDue31 (λ vs H Q E h=>?_) (λ cdv A outer s H vs Q E hr h=>?_)
 ·obtain ⟨pl,lt,d,b,init,xs,ys,hs,hs',z,kt,kg,D,rfl,_⟩:=h
  rfl
 obtain ⟨pl,lt,d,b,init,xs,ys,hs,hs',z,kt,kg,D,rfl,hpl,hb,hB,hlt,hB',ft,ok,ok',L,hc,q⟩:=h;refine ⟨_,(b5p T Cs Cc hr).2,?_⟩;have xl:xs.length=hs.length:=Paired.length hB;have yl:ys.length=hs'.length:=Paired.length hB';have h16:=ok.m;have h16':=ok'.m;have s1k:=j9 (show (1000:Nat)<=1000 from aE _);have lastp:N5 ((init++[b]).map V.ref) (-1)=some (V.ref b):=by rw [aW]; exact a0Q _ _
 refine ⟨λ σ' H'=>∃ (wl:Addr) (ws:List V),σ'=[some (.ref pl),some (.ref lt),some (.ref d),some (.str z),some (.ref wl),none,none]/\Same1 Pt H H'/\LT Pt H'/\H' wl=some (.lst ws)/\aL (FrT H') ws (P5 z kt kg hs),?_,?_⟩
 ·refine ⟨_,rfl,_,rfl,pl,_,_,_,rfl,rfl,SqL.of hpl,lastp,b,_,rfl,.inl (SqL.of hb),_,rfl,by omega,by omega,λ wl hwl=>?_⟩
  rw [xl,bD];refine a1e (z:=z) (kt:=kt) (kg:=kg) (hs:=hs) (xs:=xs) (bk:=b) L ft ok.g h16 hwl (λ i H2 N hi e2 L2 hN=>?_) (λ ws H2 e2 L2 hp2 pq=>?_)
  ·have hb2:=e2.get L hb nofun
   have hpl2:=e2.get L hpl nofun;have bin:U6 K H2 b xs hs (10 ^ 9) kt kg:=⟨SqL.of hb2,Bk.same1 L e2 hB,ok.g,by decide,h16,by have:=ft.t4; omega,by have:=ft.g4; omega⟩;refine ⟨_,rfl,_,rfl,pl,_,_,_,rfl,rfl,SqL.of hpl2,lastp,_,rfl,_,rfl,b,xs,hs,(i:Int),z,10 ^ 9,kt,kg,rfl,ft.z,bin,ft.t1,O6 (by omega),L2,λ i' h' A' B' H7 u' hi' hh' X' e7 L7 hu'=>?_,λ bad=>absurd ⟨by omega,by omega⟩ bad⟩;have:i'=i:=by omega
   subst this;exact hN h' A' B' _ _ hh' X' e7 L7 hu'
  ·exact ⟨wl,ws,rfl,e2,L2,hp2,pq⟩
 intro σ1 H1 hM_; refine C6 λ G_ hG_=>?_; obtain ⟨wl,ws,rfl,e1,L1,hwl,pws⟩:=hM_; subst hG_;have hlt1:=e1.get L hlt nofun;have hB1:=Bk.same1 L e1 hB';refine ⟨λ σ' H'=>∃ (nl:Addr) (ns:List V),σ'=[some (.ref pl),some (.ref lt),some (.ref d),some (.str z),some (.ref wl),some (.ref nl),none]/\Same1 Pt H1 H'/\LT Pt H'/\H' nl=some (.lst ns)/\aL (FrT H') ns (P5 z kt kg hs'),?_,?_⟩
 ·refine ⟨_,rfl,lt,_,rfl,.inl (SqL.of hlt1),_,rfl,by omega,by omega,λ wl' hwl'=>?_⟩
  rw [yl,bD];refine a1e (z:=z) (kt:=kt) (kg:=kg) (hs:=hs') (xs:=ys) (bk:=lt) L1 ft ok'.g h16' hwl' (λ i H2 N hi e2 L2 hN=>?_) (λ ws H2 e2 L2 hp2 pq=>?_)
  ·have hb2:=e2.get L1 hlt1 nofun
   have bin:U6 K H2 lt ys hs' (10 ^ 9) kt kg:=⟨SqL.of hb2,Bk.same1 L1 e2 hB1,ok'.g,by decide,h16',by have:=ft.t4; omega,by have:=ft.g4; omega⟩;refine ⟨_,rfl,_,rfl,_,rfl,lt,ys,hs',(i:Int),z,10 ^ 9,kt,kg,rfl,ft.z,bin,ft.t1,O6 (by omega),L2,λ i' h' A' B' H7 u' hi' hh' X' e7 L7 hu'=>?_,λ bad=>absurd ⟨by omega,by omega⟩ bad⟩;have:i'=i:=by omega
   subst this;exact hN h' A' B' _ _ hh' X' e7 L7 hu'
  ·exact ⟨wl',ws,rfl,e2,L2,hp2,pq⟩
 intro σ2 H2 hM_; refine C6 λ G_ hG_=>?_; obtain ⟨nl,ns,rfl,e2,L2,hnl,pns⟩:=hM_; subst hG_;have hwl2:=e2.get L1 hwl nofun;have pws2:aL (FrT H2) ws (P5 z kt kg hs):=Paired.imp' (λ _ _ r=>r.to1 L1 e2) pws;have e02:=e1.trans e2;have lw:ws.length=hs.length:=by rw [pws.length,ok.l]
 have ln:ns.length=hs'.length:=by rw [pns.length,ok'.l]
 have fl:FrL K H2 ns (P5 z kt kg hs'):=O3 pns;rcases hc with ⟨v,h,hd,rfl,rfl⟩ | ⟨i,hd,hi,rfl⟩ | ⟨num,v,hd,rfl⟩ | ⟨hd,rfl⟩
 ·have sd:=SqT.of (K:=K) (e02.get L hd nofun)
  refine ⟨_,rfl,d,_,0,_,rfl,rfl,sd,G3 _ _,rfl,_,rfl,D6 ?_⟩;refine ⟨λ σ' H'=>σ'=[some (.ref pl),some (.ref lt),some (.ref d),some (.str z),some (.ref wl),some (.ref nl),none]/\H'=H2,?_,?_⟩
  ·exact ⟨_,rfl,d,_,0,_,rfl,rfl,sd,G3 _ _,rfl,_,rfl,D6 ⟨rfl,rfl⟩⟩
  intro σ3 H3 hM_; refine C6 λ G_ hG_=>?_; obtain ⟨rfl,rfl⟩:=hM_; subst hG_;refine ⟨_,rfl,_,rfl,wl,nl,ws,ns,_,_,rfl,hwl2,hnl,O3 pws2,fl,by omega,λ l H4 e4 hl=>?_⟩;refine ⟨_,rfl,d,_,0,_,rfl,rfl,e4.tseq sd,G3 _ _,rfl,_,rfl,O1 ?_⟩;obtain ⟨n0,x0,hn0,hx0⟩:∃ n0 x0,ns=n0++[x0]/\FrT H3 x0 ((P5 z kt kg (hs++[h])).getLastD (0,0)):=by
   rcases iN ns with e | ⟨n0,x0,e⟩
   ·rw [e] at ln; simp at ln
   ·refine ⟨n0,x0,by rw [e]; simp,?_⟩
    have hx:ns[n0.length]?=some x0:=by rw [e]; simp
    obtain ⟨y,hy,r⟩:=Paired.at pns hx;have ly:(P5 z kt kg (hs++[h])).length=n0.length+1:=by rw [<- pns.length,e]; simp
    have:(P5 z kt kg (hs++[h])).getLastD (0,0)=y:=by
     rw [List.getLastD_eq_getLast?,List.getLast?_eq_getElem?,ly,Nat.add_sub_cancel,hy]; rfl
    rw [this]; exact r
  refine ⟨_,rfl,_,rfl,nl,_,_,_,rfl,rfl,SqL.of (e4 _ _ hnl),by rw [hn0]; exact a0Q _ _,_,rfl,(by show 2<=sizeLine; decide),λ r kr=>?_⟩;have s5:=Same.new kr (.tup [x0,V.ref l]);refine q _ _ (e02.trans (e4.trans s5).to1) (L2.same (e4.trans s5)) ?_;unfold a0h;rw [<- a8W (by rw [ok'.l,ok.l]; simp)];exact .tup (SqT.of upd_same) (.cons (FrV.dp ((hx0.same e4).same s5).v) (.cons (Dp.same s5 hl) .nil))
 ·have sd:=SqT.of (K:=K) (e02.get L hd nofun)
  refine ⟨_,rfl,d,_,0,_,rfl,rfl,sd,G3 _ _,rfl,_,rfl,D6 ?_⟩;refine ⟨λ σ' H'=>∃ u3,σ'=[some (.ref pl),some (.ref lt),some (.ref d),some (.str z),some (.ref u3),some (.ref nl),none]/\Same H2 H'/\H' u3=some (.lst (G8 ws i)),?_,?_⟩
  ·refine ⟨_,rfl,d,_,0,_,rfl,rfl,sd,G3 _ _,rfl,_,rfl,O1 ?_⟩
   refine ⟨_,rfl,_,rfl,d,_,1,_,rfl,rfl,sd,O2 _ _,_,rfl,wl,_,rfl,SqL.of hwl2,λ u1 k1=>?_⟩;have t1:=Same.new k1 (.lst (A7 ws none (some (i:Int))));refine ⟨_,rfl,_,rfl,d,_,1,_,rfl,rfl,t1.tseq sd,O2 _ _,_,_,rfl,rfl,_,rfl,wl,_,rfl,SqL.of (t1 _ _ hwl2),λ u2 k2=>?_⟩;have t2:=Same.new k2 (.lst (A7 ws (some ((i:Int)+1)) none));have l1:=C7 ws none (some (i:Int));have l2:=C7 ws (some ((i:Int)+1)) none;refine ⟨u1,u2,_,_,rfl,rfl,t2 _ _ upd_same,upd_same,by omega,λ u3 k3=>?_⟩;refine ⟨u3,rfl,t1.trans (t2.trans (Same.new k3 _)),?_⟩;rw [upd_same,show A7 ws none (some (i:Int))=ws.take i from X6 ws i (by omega),show A7 ws (some ((i:Int)+1)) none=ws.drop (i+1) from T0 ws (i+1) (by omega)];rfl
  intro σ3 H3 hM_; refine C6 λ G_ hG_=>?_; obtain ⟨u3,rfl,e3,hu3⟩:=hM_; subst hG_;have pl3:aL (FrT H3) (G8 ws i) (G8 (P5 z kt kg hs) i):=Paired.imp' (λ _ _ r=>r.same e3) (a3k pws2 i);refine ⟨_,rfl,_,rfl,u3,nl,_,ns,_,_,rfl,hu3,e3 _ _ hnl,O3 pl3,fl.same e3,by have:=a0U (l:=ws) (i:=i); omega,λ l H4 e4 hl=>?_⟩;exact ⟨_,rfl,d,_,0,_,rfl,rfl,(e3.trans e4).tseq sd,G3 _ _,rfl,_,rfl,D6 ⟨_,rfl,q _ _ (e02.trans (e3.trans e4).to1) (L2.same (e3.trans e4)) hl⟩⟩
 ·have sd:=SqT.of (K:=K) (e02.get L hd nofun)
  refine ⟨_,rfl,d,_,0,_,rfl,rfl,sd,W4 _ _ _,rfl,_,rfl,D6 ?_⟩;refine ⟨λ σ' H'=>σ'=[some (.ref pl),some (.ref lt),some (.ref d),some (.str z),some (.ref wl),some (.ref nl),none]/\H'=H2,?_,?_⟩
  ·exact ⟨_,rfl,d,_,0,_,rfl,rfl,sd,W4 _ _ _,rfl,_,rfl,D6 ⟨rfl,rfl⟩⟩
  intro σ3 H3 hM_; refine C6 λ G_ hG_=>?_; obtain ⟨rfl,rfl⟩:=hM_; subst hG_;refine ⟨_,rfl,_,rfl,wl,nl,ws,ns,_,_,rfl,hwl2,hnl,O3 pws2,fl,by omega,λ l H4 e4 hl=>?_⟩;exact ⟨_,rfl,d,_,0,_,rfl,rfl,e4.tseq sd,W4 _ _ _,rfl,_,rfl,D6 ⟨_,rfl,q _ _ (e02.trans e4.to1) (L2.same e4) hl⟩⟩
 ·have sd:=SqT.of (K:=K) (e02.get L hd nofun)
  have at0:N5 [V.str "back"] 0=some (V.str "back"):=v7 (j:=0) rfl;exact ⟨_,rfl,d,_,0,_,rfl,rfl,sd,at0,rfl,_,rfl,O1 (q _ _ e02 L2 .non)⟩
end
end Rim
namespace L2
open PySem
def b4J (t:TE):TE:=λ σ H Q=>∃ M:V->Hp->Prop,t σ H M/\∀ v H',M v H'->Q v H'
theorem b0H {X:Cx} {e:Expr} {t:TE} (h:PE X e t):PE X e (b4J t):=λ pins s σ H Q I ⟨M,h1,h2⟩=>y9 (h pins s σ H M I h1) λ v s' ⟨x,H',I',r,q⟩=>⟨x,H',I',r,h2 x H' q⟩
end L2
namespace Rim
open PySem L2 Fr
theorem b1z:bootBuiltins "str"=some (.type "str"):=by decide +kernel
section
variable {P:Program} {w:World} {K:W.Frag} {mg:Str->Option Value} {base:Heap} {f C Pt:Addr} {fd:FuncData} {n:Nat}
abbrev b3S:List Str:=["script","heads","counts","sizes","kept","past","cell","picks","many","number","house","deeds","deed","later","found","kin"]
theorem scLaw:j8 b3S ["script"] (h8 a0x):=⟨rfl,rfl,rfl,by decide +kernel,rfl,by decide +kernel,by decide +kernel⟩
structure Calls (P:Program) (w:World) (K:W.Frag) (mg:Str->Option Value) (base:Heap) (n:Nat) (C Pt:Addr) (a1 a2 a3 a4 a5 a6 a7 a8:Addr) (d1 d2 d3 d4 d5 d6 d7 d8:FuncData):Prop where
 ce:Cal P w K mg base n "_law_cell_at" ["script","k"] (a9T K) a1 d1
 dw:Cal P w K mg base n "_law_draws" ["cell","many","base"] (a6j K) a2 d2
 ho:Cal P w K mg base n "_law_a_house" ["counts","picks"] (a6T K) a3 d3
 la:Cal P w K mg base n "_law_a_later" ["past","deed","counts"] (a3T K) a4 d4
 tr:Cal P w K mg base n "_law_tried" ["kept","deed"] (Z8 K C Pt) a5 d5
 du:Cal P w K mg base n "_law_due_kin" ["name"] a9L a6 d6
 ad:Cal P w K mg base n "_law_a_due" ["past","later","deed","sizes"] (a6K K Pt) a7 d7
 kr:Cal P w K mg base n "_law_kept_right" ["kept","book","sizes"] (a5x K C Pt) a8 d8
structure b1V (P:Program) (w:World) (K:W.Frag) (mg:Str->Option Value) (base:Heap) (C fi:Addr) (di:FuncData):Prop where
 mak:Mk K C fi
 ok:∀ m:Nat,FnOk P w K mg base D7 (m+1) fi di ["self","takes","gives","sizes"] (a4b K C)
 bd:Binds K di ["self","takes","gives","sizes"] []
 m:mg "Kept"=some (.ref C)
abbrev b4A (P:Program) (w:World) (K:W.Frag) (mg:Str->Option Value) (base:Heap) (f:Addr) (cdv:Value) (A:Around) (outer:List Env) (s:Shared) (H:Hp) (E:XK):Cx:=(J1 D7 P w K mg base b3S "law" (h8 a0x) f cdv A outer s H E).nox
variable {cdv:Value} {A:Around} {outer:List Env} {s:Shared} {H:Hp} {E:XK} {a1 a2 a3 a4 a5 a6 a7 a8 fi:Addr} {d1 d2 d3 d4 d5 d6 d7 d8 di:FuncData}
abbrev nth (i:Nat):Stmt:=(t0 a0x).getD i (.Pass ⟨0,0,0,0⟩)
noncomputable def b2r (T:u0 mg) (hst:mg "str"=none) (Cs:Calls P w K mg base n C Pt a1 a2 a3 a4 a5 a6 a7 a8 d1 d2 d3 d4 d5 d6 d7 d8) (hr:Room n (A.deeper (cU "law" (h8 a0x) s.heap.objs.size f cdv))):{ t:TS // PS (b4A P w K mg base f cdv A outer s H E) (nth 5) t } :=
 ⟨_,a0l PassesOwn.never rfl (M6 (b0H (j6 x4 (r6 (a0 (m9 Cs.ce.ok hr rfl Cs.ce.m Cs.ce.k Cs.ce.b .nil t7 (a0 (pv 0) (a0 g0 d0))) d0)) (A0 B6 (pv 0) (A4 g0) (A4 g0))))) (m5 (i:=6) scLaw.nd rfl (aC rfl))
  (p7 (m4 (i:=7) scLaw.nd rfl (aC rfl) (m9 Cs.dw.ok hr rfl Cs.dw.m Cs.dw.k Cs.dw.b .nil t7 (a0 (pv 6) (a0 g0 (a0 g0 d0)))))
  (p7 (m4 (i:=8) scLaw.nd rfl (aC rfl) (j3 j7 rfl T.len bE (a0 (j5 j4 (pv 5) (C8 x9 g0) (λ _ _=>rfl)) d0)))
  (p7 (m4 (i:=9) scLaw.nd rfl (aC rfl) (j5 j4 (r6 (a0 (j6 C5 (j5 j4 (pv 7) g0 (λ _ _=>rfl)) (j6 D0 (pv 8) g0)) (a0 (C8 x9 g0) (a0 (pv 8) d0)))) (j3 (a2V rfl) rfl T.max gS (a0 g0 (a0 (j6 a2v (j6 C5 (j5 j4 (pv 7) g0 (λ _ _=>rfl)) g0) g0) d0))) (λ _ _=>rfl)))
  (p7 (m4 (i:=10) scLaw.nd rfl (aC rfl) (m9 Cs.ho.ok hr rfl Cs.ho.m Cs.ho.k Cs.ho.b .nil t7 (a0 (pv 2) (a0 (pv 7) d0))))
  (i7 (m4 (i:=11) scLaw.nd rfl (aC rfl) (r6 (a0 (G5 (a0 u9 (a0 (pv 10) d0))) (a0 (G5 (a0 u9 (a0 (pv 10) d0))) (a0 (G5 (a0 u9 (a0 (pv 9) d0))) (a0 (G5 (a0 u9 d0)) d0))))))
  (p7 (m4 (i:=12) scLaw.nd rfl (aC rfl) (j5 j4 (j6 x4 (pv 11) (r6 (a0 (G5 (a0 u9 (a0 (pv 9) (a0 (pv 10) d0)))) d0))) (j6 C5 (j5 j4 (pv 7) g0 (λ _ _=>rfl)) g0) (λ _ _=>rfl)))
  (p7 (m4 (i:=13) scLaw.nd rfl (aC rfl) (m9 Cs.la.ok hr rfl Cs.la.m Cs.la.k Cs.la.b .nil t7 (a0 (pv 5) (a0 (pv 12) (a0 (pv 2) d0)))))
  (p7 (K7 (m9 Cs.tr.ok hr rfl Cs.tr.m Cs.tr.k Cs.tr.b .nil t7 (a0 (pv 4) (a0 (pv 12) d0))) (a0r rfl (p8 (m5 (i:=14) scLaw.nd rfl (aC rfl)) (p8 (m5 (i:=15) scLaw.nd rfl (aC rfl)) D3))))
  (p7 (w6 (T9 (j3 W2 rfl T.isi dE (a0 (pv 13) (a0 (Y5 (v:=.ty "str") rfl hst b1z rfl) d0))))
   (j0 (w6 (m6 (X4 hr) (pv 15) (m9 Cs.du.ok hr rfl Cs.du.m Cs.du.k Cs.du.b .nil t7 (a0 (pv 13) d0)) (p6 _)) a0N r9))
   (j0 (w6 (PW.pt (a4A (m6 (X4 hr) (pv 15) (r6 d0) (p6 _)) (a1P (m6 (X4 hr) (pv 14) (m9 Cs.ad.ok hr rfl Cs.ad.m Cs.ad.k Cs.ad.b .nil t7 (a0 (pv 5) (a0 (pv 13) (a0 (pv 12) (a0 (pv 3) d0))))) (p6 _))))) a0N
    (j0 (w6 (m6 M4 (j5 x5 (pv 12) g0 (λ _ _=>rfl)) u9 (p6 _))
     (j0 (B8 (a8L dR kQ kS a8O (pv 5))))
     (j0 (B8 (a1Z dR eY eZ J8 (pv 5) (a0 (pv 13) d0)))))))))
  (j0 (w6 (V4 (T9 (m9 Cs.kr.ok hr rfl Cs.kr.m Cs.kr.k Cs.kr.b .nil t7 (a0 (pv 4) (a0 (j5 j4 (pv 5) (C8 x9 g0) (λ _ _=>rfl)) (a0 (pv 3) d0)))))) a0N r9)))))))))))⟩
noncomputable def b5T (T:u0 mg) (hst:mg "str"=none) (M:b1V P w K mg base C fi di) (Cs:Calls P w K mg base (n+2) C Pt a1 a2 a3 a4 a5 a6 a7 a8 d1 d2 d3 d4 d5 d6 d7 d8) (hr:Room (n+2) (A.deeper (cU "law" (h8 a0x) s.heap.objs.size f cdv))):{ t:TS // PSs (b4A P w K mg base f cdv A outer s H E) (t0 a0x) t } :=
 ⟨_,i7 (m4 (i:=1) scLaw.nd rfl (aC rfl) (m9 Cs.dw.ok hr rfl Cs.dw.m Cs.dw.k Cs.dw.b .nil t7 (a0 (m9 Cs.ce.ok hr rfl Cs.ce.m Cs.ce.k Cs.ce.b .nil t7 (a0 (pv 0) (a0 g0 d0))) (a0 g0 (a0 g0 d0)))))
  (p7 (m4 (i:=2) scLaw.nd rfl (aC rfl) (G5 (a0 (j6 D0 g0 (j6 C5 (j5 j4 (pv 1) g0 (λ _ _=>rfl)) g0)) (a0 (j6 D0 g0 (j6 C5 (j5 j4 (pv 1) g0 (λ _ _=>rfl)) g0)) d0))))
  (p7 (m4 (i:=3) scLaw.nd rfl (aC rfl) (j5 j4 (r6 (a0 u9 (a0 u9 (a0 u9 (a0 u9 d0))))) (j6 C5 (j5 j4 (pv 1) g0 (λ _ _=>rfl)) g0) (λ _ _=>rfl)))
  (p7 (m4 (i:=4) scLaw.nd rfl (aC rfl) (a7c M.mak (M.ok n) hr rfl M.m M.bd .nil t7 (a0 (j5 x5 (pv 2) g0 (λ _ _=>rfl)) (a0 (j5 x5 (pv 2) g0 (λ _ _=>rfl)) (a0 (pv 3) d0)))))
  (p7 (m4 (i:=5) scLaw.nd rfl (aC rfl) (r6 (a0 (r6 d0) d0)))
  (p7 (b2r T hst Cs hr).2
  (j0 (o4 a2X)))))))⟩
end
def BkA (K:W.Frag) (H:Hp) (a:Addr) (hs:List i9):Prop:=∃ xs,H a=some (.lst xs)/\Bk K H xs hs
structure Iv31 (K:W.Frag) (C Pt:Addr) (H:Hp) (o:Kq) (pl:Addr) (as:List Addr) (S:KS):Prop where
 lt:LT Pt H
 ko:KO K C H [o.pa,pl] o S
 hl:H pl=some (.lst (as.map V.ref))
 al:aL (BkA K H) as (S.2++[S.1])
 nn:∀ a∈as,a ∉ [o.pa,pl]
 np:o.pa≠pl
section
variable {K:W.Frag} {C Pt:Addr} {H H':Hp} {o:Kq} {pl:Addr} {as:List Addr} {S S':KS} {Ws:List Addr}
theorem a3j {ms:List (List i9)} (t:Tr Ws H H') (nn:∀ a∈as,a ∉ Ws) (al:aL (BkA K H) as ms):aL (BkA K H') as ms:=by
 obtain ⟨X,e,k⟩:=t
 induction al with
 | nil=>exact .nil
 | cons r _ ih =>
  obtain ⟨xs,h1,h2⟩:=r;exact .cons ⟨xs,e.k _ _ (k _ _ (nn _ (.head _)) h1) h1,h2.fr0 e⟩ (ih λ a ha=>nn a (.tail _ ha))
theorem Iv31.same (e:Same H H') (i:Iv31 K C Pt H o pl as S):Iv31 K C Pt H' o pl as S:=⟨i.lt.same e,i.ko.same e,e _ _ i.hl,a3j (Tr.same e) i.nn i.al,i.nn,i.np⟩
theorem Iv31.same1 (e:Same1 Pt H H') (L:LT Pt H') (i:Iv31 K C Pt H o pl as S):Iv31 K C Pt H' o pl as S:=⟨L,i.ko.same1 i.lt e,e.get i.lt i.hl nofun,a3j (Tr.same1 i.lt e) i.nn i.al,i.nn,i.np⟩
theorem Iv31.done {lo lo':List Addr} (i:Iv31 K C Pt H o pl as S) (nlo:∀ b∈lo,b ∉ [o.pa,pl]) (kp:KpS K C H' o.p o.kt o.kg o.z S' o.pa lo') (ok:OkS o.z o.kt o.kg S') (lf:Left Pt o.p o.pa H H') (sub:∀ b∈lo',b∈lo\/H b=none):KO K C H' [o.pa,pl] o S'/\Tr [o.pa,pl] H H'/\H' pl=some (.lst (as.map V.ref)):=by
 obtain ⟨pv,hpa⟩:=i.ko.pa';obtain ⟨dx,fs,hp⟩:=i.ko.p';refine ⟨⟨lo',kp,λ b hb hm=>?_,ok⟩,Tr.left i.lt i.ko (.head _) lf,lf pl _ (x6 i.hl hp nofun) (i.lt.ne i.hl nofun) i.np.symm i.hl⟩;rcases sub b hb with h | h
 ·exact nlo b h hm
 ·rcases aH.mp hm with rfl | hm
  ·rw [hpa] at h; cases h
  ·rw [aY.mp hm,i.hl] at h; cases h
theorem Iv31.put {vs:List V} (lt:LT Pt H) (ko:KO K C H [o.pa,pl] o S) (hl:H pl=some (.lst vs)) (al:aL (BkA K H) as (S.2++[S.1])) (nn:∀ a∈as,a ∉ [o.pa,pl]) (np:o.pa≠pl):Iv31 K C Pt (upd H pl (.lst (as.map V.ref))) o pl as S :=
 ⟨lt.write hl,ko.write hl (.tail _ (.head _)) np,upd_same,a3j (Tr.write hl (.tail _ (.head _))) nn al,nn,np⟩
def b1Q (K:W.Frag) (C Pt:Addr) (H:Hp) (o:Kq) (pl:Addr) (S:KS) (lo:List Addr) (d:Addr) (later:V):Prop :=
 (∃ (nm:Str) (b1 b2 b3 b4 b5 b6:Bool),later=.str nm/\a7T nm=a0E b1 b2 b3 b4 b5 b6/\∀ Q E,W3 H (a0E b1 b2 b3 b4 b5 b6) Q->Z8 K C Pt [.ref o.p,.ref d] H Q E) ∨
 (∃ (S':KS) (D:PyData) (lt:Addr) (w:Str) (rest:List V),later=.ref lt/\BkA K H lt S'.1/\lt ∉ [o.pa,pl]/\H d=some (.tup (.str w::rest))/\((w="back"/\S.2=S'.2++[S'.1])\/(w≠"back"/\S'.2=S.2++[S.1])) ∧
  ((∃ (v:V) (h:i9),H d=some (.tup [.str "come",v])/\S'.1=S.1++[h]/\D=a0h o.z o.kt o.kg S.1 h)\/(∃ i:Nat,H d=some (.tup [.str "go",.int (i:Int)])/\i<S.1.length/\D=V6 (G8 (P5 o.z o.kt o.kg S.1) i) (P5 o.z o.kt o.kg S'.1))\/(∃ (num:Int) (v:V),H d=some (.tup [.str "alter",.int num,v])/\D=V6 (P5 o.z o.kt o.kg S.1) (P5 o.z o.kt o.kg S'.1))\/(H d=some (.tup [.str "back"])/\D=.none)) ∧
  D.canLay0=true/\D.depth<=60/\∀ Q E,a1Q K C Pt H o lo S' Q D->Z8 K C Pt [.ref o.p,.ref d] H Q E)
theorem a8o (z:Str) (kt kg:Nat) (hs:List i9) (h:i9):(a0h z kt kg hs h).canLay0=true:=by
 unfold a0h;rw [PyData.canLay0,PyData.canLayAll0,PyData.canLayAll0,PyData.canLayAll0,a1u,a4h]; rfl
theorem a8z (z:Str) (kt kg:Nat) (hs:List i9) (h:i9):(a0h z kt kg hs h).depth<=60:=by
 unfold a0h;have a:=a3u ((P5 z kt kg (hs++[h])).getLastD (0,0));have b:=a3N (P5 z kt kg hs) (P5 z kt kg (hs++[h])).dropLast;simp only [PyData.depth,PyData.depthAll];omega
theorem a8E:a7T "NoBook"=a0E true false false false false false:=by decide
theorem a9n:a7T "NoHouse"=a0E false true false false false false:=by decide
theorem b2n:a7T "TooMany"=a0E false false false false true false:=by decide
theorem b2D:a7T "NothingLeft"=a0E false false false false false true:=by decide
theorem a3E {b1 b2 b3 b4 b5 b6:Bool}:(a6f b1 b2 b3 b4 b5 b6).canLay0=true:=by rfl
theorem b3D {c d:Addr} {num:Int} {v:V} {h:i9} {Q:VK} {E:XK} {lo:List Addr} (i:Iv31 K C Pt H o pl as S) (kp:KpS K C H o.p o.kt o.kg o.z S o.pa lo) (ok:OkS o.z o.kt o.kg S) (ft:Fit o.z o.kt o.kg) (hp:S.2.length<=800) (hc:H c=some (.tup [.int (o.kt:Int),.int (o.kg:Int)])) (hv:HS K H v h) (sm:K4 h) (so:a2M h) (hn:num.natAbs.log2<1920)
  (hd:H d=some (.tup [.str "come",v])\/H d=some (.tup [.str "go",.int num])\/H d=some (.tup [.str "alter",.int num,v])\/H d=some (.tup [.str "back"])) (q:∀ later H',Same H H'->b1Q K C Pt H' o pl S lo d later->Q later H'):a3T K [.ref pl,.ref d,.ref c] H Q E:=by
 have la:as.length=S.2.length+1:=by have:=E4 i.al; rw [aM] at this; exact this
 obtain ⟨init,b,rfl,li⟩:=J4 la;obtain ⟨al0,xs,hb,hB⟩:=A3 i.al;have ok1:OkK o.z o.kt o.kg S.1:=ok S.1 (bS _ (.head _));have xl:xs.length=S.1.length:=Paired.length hB;have fresh:∀ r,H r=none->r ∉ [o.pa,pl]:=λ r hr hm=>by
  obtain ⟨pv,hpa⟩:=i.ko.pa';rcases aH.mp hm with rfl | hm
  ·rw [hpa] at hr; cases hr
  ·rw [aY.mp hm,i.hl] at hr; cases hr
 refine ⟨pl,d,c,b,init,xs,S.1,o.kt,o.kg,rfl,i.hl,by omega,hb,hB,ok1.m,SqT.of hc,?_⟩;rcases hd with hd | hd | hd | hd
 ·refine .inl ⟨v,h,hd,hv,sm,so,λ g l r H' e hr0 hr=>q _ _ e (.inr ⟨(S.1++[h],S.2++[S.1]),_,r,_,_,rfl,⟨_,hr,Paired.app (Bk.same e hB) (.cons (hv.same e) .nil)⟩,fresh r hr0,e _ _ hd,.inr ⟨by decide,rfl⟩,.inl ⟨v,h,e _ _ hd,rfl,rfl⟩,a8o ..,a8z ..,λ Q1 E1 D1=>?_⟩),λ ng H' e=>q _ _ e (.inl ⟨_,_,_,_,_,_,_,rfl,a8E,λ Q1 E1 R1=>?_⟩),λ g l H' e=>q _ _ e (.inl ⟨_,_,_,_,_,_,_,rfl,b2n,λ Q1 E1 R1=>?_⟩)⟩
  ·exact ⟨o,S,lo,d,rfl,kp.same e,ft,ok,by omega,i.lt.same e,.inl ⟨v,h,e _ _ hd,hv.same e,sm,λ _ _=>D1,λ ng=>absurd g ng,λ _ l16=>absurd l (by omega)⟩⟩
  ·exact ⟨o,S,lo,d,rfl,kp.same e,ft,ok,by omega,i.lt.same e,.inl ⟨v,h,e _ _ hd,hv.same e,sm,λ g=>absurd g ng,λ _=>R1,λ g=>absurd g ng⟩⟩
  ·exact ⟨o,S,lo,d,rfl,kp.same e,ft,ok,by omega,i.lt.same e,.inl ⟨v,h,e _ _ hd,hv.same e,sm,λ _ l16=>absurd l (by omega),λ ng=>absurd g ng,λ _ _=>R1⟩⟩
 ·refine .inr (.inl ⟨num,hd,λ k ek lk r H' e hr0 hr=>q _ _ e (.inr ⟨(G8 S.1 k,S.2++[S.1]),_,r,_,_,rfl,⟨_,hr,a3k (Bk.same e hB) k⟩,fresh r hr0,e _ _ hd,.inr ⟨by decide,rfl⟩,.inr (.inl ⟨k,ek ▸ e _ _ hd,lk,rfl⟩),a4h ..,aZ (a3N ..) (by decide),λ Q1 E1 D1=>?_⟩),λ ng=>q _ _ (Same.refl _) (.inl ⟨_,_,_,_,_,_,_,rfl,a9n,λ Q1 E1 R1=>?_⟩)⟩)
  ·refine ⟨o,S,lo,d,rfl,kp.same e,ft,ok,by omega,i.lt.same e,.inr (.inl ⟨num,e _ _ hd,hn,λ k' ek' _=>?_,λ ng=>absurd ⟨by omega,by omega⟩ ng⟩)⟩
   have:k'=k:=by omega
   subst this;exact D1
  ·exact ⟨o,S,lo,d,rfl,kp,ft,ok,by omega,i.lt,.inr (.inl ⟨num,hd,hn,λ k' ek' lk'=>absurd ⟨by omega,by omega⟩ ng,λ _=>R1⟩)⟩
 ·refine .inr (.inr (.inl ⟨num,v,h,hd,hv,sm,so,λ k ek lk g r H' e hr0 hr=>q _ _ e (.inr ⟨(a0n S.1 k h,S.2++[S.1]),_,r,_,_,rfl,⟨_,hr,Paired.app (Paired.app (Paired.take k (Bk.same e hB)) (.cons (hv.same e) .nil)) (Paired.drop (k+1) (Bk.same e hB))⟩,fresh r hr0,e _ _ hd,.inr ⟨by decide,rfl⟩,.inr (.inr (.inl ⟨num,v,e _ _ hd,rfl⟩)),a4h ..,aZ (a3N ..) (by decide),λ Q1 E1 D1=>?_⟩),λ ng=>q _ _ (Same.refl _) (.inl ⟨_,_,_,_,_,_,_,rfl,a9n,λ Q1 E1 R1=>?_⟩),λ gn ng H' e=>q _ _ e (.inl ⟨_,_,_,_,_,_,_,rfl,a8E,λ Q1 E1 R1=>?_⟩)⟩))
  ·refine ⟨o,S,lo,d,rfl,kp.same e,ft,ok,by omega,i.lt.same e,.inr (.inr (.inl ⟨num,v,h,e _ _ hd,hn,hv.same e,sm,λ k' ek' _ _=>?_,λ ng=>absurd ⟨by omega,by omega⟩ ng,λ _ ng=>absurd g ng⟩))⟩
   have:k'=k:=by omega
   subst this;exact D1
  ·exact ⟨o,S,lo,d,rfl,kp,ft,ok,by omega,i.lt,.inr (.inr (.inl ⟨num,v,h,hd,hn,hv,sm,λ k' ek' lk'=>absurd ⟨by omega,by omega⟩ ng,λ _=>R1,λ gn=>absurd gn ng⟩))⟩
  ·exact ⟨o,S,lo,d,rfl,kp.same e,ft,ok,by omega,i.lt.same e,.inr (.inr (.inl ⟨num,v,h,e _ _ hd,hn,hv.same e,sm,λ k' ek' lk' g=>absurd g ng,λ bad=>absurd gn bad,λ _ _=>R1⟩))⟩
 ·refine .inr (.inr (.inr ⟨hd,λ e0=>q _ _ (Same.refl _) (.inl ⟨_,_,_,_,_,_,_,rfl,b2D,λ Q1 E1 R1=>?_⟩),λ i' a' e0=>?_⟩))
  ·have e1:S.2=[]:=gA (by rw [<- li,e0]; rfl)
   exact ⟨o,S,lo,d,rfl,kp,ft,ok,by omega,i.lt,.inr (.inr (.inr ⟨hd,λ hs0 p0 e2=>by rw [e1] at e2; simp at e2,λ _=>R1⟩))⟩
  ·obtain ⟨p0,hs0,e1,_⟩:=J4 (l:=S.2) (k:=i'.length) (by rw [<- li,e0]; simp)
   have al1:aL (BkA K H) (i'++[a']) (p0++[hs0]):=by rw [<- e0,<- e1]; exact al0
   refine q _ _ (Same.refl _) (.inr ⟨(hs0,p0),.none,a',_,_,rfl,(A3 al1).2,i.nn a' (by rw [e0]; simp),hd,.inl ⟨rfl,e1⟩,.inr (.inr (.inr ⟨hd,rfl⟩)),rfl,by decide,λ Q1 E1 D1=>?_⟩);refine ⟨o,S,lo,d,rfl,kp,ft,ok,by omega,i.lt,.inr (.inr (.inr ⟨hd,λ hs1 p1 e2=>?_,λ e2=>by rw [e1] at e2; simp at e2⟩))⟩;rw [e1] at e2;have ee:=List.append_inj' e2 rfl;have e3:hs0=hs1:=by have:=ee.2; simp at this; exact this
   have e4:=ee.1;subst e3 e4;exact D1
theorem a7s {a:Addr} {xs:List V} (T:LT Pt H) (e:Same1 Pt H H') (h:SqL K H a xs):SqL K H' a xs:=by
 rcases h with (h | ⟨o,h⟩) | h
 ·exact .inl (.inl (e.get T h nofun))
 ·exact .inl (.inr ⟨o,e.get T h nofun⟩)
 ·exact .inr h
mutual
theorem Dp.same1 (T:LT Pt H) (e:Same1 Pt H H'):∀ {x:V} {d:PyData},Dp K H x d->Dp K H' x d
 | _,_,.non=>.non
 | _,_,.bl b=>.bl b
 | _,_,.int i=>.int i
 | _,_,.str x=>.str x
 | _,_,.lst h r=>.lst (a7s T e h) (Dps.same1 T e r)
 | _,_,.tup h r=>.tup (SqT.same1 T e h) (Dps.same1 T e r)
theorem Dps.same1 (T:LT Pt H) (e:Same1 Pt H H'):∀ {xs:List V} {ds:List PyData},Dps K H xs ds->Dps K H' xs ds
 | _,_,.nil=>.nil
 | _,_,.cons a r=>.cons (Dp.same1 T e a) (Dps.same1 T e r)
end
theorem b0v {b1 b2 b3 b4 b5 b6:Bool}:(a6f b1 b2 b3 b4 b5 b6).depth<=60:=by
 unfold a6f;simp [PyData.depth,PyData.depthAll]
theorem Iv31.last (i:Iv31 K C Pt H o pl as S):∃ (init:List Addr) (b:Addr),as=init++[b]/\init.length=S.2.length/\N5 (as.map V.ref) (-1)=some (V.ref b)/\aL (BkA K H) init S.2/\BkA K H b S.1:=by
 obtain ⟨init,b,e,li⟩:=J4 (l:=as) (k:=S.2.length) (by have:=E4 i.al; rw [aM] at this; exact this);have al:=i.al;rw [e] at al;exact ⟨init,b,e,li,by rw [e,aW]; exact a1R _ _,(A3 al).1,(A3 al).2⟩
theorem b3T {b:Addr} {Q:VK} {E:XK} (i:Iv31 K C Pt H o pl as S) (ft:Fit o.z o.kt o.kg) (hb:BkA K H b S.1) (q:∀ H',Same1 Pt H H'->LT Pt H'->Q (.bl true) H'):a5x K C Pt [.ref o.p,.ref b,.str o.z] H Q E:=by
 obtain ⟨lo,kp,_,ok⟩:=i.ko;obtain ⟨xs,h1,h2⟩:=hb;exact ⟨o,S,lo,b,xs,rfl,kp,ft,ok,i.lt,h1,h2,q⟩
end
theorem b3k {K:W.Frag}:W.kitOne K (.type "list") (.type "str")=some false:=by
 unfold W.kitOne;rw [if_neg (by decide)];rfl
theorem b2y {K:W.Frag}:W.kitOne K (.type "str") (.type "str")=some true:=M9 _
section
variable {P:Program} {w:World} {K:W.Frag} {mg:Str->Option Value} {base:Heap} {f C Pt:Addr} {fd:FuncData} {n:Nat}
def a6q (K:W.Frag) (Pt:Addr):Sp:=λ vs H Q _=>∃ (a:Addr) (ns:List Int),vs=[.ref a]/\SqL K H a (ns.map V.int)/\ns.length<=63/\LT Pt H/\∀ H',Q (.bl true) H'
abbrev b3j:List V:=[V.str "any",V.str "one",V.str "less",V.str "more"]
theorem b3f {i:Int} (h0:0<=i) (h4:i<4):∃ z,N5 b3j i=some (.str z)/\Szw z:=by
 have:i=0\/i=1\/i=2\/i=3:=by omega
 rcases this with rfl | rfl | rfl | rfl
 ·exact ⟨"any",rfl,.inl rfl⟩
 ·exact ⟨"one",rfl,.inr (.inl rfl)⟩
 ·exact ⟨"less",rfl,.inr (.inr (.inl rfl))⟩
 ·exact ⟨"more",rfl,.inr (.inr (.inr rfl))⟩
theorem a3o {k:Int} (h0:0<=k) (h:k<=1000):k.natAbs.log2<1920:=by
 have:=O6 (j:=k.toNat) (by omega)
 rwa [Int.toNat_of_nonneg h0] at this
theorem b3d {a1 a2 a3 a4 a5 a6 a7 a8 fi:Addr} {d1 d2 d3 d4 d5 d6 d7 d8 di:FuncData} (F:Fun K "law" "law" a0x f fd) (T:u0 mg) (hst:mg "str"=none) (M:b1V P w K mg base C fi di) (Cs:Calls P w K mg base (n+2) C Pt a1 a2 a3 a4 a5 a6 a7 a8 d1 d2 d3 d4 d5 d6 d7 d8) :
  FnOk P w K mg base D7 (n+3) f fd ["script"] (a6q K Pt):=by
 refine F.ok scLaw (λ vs H Q E h=>?_) (λ cdv A outer s H vs Q E hr h=>?_)
 ·obtain ⟨a,ns,rfl,_⟩:=h
  rfl
 obtain ⟨a,ns,rfl,hS,h63,LTH,q⟩:=h;refine ⟨_,(b5T T hst M Cs hr).2,?_⟩;refine ⟨_,rfl,a,ns,0,rfl,hS,by decide,λ c0=>?_⟩;refine ⟨_,4,1000,rfl,by decide,by decide,by decide,λ hd H1 ds e1 hhd ld bd=>?_⟩;have at5:∀ k:Nat,k<4->∃ v,v∈ds/\N5 (ds.map V.int) (k:Int)=some (.int v):=λ k hk=>a7g (by omega) (by omega);have L1:=LTH.same e1;have hS1:=e1.seq hS;refine ⟨λ σ' H'=>∃ ca kt kg,σ'=[some (.ref a),some (.ref hd),some (.ref ca),none,none,none,none,none,none,none,none,none,none,none,none,none]/\Same H1 H'/\H' ca=some (.tup [.int ((kt:Nat):Int),.int ((kg:Nat):Int)])/\1<=kt/\kt<=3/\1<=kg/\kg<=3,?_,?_⟩
 ·obtain ⟨v0,m0,i0⟩:=at5 0 (by decide)
  obtain ⟨v1,m1,i1⟩:=at5 1 (by decide);have b0:=bd v0 m0;have b1:=bd v1 m1;refine ⟨_,rfl,hd,_,0,_,rfl,rfl,SqL.of hhd,i0,_,_,rfl,rfl,(by show (0:Int)<3; decide),_,_,rfl,rfl,_,rfl,hd,_,1,_,rfl,rfl,SqL.of hhd,i1,_,_,rfl,rfl,(by show (0:Int)<3; decide),_,_,rfl,rfl,(by show 2<=sizeLine; decide),λ ca hca=>?_⟩;refine ⟨ca,(1+v0 % 3).toNat,(1+v1 % 3).toNat,rfl,Same.new hca _,?_,by omega,by omega,by omega,by omega⟩;rw [upd_same,show (((1+v0 % 3).toNat:Nat):Int)=1+v0 % 3 by omega,show (((1+v1 % 3).toNat:Nat):Int)=1+v1 % 3 by omega]
 intro σ2 H2 hM_; refine C6 λ G_ hG_=>?_; obtain ⟨ca,kt,kg,rfl,e2,hca,kt1,kt2,kg1,kg2⟩:=hM_; subst hG_;have hhd2:=e2 _ _ hhd;refine ⟨λ σ' H'=>∃ z,σ'=[some (.ref a),some (.ref hd),some (.ref ca),some (.str z),none,none,none,none,none,none,none,none,none,none,none,none]/\Same H2 H'/\Szw z,?_,?_⟩
 ·obtain ⟨v2,m2,i2⟩:=at5 2 (by decide)
  have b2:=bd v2 m2;refine ⟨(by show 4<=sizeLine; decide),λ sl hsl=>?_⟩;have s1:=Same.new hsl (.lst b3j);obtain ⟨z,hz1,hz2⟩:=b3f (i:=v2 % 4) (by omega) (by omega);refine ⟨_,rfl,hd,_,2,_,rfl,rfl,SqL.of (s1 _ _ hhd2),i2,_,_,rfl,rfl,(by show (0:Int)<4; decide),sl,b3j,_,_,rfl,rfl,SqL.of upd_same,hz1,?_⟩;exact ⟨z,rfl,s1,hz2⟩
 intro σ3 H3 hM_; refine C6 λ G_ hG_=>?_; obtain ⟨z,rfl,e3,hz⟩:=hM_; subst hG_;have hca3:=e3 _ _ hca;have ft:Fit z kt kg:=⟨hz,kt1,by omega,by omega⟩;refine ⟨λ σ' H'=>∃ p pa lo,σ'=[some (.ref a),some (.ref hd),some (.ref ca),some (.str z),some (.ref p),none,none,none,none,none,none,none,none,none,none,none]/\Same H3 H'/\H3 pa=none/\KpAt K C H' p kt kg z ([],[]) [] pa lo,?_,?_⟩
 ·refine ⟨_,rfl,ca,_,0,_,rfl,rfl,SqT.of hca3,rfl,_,rfl,ca,_,1,_,rfl,rfl,SqT.of hca3,rfl,_,rfl,λ x dx hx hdx nd=>?_⟩
  exact made (Q:=λ v H'=>∃ p pa lo,v=.ref p/\Same H3 H'/\H3 pa=none/\KpAt K C H' p kt kg z ([],[]) [] pa lo) (E:=E0) (λ p pa lo H4 e4 n1 n2 n3 kp=>⟨p,pa,lo,rfl,e4,n2,kp⟩) x dx hx hdx nd |> λ ⟨p0,dx0,kt0,kg0,z0,e0,h0,k0⟩=>⟨p0,dx0,kt0,kg0,z0,e0,h0,λ H4 pa lo KP k f1 f2=>by
   obtain ⟨_,p,pa,lo,e1,e2,e3,e4⟩:=k0 H4 pa lo KP k f1 f2
   cases e1;exact ⟨rfl,x,pa,lo,rfl,e2,e3,e4⟩⟩
 intro σ4 H4 hM_; refine C6 λ G_ hG_=>?_; obtain ⟨p,pa,lo4,rfl,e4,fpa,kp4⟩:=hM_; subst hG_;have hca4:=e4 _ _ hca3;have hS4:SqL K H4 a (ns.map V.int):=e4.seq (e3.seq (e2.seq hS1));have L4:=((L1.same e2).same e3).same e4;obtain ⟨o,ho⟩:∃ o:Kq,o=⟨p,pa,kt,kg,z⟩:=⟨_,rfl⟩;have hop:o.p=p:=by rw [ho]
 have hot:o.kt=kt:=by rw [ho]
 have hog:o.kg=kg:=by rw [ho]
 have hoz:o.z=z:=by rw [ho]
 have hoa:o.pa=pa:=by rw [ho]
 refine ⟨λ σ' H'=>∃ pl as,σ'=[some (.ref a),some (.ref hd),some (.ref ca),some (.str o.z),some (.ref o.p),some (.ref pl),none,none,none,none,none,none,none,none,none,none]/\Iv31 K C Pt H' o pl as ([],[])/\Same H4 H',?_,?_⟩
 ·refine ⟨(by show 0<=sizeLine; decide),λ al hal=>⟨(by show 1<=sizeLine; decide),λ pl hpl=>?_⟩⟩
  have s5a:=Same.new hal (.lst []);have s5b:=Same.new hpl (.lst [V.ref al]);have s5:=s5a.trans s5b;have nal:al≠pl:=d9 upd_same hpl;obtain ⟨dx4,ta4,wa4,pv4,hp4,_,hpa4,_⟩:=kp4.ex;have npa:o.pa≠pl:=λ z0=>by rw [hoa] at z0; subst z0; rw [s5a _ _ hpa4] at hpl; cases hpl
  refine ⟨pl,[al],by rw [hop,hoz]; rfl,⟨L4.same s5,KO.new (lo:=lo4) (by rw [hop,hot,hog,hoz,hoa]; exact kp4.same s5) (λ b hb hm=>?_),upd_same,.cons ⟨[],by rw [c9 nal]; exact upd_same,.nil⟩ .nil,λ b hb hm=>?_,npa⟩,s5⟩
  ·obtain ⟨zs,hz0⟩:=kp4.ls b hb
   rcases aH.mp hm with rfl | hm
   ·rw [hoa] at hb; exact kp4.no hb
   ·rw [aY.mp hm] at hz0; rw [s5a _ _ hz0] at hpl; cases hpl
  ·rw [aY.mp hb] at hm
   rcases aH.mp hm with z0 | hm
   ·rw [z0,hoa,hpa4] at hal; cases hal
   ·exact nal (aY.mp hm)
 intro σ5 H5 hM_; refine C6 λ G_ hG_=>?_; obtain ⟨pl,as,rfl,iv5,e5⟩:=hM_; subst hG_;have hca5:=e5 _ _ hca4;have hS5:=e5.seq hS4;have ft':Fit o.z o.kt o.kg:=by rw [hot,hog,hoz]; exact ft
 subst hot hog hoz
 clear hop ho
 refine ⟨λ _ _=>True,?_,λ _ _ _=>q _⟩;refine ⟨λ v H'=>∃ (cl:Addr) (cv:List V),v=.ref cl/\Same H5 H'/\H5 cl=none/\H' cl=some (.lst cv)/\(∀ v∈cv,∃ c,v=.int c)/\cv.length<=64,?_,?_⟩
 ·refine ⟨_,rfl,a,ns,1,rfl,hS5,by decide,λ c0=>?_⟩
  refine ⟨(by show 1<=sizeLine; decide),λ l0 hl0=>?_⟩;have f0':=Same.new hl0 (.lst [V.int c0]);refine ⟨_,rfl,_,rfl,_,rfl,a,_,rfl,f0'.seq hS5,λ l1 hl1=>?_⟩;have mc0:∀ (lo hi:Option Int) v,v∈A7 (ns.map V.int) lo hi->∃ c,v=.int c:=λ lo hi v hv=>by
   obtain ⟨c,_,rfl⟩:=bH.mp (b1h hv);exact ⟨c,rfl⟩
  have lc0:∀ (lo hi:Option Int),(A7 (ns.map V.int) lo hi).length<=63:=λ lo hi=>by
   have:=C7 (ns.map V.int) lo hi;rw [aA] at this;omega
  dsimp only at hl1 ⊢;have mc:=mc0 (some 2) (some 25);have lc:=lc0 (some 2) (some 25);generalize A7 (ns.map V.int) (some 2) (some 25)=cs at *;have f1':=Same.new hl1 (.lst cs);refine ⟨l0,l1,_,_,rfl,rfl,f1' _ _ upd_same,upd_same,aZ (show 1+cs.length<=64 by omega) (by show 64<=sizeLine; decide),λ cl hcl=>?_⟩;have f2':=Same.new hcl (.lst ([V.int c0]++cs));refine ⟨cl,[V.int c0]++cs,rfl,f0'.trans (f1'.trans f2'),(f0'.trans f1').free hcl,upd_same,λ v hv=>?_,by simp; omega⟩;rcases aS.mp hv with z | z
  ·exact ⟨c0,aY.mp z⟩
  ·exact mc v z
 rintro _ H6 ⟨cl,cv,rfl,e6,hcl0,hcl6,mcv,lcl⟩;refine ⟨cl,rfl,⟨_,SqL.of hcl6⟩,?_⟩;have itn:∀ (i:Nat) (x:V),cv[i]?=some x->∃ c,x=.int c:=λ i x hx=>mcv x (bV hx);have ncl:cl ∉ [o.pa,pl]:=λ hb=>by
  obtain ⟨pv,hpa⟩:=iv5.ko.pa';rcases aH.mp hb with rfl | hb
  ·rw [hpa] at hcl0; cases hcl0
  ·rw [aY.mp hb,iv5.hl] at hcl0; cases hcl0
 refine a4B (xs:=cv) (λ i σ H'=>∃ o6 o7 o8 o9 o10 o11 o12 o13 o14 o15 as S,σ=[some (.ref a),some (.ref hd),some (.ref ca),some (.str o.z),some (.ref o.p),some (.ref pl),o6,o7,o8,o9,o10,o11,o12,o13,o14,o15]/\Iv31 K C Pt H' o pl as S/\H' ca=some (.tup [.int (o.kt:Int),.int (o.kg:Int)])/\H' cl=some (.lst cv)/\S.2.length<=i)
  ⟨_,_,_,_,_,_,_,_,_,_,as,([],[]),rfl,iv5.same e6,e6 _ _ hca5,hcl6,aE _⟩ (λ i σ H' _ ⟨_,_,_,_,_,_,_,_,_,_,_,_,_,_,_,h,_⟩=>SqL.of h) ?_ ?_
 rotate_left
 ·intro _ _ _; exact trivial
 rintro i xc σ H7 hx ⟨o6,o7,o8,o9,o10,o11,o12,o13,o14,o15,as,S,rfl,iv7,hca7,hcl7,lS⟩;have hil:i<cv.length:=(bN.mp hx).1;obtain ⟨c,rfl⟩:=itn i xc hx;refine ⟨λ σ' H'=>∃ (pk:Addr) (ps:List Int),σ'=[some (.ref a),some (.ref hd),some (.ref ca),some (.str o.z),some (.ref o.p),some (.ref pl),some (.int c),some (.ref pk),o8,o9,o10,o11,o12,o13,o14,o15]/\Same H7 H'/\H' pk=some (.lst (ps.map V.int))/\ps.length=13/\∀ d∈ps,0<=d/\d<1000,?_,?_⟩
 ·exact ⟨_,rfl,c,13,1000,rfl,by decide,by decide,by decide,λ pk H11 ps e11 hpk lp bp=>⟨pk,ps,rfl,e11,hpk,lp,bp⟩⟩
 rintro _ H8 ⟨pk,ps,rfl,e8,hpk,lp,bp⟩;have iv8:=iv7.same e8;have hca8:=e8 _ _ hca7;have hcl8:=e8 _ _ hcl7;obtain ⟨lo,kp8,nlo,ok⟩:=id iv8.ko;have ok1:OkK o.z o.kt o.kg S.1:=ok S.1 (bS _ (.head _));have at13:∀ k:Nat,k<13->∃ v,v∈ps/\N5 (ps.map V.int) (k:Int)=some (.int v):=λ k hk=>a7g (by omega) (by omega);have la:as.length=S.2.length+1:=by have:=E4 iv8.al; rw [aM] at this; exact this
 refine ⟨λ σ' H'=>σ'=[some (.ref a),some (.ref hd),some (.ref ca),some (.str o.z),some (.ref o.p),some (.ref pl),some (.int c),some (.ref pk),some (.int (S.1.length:Int)),o9,o10,o11,o12,o13,o14,o15]/\H8=H',?_,?_⟩
 ·obtain ⟨init,b,rfl,li⟩:=J4 la
  obtain ⟨al0,xs,hb,hB⟩:=A3 iv8.al;have xl:xs.length=S.1.length:=Paired.length hB;have atl:N5 ((init++[b]).map V.ref) (-1)=some (V.ref b):=by rw [aW]; exact a1R _ _
  refine ⟨_,rfl,_,rfl,pl,_,_,_,rfl,rfl,SqL.of iv8.hl,atl,b,xs,rfl,.inl (SqL.of hb),?_⟩;rw [xl];exact ⟨rfl,rfl⟩
 rintro _ _ ⟨rfl,rfl⟩;refine ⟨λ σ' H'=>∃ num:Int,σ'=[some (.ref a),some (.ref hd),some (.ref ca),some (.str o.z),some (.ref o.p),some (.ref pl),some (.int c),some (.ref pk),some (.int (S.1.length:Int)),some (.int num),o10,o11,o12,o13,o14,o15]/\Same H8 H'/\num.natAbs.log2<1920,?_,?_⟩
 ·obtain ⟨v11,m11,i11⟩:=at13 11 (by decide)
  obtain ⟨v12,m12,i12⟩:=at13 12 (by decide);have b11:=bp v11 m11;have b12:=bp v12 m12;have m8:S.1.length<=16:=ok1.m;have pick:∀ k:Int,0<=k->k<=2->∃ num:Int,N5 [V.int (v11 % ((S.1.length:Int)+1)),V.int (-1),V.int (S.1.length:Int)] k=some (.int num)/\num.natAbs.log2<1920:=λ k h0 h2=>by
   have hm:=fO v11 (show ((S.1.length:Int)+1)≠0 by omega);have hM:=fP v11 (show (0:Int)<(S.1.length:Int)+1 by omega);have:k=0\/k=1\/k=2:=by omega
   rcases this with rfl | rfl | rfl
   ·exact ⟨_,rfl,a3o hm (by omega)⟩
   ·exact ⟨_,rfl,by decide⟩
   ·exact ⟨_,rfl,a3o (by omega) (by omega)⟩
  refine ⟨_,rfl,pk,_,11,_,rfl,rfl,SqL.of hpk,i11,_,rfl,_,_,rfl,rfl,_,_,rfl,rfl,(by show (0:Int)<(S.1.length:Int)+1; omega),_,rfl,_,rfl,(by show 3<=sizeLine; decide),λ nl hnl=>?_⟩;have t1:=Same.new hnl (.lst [V.int (v11 % ((S.1.length:Int)+1)),V.int (-1),V.int (S.1.length:Int)]);obtain ⟨num,an,ln⟩:=pick (if v12 % 8 - 5>0 then v12 % 8 - 5 else 0) (by split <;> omega) (by split <;> omega);exact ⟨_,rfl,pk,_,12,_,rfl,rfl,SqL.of (t1 _ _ hpk),i12,_,_,rfl,rfl,(by show (0:Int)<8; decide),_,_,rfl,rfl,_,_,rfl,nl,_,_,_,rfl,rfl,SqL.of upd_same,an,num,rfl,t1,ln⟩
 intro σ9 H9 hM_; refine C6 λ G_ hG_=>?_; obtain ⟨num,rfl,e9,ln⟩:=hM_; subst hG_;have hca9:=e9 _ _ hca8;have hpk9:=e9 _ _ hpk;refine ⟨λ σ' H'=>∃ (hv:V) (h:i9),σ'=[some (.ref a),some (.ref hd),some (.ref ca),some (.str o.z),some (.ref o.p),some (.ref pl),some (.int c),some (.ref pk),some (.int (S.1.length:Int)),some (.int num),some hv,o11,o12,o13,o14,o15]/\Same H9 H'/\HS K H' hv h/\K4 h/\a2M h,?_,?_⟩
 ·exact ⟨_,rfl,_,rfl,ca,pk,o.kt,o.kg,ps,rfl,SqT.of hca9,kt1,kt2,kg1,kg2,SqL.of hpk9,lp,λ hv h H' e hh sm so=>⟨hv,h,rfl,e,hh,sm,so⟩⟩
 intro σA HA hM_; refine C6 λ G_ hG_=>?_; obtain ⟨hv,h,rfl,eA,hHS,sm,so⟩:=hM_; subst hG_;have hpkA:=eA _ _ hpk9;refine ⟨_,rfl,(by show 2<=sizeLine; decide),λ t1 ht1=>⟨_,rfl,(by show 2<=sizeLine; decide),λ t2 ht2=>⟨_,rfl,(by show 2<=sizeLine; decide),λ t3 ht3=>⟨(by show 1<=sizeLine; decide),λ t4 ht4=>⟨(by show 4<=sizeLine; decide),λ dl hdl=>?_⟩⟩⟩⟩⟩;have f1:=Same.new ht1 (.tup [V.str "come",hv]);have f2:=Same.new ht2 (.tup [V.str "come",hv]);have f3:=Same.new ht3 (.tup [V.str "go",V.int num]);have f4:=Same.new ht4 (.tup [V.str "back"]);have f5:=Same.new hdl (.lst [V.ref t1,V.ref t2,V.ref t3,V.ref t4]);have k1:=(f2.trans (f3.trans (f4.trans f5))) _ _ (upd_same (H:=HA) (a:=t1) (o:=.tup [V.str "come",hv]));have k2:=(f3.trans (f4.trans f5)) _ _ (upd_same (a:=t2) (o:=.tup [V.str "come",hv]));have k3:=(f4.trans f5) _ _ (upd_same (a:=t3) (o:=.tup [V.str "go",V.int num]));have k4:=f5 _ _ (upd_same (a:=t4) (o:=.tup [V.str "back"]));have eB:=f1.trans (f2.trans (f3.trans (f4.trans f5)));have hdlB:(upd (upd (upd (upd (upd HA t1 (.tup [V.str "come",hv])) t2 (.tup [V.str "come",hv])) t3 (.tup [V.str "go",V.int num])) t4 (.tup [V.str "back"])) dl (.lst [V.ref t1,V.ref t2,V.ref t3,V.ref t4])) dl=some (.lst [V.ref t1,V.ref t2,V.ref t3,V.ref t4]):=upd_same
 clear f1 f2 f3 f4 f5 ht1 ht2 ht3 ht4 hdl
 generalize upd (upd (upd (upd (upd HA t1 (.tup [V.str "come",hv])) t2 (.tup [V.str "come",hv])) t3 (.tup [V.str "go",V.int num])) t4 (.tup [V.str "back"])) dl (.lst [V.ref t1,V.ref t2,V.ref t3,V.ref t4])=HB at *;refine ⟨λ σ' H'=>∃ d:Addr,σ'=[some (.ref a),some (.ref hd),some (.ref ca),some (.str o.z),some (.ref o.p),some (.ref pl),some (.int c),some (.ref pk),some (.int (S.1.length:Int)),some (.int num),some hv,some (.ref dl),some (.ref d),o13,o14,o15]/\Same HB H'/\(H' d=some (.tup [.str "come",hv])\/H' d=some (.tup [.str "go",.int num])\/H' d=some (.tup [.str "alter",.int num,hv])\/H' d=some (.tup [.str "back"])),?_,?_⟩
 ·obtain ⟨v8,m8,i8⟩:=at13 8 (by decide)
  have b8:=bp v8 m8;refine ⟨_,rfl,_,rfl,_,rfl,(by show 3<=sizeLine; decide),λ t5 ht5=>⟨(by show 1<=sizeLine; decide),λ l5 hl5=>?_⟩⟩;have g1:=Same.new ht5 (.tup [V.str "alter",V.int num,hv]);have g2:=Same.new hl5 (.lst [V.ref t5]);refine ⟨dl,l5,_,_,rfl,rfl,(g1.trans g2) _ _ hdlB,upd_same,(by show 5<=sizeLine; decide),λ l6 hl6=>?_⟩;have g3:=Same.new hl6 (.lst ([V.ref t1,V.ref t2,V.ref t3,V.ref t4]++[V.ref t5]));have gg:=g1.trans (g2.trans g3);have k5:=(g2.trans g3) _ _ (upd_same (a:=t5) (o:=.tup [V.str "alter",V.int num,hv]));have pick:∀ k:Int,0<=k->k<=4->∃ d,N5 ([V.ref t1,V.ref t2,V.ref t3,V.ref t4]++[V.ref t5]) k=some (.ref d)/\(d=t1\/d=t2\/d=t3\/d=t4\/d=t5):=λ k h0 h4=>by
   have:k=0\/k=1\/k=2\/k=3\/k=4:=by omega
   rcases this with rfl | rfl | rfl | rfl | rfl
   ·exact ⟨_,rfl,.inl rfl⟩
   ·exact ⟨_,rfl,.inr (.inl rfl)⟩
   ·exact ⟨_,rfl,.inr (.inr (.inl rfl))⟩
   ·exact ⟨_,rfl,.inr (.inr (.inr (.inl rfl)))⟩
   ·exact ⟨_,rfl,.inr (.inr (.inr (.inr rfl)))⟩
  obtain ⟨d,ad,hd'⟩:=pick (v8 % 5) (by omega) (by omega);refine ⟨_,rfl,pk,_,8,_,rfl,rfl,SqL.of (gg _ _ (eB _ _ hpkA)),i8,_,_,rfl,rfl,(by show (0:Int)<5; decide),l6,_,_,_,rfl,rfl,SqL.of upd_same,ad,d,rfl,gg,?_⟩;rcases hd' with rfl | rfl | rfl | rfl | rfl
  ·exact .inl (gg _ _ k1)
  ·exact .inl (gg _ _ k2)
  ·exact .inr (.inl (gg _ _ k3))
  ·exact .inr (.inr (.inr (gg _ _ k4)))
  ·exact .inr (.inr (.inl k5))
 intro σC HC hM_; refine C6 λ G_ hG_=>?_; obtain ⟨d,rfl,eC,hd13⟩:=hM_; subst hG_;have e8C:=e9.trans (eA.trans (eB.trans eC));have ivC:=iv8.same e8C;have hcaC:=e8C _ _ hca8;have hclC:=e8C _ _ hcl8;have hHSC:=hHS.same (eB.trans eC);have kpC:KpS K C HC o.p o.kt o.kg o.z S o.pa lo:=kp8.same e8C
 clear k1 k2 k3 k4 hdlB
 refine ⟨λ σ' H'=>∃ later:V,σ'=[some (.ref a),some (.ref hd),some (.ref ca),some (.str o.z),some (.ref o.p),some (.ref pl),some (.int c),some (.ref pk),some (.int (S.1.length:Int)),some (.int num),some hv,some (.ref dl),some (.ref d),some later,o14,o15]/\Same HC H'/\b1Q K C Pt H' o pl S lo d later,?_,?_⟩
 ·refine ⟨_,rfl,_,rfl,_,rfl,?_⟩
  dsimp only [a1B,bZ,cY];exact b3D ivC kpC ok ft' (by omega) hcaC hHSC sm so ln hd13 λ later H' e l=>⟨later,rfl,e,l⟩
 intro σD HD hM_; refine C6 λ G_ hG_=>?_; obtain ⟨later,rfl,eD,hL⟩:=hM_; subst hG_;have ivD:=ivC.same eD;have hcaD:=eD _ _ hcaC;have hclD:=eD _ _ hclC
 clear hd13 hHSC kpC
 rcases hL with ⟨nm,b1,b2,b3,b4,b5,b6,rfl,dueE,tri⟩ | ⟨S',D,lt,wd,rest,rfl,bkl,nlt,hdd,hwd,dueF,lay,dep,tri⟩
 ·-- refused
  refine ⟨λ σ' H'=>∃ (later fv:V) (kl:Addr),later=.str nm/\σ'=[some (.ref a),some (.ref hd),some (.ref ca),some (.str o.z),some (.ref o.p),some (.ref pl),some (.int c),some (.ref pk),some (.int (S.1.length:Int)),some (.int num),some hv,some (.ref dl),some (.ref d),some later,some fv,some (.ref kl)]/\Same HD H'/\H' kl=some (.lst (a0E b1 b2 b3 b4 b5 b6)),?_,?_⟩
  ·refine ⟨_,rfl,_,rfl,?_⟩
   dsimp only [a1B,bZ,cY];refine tri _ _ λ H' r kl e hr hkl=>?_;exact ⟨r,_,rfl,SqT.of hr,rfl,_,_,rfl,_,_,rfl,rfl,_,_,_,rfl,rfl,e,hkl⟩
  intro σE HE hM_; refine C6 λ G_ hG_=>?_; obtain ⟨later,fv,kl,rfl,rfl,eE,hkl⟩:=hM_; subst hG_;refine ⟨λ σ' H'=>∃ (later fv:V) (kl:Addr),σ'=[some (.ref a),some (.ref hd),some (.ref ca),some (.str o.z),some (.ref o.p),some (.ref pl),some (.int c),some (.ref pk),some (.int (S.1.length:Int)),some (.int num),some hv,some (.ref dl),some (.ref d),some later,some fv,some (.ref kl)]/\Same HE H',?_,?_⟩
  ·refine ⟨_,rfl,_,_,_,true,rfl,.str _,b2y,_,rfl,O1 ?_⟩
   refine ⟨_,rfl,_,rfl,nm,rfl,λ r2 H' e hr2=>?_⟩;rw [dueE] at hr2;refine ⟨_,_,a6C (e _ _ hkl),a6C hr2,a3E,a3E,aZ (eM _ _) b0v,_,rfl,?_⟩;rw [W5 _ a3E];exact D6 ⟨_,_,_,rfl,e⟩
  intro σF HF hM_; refine C6 λ G_ hG_=>?_; obtain ⟨later,fv,kl',rfl,eF⟩:=hM_; subst hG_;have eG:=eE.trans eF;have ivF:=ivD.same eG;obtain ⟨init,b,_,_,atl,_,hb⟩:=ivF.last;refine ⟨_,rfl,_,rfl,_,rfl,pl,_,_,_,rfl,rfl,SqL.of ivF.hl,atl,_,rfl,?_⟩;dsimp only [a1B,bZ,cY];refine b3T ivF ft' hb λ H' e L=>⟨_,rfl,D6 ?_⟩;exact ⟨_,_,_,_,_,_,_,_,_,_,as,S,rfl,ivF.same1 e L,e.get ivF.lt (eG _ _ hcaD) nofun,e.get ivF.lt (eG _ _ hclD) nofun,by omega⟩
 ·-- done
  refine ⟨λ σ' H'=>∃ (later fv:V) (kl:Addr),later=.ref lt/\σ'=[some (.ref a),some (.ref hd),some (.ref ca),some (.str o.z),some (.ref o.p),some (.ref pl),some (.int c),some (.ref pk),some (.int (S.1.length:Int)),some (.int num),some hv,some (.ref dl),some (.ref d),some later,some fv,some (.ref kl)]/\KO K C H' [o.pa,pl] o S'/\Tr [o.pa,pl] HD H'/\LT Pt H'/\H' pl=some (.lst (as.map V.ref))/\H' kl=some (.lst [])/\Dp K H' fv D/\OkS o.z o.kt o.kg S',?_,?_⟩
  ·refine ⟨_,rfl,_,rfl,?_⟩
   dsimp only [a1B,bZ,cY];refine tri _ _ λ H' r kl t lo' kp ok' lf L sub hr hkl dp=>?_;obtain ⟨ko,tr,hpl⟩:=ivD.done nlo kp ok' lf sub;exact ⟨r,_,rfl,SqT.of hr,rfl,_,_,rfl,_,_,rfl,rfl,_,_,_,rfl,rfl,ko,tr,L,hpl,hkl,dp,ok'⟩
  intro σE HE hM_; refine C6 λ G_ hG_=>?_; obtain ⟨later,fv,kl,rfl,rfl,koE,trE,LE,hplE,hkl,dpE,okE⟩:=hM_; subst hG_;have ok':OkK o.z o.kt o.kg S'.1:=okE S'.1 (bS _ (.head _));have hcaE:=trE.tup hcaD;have hclE:=trE.lst ncl hclD;have alE:=a3j trE ivD.nn ivD.al;have hdE:=trE.tup hdd;have bkE:BkA K HE lt S'.1:=by
   obtain ⟨X,e,k⟩:=trE;obtain ⟨ys,h1,h2⟩:=bkl;exact ⟨ys,e.k _ _ (k _ _ nlt h1) h1,h2.fr0 e⟩
  have dueE:∀ {H':Hp},(∀ xs,HD d=some (.tup xs)->H' d=some (.tup xs))->((∃ (v:V) (h:i9),H' d=some (.tup [.str "come",v])/\S'.1=S.1++[h]/\D=a0h o.z o.kt o.kg S.1 h)\/(∃ i:Nat,H' d=some (.tup [.str "go",.int (i:Int)])/\i<S.1.length/\D=V6 (G8 (P5 o.z o.kt o.kg S.1) i) (P5 o.z o.kt o.kg S'.1))\/(∃ (num:Int) (v:V),H' d=some (.tup [.str "alter",.int num,v])/\D=V6 (P5 o.z o.kt o.kg S.1) (P5 o.z o.kt o.kg S'.1))\/(H' d=some (.tup [.str "back"])/\D=.none)):=λ m=>by
   rcases dueF with ⟨v,h,h1,h2⟩ | ⟨i,h1,h2⟩ | ⟨num,v,h1,h2⟩ | ⟨h1,h2⟩
   ·exact .inl ⟨v,h,m _ h1,h2⟩
   ·exact .inr (.inl ⟨i,m _ h1,h2⟩)
   ·exact .inr (.inr (.inl ⟨num,v,m _ h1,h2⟩))
   ·exact .inr (.inr (.inr ⟨m _ h1,h2⟩))
  refine ⟨λ σ' H'=>∃ (later fv:V) (kl:Addr) (as2:List Addr) (S2:KS),σ'=[some (.ref a),some (.ref hd),some (.ref ca),some (.str o.z),some (.ref o.p),some (.ref pl),some (.int c),some (.ref pk),some (.int (S.1.length:Int)),some (.int num),some hv,some (.ref dl),some (.ref d),some later,some fv,some (.ref kl)]/\Iv31 K C Pt H' o pl as2 S2/\H' ca=some (.tup [.int (o.kt:Int),.int (o.kg:Int)])/\H' cl=some (.lst cv)/\S2.2.length<=i+1,?_,?_⟩
  ·obtain ⟨ys,hlt,hBl⟩:=id bkE
   refine ⟨_,rfl,_,_,_,false,rfl,.lst hlt,b3k,_,rfl,D6 ?_⟩;refine ⟨_,rfl,(by show 0<=sizeLine; decide),λ el hel=>?_⟩;have s1:=Same.new hel (.lst []);refine ⟨.list [],.list [],.lst (SqL.of (s1 _ _ hkl)) .nil,.lst (SqL.of upd_same) .nil,rfl,rfl,by decide,_,rfl,?_⟩;rw [b2K];refine D6 ?_;obtain ⟨init,b,eas,li,atl,alI,hb⟩:=ivD.last;have alF:=a3j (Tr.same s1) ivD.nn alE;obtain ⟨xs,hb,hB⟩:=(A3 (eas ▸ alF:aL (BkA K _) (init++[b]) (S.2++[S.1]))).2;have koF:=koE.same s1;have LF:=LE.same s1;have hplF:=s1 _ _ hplE;have dpF:=dpE.same s1;have hltF:=s1 _ _ hlt;have hBlF:=Bk.same s1 hBl;have hcaF:=s1 _ _ hcaE;have hclF:=s1 _ _ hclE;have hdF:=s1 _ _ hdE;have dueF':=dueE (H':=upd HE el (.lst [])) (λ xs h=>s1 _ _ (trE.tup h));generalize upd HE el (.lst [])=HF at *;refine ⟨_,rfl,_,rfl,_,rfl,_,rfl,_,rfl,?_⟩;dsimp only [a1B,bZ,cY];refine ⟨pl,lt,d,b,init,xs,ys,S.1,S'.1,o.z,o.kt,o.kg,D,rfl,eas ▸ hplF,hb,hB,hltF,hBlF,ft',ok1,ok',LF,dueF',λ v HG eG LG dpv=>?_⟩;refine ⟨D,D,Dp.same1 LF eG dpF,dpv,lay,lay,aZ (eM _ _) dep,_,rfl,?_⟩;rw [W5 _ lay];refine D6 ?_;have hdG:=eG.get LF hdF nofun;have hplG:=eG.get LF hplF nofun;have koG:=koF.same1 LF eG;have alG:=a3j (Tr.same1 LF eG) ivD.nn alF;have hcaG:=eG.get LF hcaF nofun;have hclG:=eG.get LF hclF nofun;have bkG:BkA K HG lt S'.1:=⟨ys,eG.get LF hltF nofun,Bk.same1 LF eG hBlF⟩;have trW:∀ ws,Tr [o.pa,pl] HG (upd HG pl (.lst ws)):=λ ws=>Tr.write hplG (.tail _ (.head _));have at0:N5 (V.str wd::rest) 0=some (V.str wd):=v7 (j:=0) rfl;refine ⟨_,rfl,d,_,0,_,rfl,rfl,SqT.of hdG,at0,rfl,_,rfl,?_⟩;refine A6 (λ c=>?_) (λ c=>?_)
   ·have eb:wd="back":=by
     have:=of_decide_eq_true c
     cases this; rfl
    obtain ⟨_,eS⟩:=hwd.resolve_right λ h=>h.1 eb;have gl:(as.map V.ref)[(as.map V.ref).length - 1]?=some (V.ref b):=by rw [eas]; simp
    refine ⟨_,rfl,.inl ⟨rfl,_,SqL.of hplG⟩,pl,_,_,rfl,rfl,hplG,gl,?_⟩;have ed:(as.map V.ref).dropLast=init.map V.ref:=by rw [eas]; simp
    rw [ed];have al1:aL (BkA K HG) init S.2:=(A3 (eas ▸ alG:aL (BkA K HG) (init++[b]) (S.2++[S.1]))).1;rw [eS] at al1;refine ⟨_,_,_,init,S',rfl,Iv31.put LG koG hplG al1 (λ a ha=>ivD.nn a (by rw [eas]; exact dJ _ ha)) ivD.np,(trW _).tup hcaG,(trW _).lst ncl hclG,?_⟩;have:=congrArg gY eS;rw [aM] at this;simp at this;omega
   ·have eb:wd≠"back":=λ z0=>by
     subst z0;simp at c
    obtain ⟨_,eS⟩:=hwd.resolve_left λ h=>eb h.1;have las:as.length<=100:=by omega
    refine ⟨_,rfl,.inl ⟨rfl,_,SqL.of hplG⟩,_,rfl,pl,_,_,rfl,rfl,hplG,j9 (show (as.map V.ref).length<=1000 by rw [aA]; omega),?_⟩;have ea:as.map V.ref++[V.ref lt]=(as++[lt]).map V.ref:=by simp
    rw [ea];refine ⟨_,_,_,as++[lt],S',rfl,Iv31.put LG koG hplG ?_ (λ a ha=>?_) ivD.np,(trW _).tup hcaG,(trW _).lst ncl hclG,?_⟩
    ·rw [eS]
     exact P0 alG (.cons bkG .nil)
    ·rcases aS.mp ha with ha | ha
     ·exact ivD.nn a ha
     ·rw [aY.mp ha]; exact nlt
    ·rw [eS,aM]
     simp;omega
  intro σF HF hM_; refine C6 λ G_ hG_=>?_; obtain ⟨later,fv,kl',as2,S2,rfl,ivF,hcaF,hclF,lS2⟩:=hM_; subst hG_;obtain ⟨init,b,_,_,atl,_,hb⟩:=ivF.last;refine ⟨_,rfl,_,rfl,_,rfl,pl,_,_,_,rfl,rfl,SqL.of ivF.hl,atl,_,rfl,?_⟩;dsimp only [a1B,bZ,cY];refine b3T ivF ft' hb λ H' e L=>⟨_,rfl,D6 ?_⟩;exact ⟨_,_,_,_,_,_,_,_,_,_,as2,S2,rfl,ivF.same1 e L,e.get ivF.lt hcaF nofun,e.get ivF.lt hclF nofun,lS2⟩
end
theorem all_mk {l:W.OpenLaw} {w:World} {K:W.Frag} {h:Heap} {mg:Str->Option Value} {fa:Addr} {Ct Pt:Addr} (X:K.In h) (G:h.Ns mainGlobals mg) (hfa:mg "law"=some (.ref fa))
    {f1 f2 f3 f4 f5 f6 f7 f8 f9 f10 f11 f12 f13 f14 f15 f16 f17 f18 f19 f20 f21 f22 f23 f24 f25 f26 f27 f28 f29 f30 f31 f32 f33 f34 f35 f36 f37 f38 f39 f40 f41 f42 f43 f44 f45 f46 f47 CB CK dS tS0 tS1 tS2 tS3 cE_NoHouse cE_NoBook cE_RimError cE_NoRow cE_NoText cE_TooMany cE_NothingLeft:Addr} {cd1 cd2 cd3 cd4 cd5 cd6 cd7 cd8 cd10 cd11 cd12 cd13 cd14 cd15 cd16 cd17 cd18 cd19 cd20 cd21 cd22 cd23 cd24 cd25 cd26 cd27 cd28 cd29 cd30 cd31 cd32 cd33 cd34 cd35 cd36 cd37 cd38 cd39 cd40 cd41 cd42 cd43 cd44 cd45 cd46 ocL kVL dcL pmL cdL ctL:Value} {odL anL:Option Addr} {slL:Array (Option Value)} {odS0 odS1 odS2 odS3:Option Addr} {slS0 slS1 slS2 slS3:Array (Option Value)} {eS:Array DictEntry} {nS nS0 nS1 nS2 nS3:Nat} {tkA tkB tkC tkD:Tok} {tkC_MOST_AMOUNT:Tok} {tkC_MOST_HOUSES:Tok}
    (aK:W.nsIn K mainGlobals "Kept"=some (some (.ref CK)))
    (aB:W.nsIn K mainGlobals "Board"=some (some (.ref CB)))
    (a1:W.findIn K (.ref CK) "__init__"=some (some (.ref f1)))
    (l1:FunI K "__init__" "Kept.__init__" N8 f1 cd1)
    (n1:W.isFn K (.ref f1)=true)
    (a2:W.nsIn K mainGlobals "_law_cell_at"=some (some (.ref f2)))
    (l2:FunI K "_law_cell_at" "_law_cell_at" a8d f2 cd2)
    (a3:W.nsIn K mainGlobals "_law_draws"=some (some (.ref f3)))
    (l3:FunI K "_law_draws" "_law_draws" a5O f3 cd3)
    (a4:W.nsIn K mainGlobals "_law_a_house"=some (some (.ref f4)))
    (l4:FunI K "_law_a_house" "_law_a_house" C4 f4 cd4)
    (a5:W.nsIn K mainGlobals "_law_is_house"=some (some (.ref f5)))
    (l5:FunI K "_law_is_house" "_law_is_house" N6 f5 cd5)
    (a6:W.nsIn K mainGlobals "_law_a_later"=some (some (.ref f6)))
    (l6:FunI K "_law_a_later" "_law_a_later" C2 f6 cd6)
    (a7:W.nsIn K mainGlobals "house_of"=some (some (.ref f7)))
    (l7:FunI K "house_of" "house_of" b3m f7 cd7)
    (a8:W.findIn K (.ref CB) "__init__"=some (some (.ref f8)))
    (l8:FunI K "__init__" "Board.__init__" a4F f8 cd8)
    (n8:W.isFn K (.ref f8)=true)
    (a9:W.findIn K (.ref CB) "coming"=some (some (.ref f9)))
    (l9:FunI K "coming" "Board.coming" a3G f9 (.ref Ct))
    (n9:W.isFn K (.ref f9)=true)
    (a10:W.findIn K (.ref CB) "is_ahead"=some (some (.ref f10)))
    (l10:FunI K "is_ahead" "Board.is_ahead" a5o f10 cd10)
    (n10:W.isFn K (.ref f10)=true)
    (a11:W.findIn K (.ref CB) "going"=some (some (.ref f11)))
    (l11:FunI K "going" "Board.going" a5p f11 cd11)
    (n11:W.isFn K (.ref f11)=true)
    (a12:W.nsIn K mainGlobals "swept"=some (some (.ref f12)))
    (l12:FunI K "swept" "swept" a5H f12 cd12)
    (a13:W.findIn K (.ref CB) "exchange"=some (some (.ref f13)))
    (l13:FunI K "exchange" "Board.exchange" P4 f13 cd13)
    (n13:W.isFn K (.ref f13)=true)
    (a14:W.findIn K (.ref CB) "amounts"=some (some (.ref f14)))
    (l14:FunI K "amounts" "Board.amounts" a9G f14 cd14)
    (n14:W.isFn K (.ref f14)=true)
    (a15:W.findIn K (.ref CB) "weights"=some (some (.ref f15)))
    (l15:FunI K "weights" "Board.weights" b2w f15 cd15)
    (n15:W.isFn K (.ref f15)=true)
    (a16:W.nsIn K mainGlobals "greatest"=some (some (.ref f16)))
    (l16:FunI K "greatest" "greatest" M5 f16 cd16)
    (a17:W.nsIn K mainGlobals "house_rows"=some (some (.ref f17)))
    (l17:FunI K "house_rows" "house_rows" P7 f17 cd17)
    (a18:W.nsIn K mainGlobals "greatest_earned"=some (some (.ref f18)))
    (l18:FunI K "greatest_earned" "greatest_earned" Y8 f18 cd18)
    (a19:W.nsIn K mainGlobals "common_divisor"=some (some (.ref f19)))
    (l19:FunI K "common_divisor" "common_divisor" b2k f19 cd19)
    (a20:W.nsIn K mainGlobals "lowest"=some (some (.ref f20)))
    (l20:FunI K "lowest" "lowest" b2P f20 cd20)
    (a21:W.nsIn K mainGlobals "held_against"=some (some (.ref f21)))
    (l21:FunI K "held_against" "held_against" b0c f21 cd21)
    (a22:W.nsIn K mainGlobals "share"=some (some (.ref f22)))
    (l22:FunI K "share" "share" a5J f22 cd22)
    (a23:W.findIn K (.ref CK) "turn_to"=some (some (.ref f23)))
    (l23:FunI K "turn_to" "Kept.turn_to" B9 f23 cd23)
    (n23:W.isFn K (.ref f23)=true)
    (a24:W.nsIn K mainGlobals "without"=some (some (.ref f24)))
    (l24:FunI K "without" "without" a2z f24 cd24)
    (a25:W.nsIn K mainGlobals "changes"=some (some (.ref f25)))
    (l25:FunI K "changes" "changes" a1b f25 cd25)
    (a26:W.findIn K (.ref CK) "go"=some (some (.ref f26)))
    (l26:FunI K "go" "Kept.go" a1j f26 cd26)
    (n26:W.isFn K (.ref f26)=true)
    (a27:W.nsIn K mainGlobals "is_whole"=some (some (.ref f27)))
    (l27:FunI K "is_whole" "is_whole" a0j f27 cd27)
    (a28:W.nsIn K mainGlobals "are_amounts"=some (some (.ref f28)))
    (l28:FunI K "are_amounts" "are_amounts" R4 f28 cd28)
    (a29:W.nsIn K mainGlobals "is_house"=some (some (.ref f29)))
    (l29:FunI K "is_house" "is_house" a0p f29 cd29)
    (a30:W.nsIn K mainGlobals "refuse_unfit"=some (some (.ref f30)))
    (l30:FunI K "refuse_unfit" "refuse_unfit" Q6 f30 cd30)
    (a31:W.nsIn K mainGlobals "with_one_more"=some (some (.ref f31)))
    (l31:FunI K "with_one_more" "with_one_more" N9 f31 cd31)
    (a32:W.findIn K (.ref CK) "come"=some (some (.ref f32)))
    (l32:FunI K "come" "Kept.come" Y1 f32 cd32)
    (n32:W.isFn K (.ref f32)=true)
    (a33:W.nsIn K mainGlobals "with_another"=some (some (.ref f33)))
    (l33:FunI K "with_another" "with_another" Q0 f33 cd33)
    (a34:W.findIn K (.ref CK) "alter"=some (some (.ref f34)))
    (l34:FunI K "alter" "Kept.alter" T5 f34 cd34)
    (n34:W.isFn K (.ref f34)=true)
    (a35:W.findIn K (.ref CK) "back"=some (some (.ref f35)))
    (l35:FunI K "back" "Kept.back" W6 f35 cd35)
    (n35:W.isFn K (.ref f35)=true)
    (a36:W.nsIn K mainGlobals "_law_a_kin"=some (some (.ref f36)))
    (l36:FunI K "_law_a_kin" "_law_a_kin" U2 f36 cd36)
    (a37:W.nsIn K mainGlobals "_law_tried"=some (some (.ref f37)))
    (l37:FunI K "_law_tried" "_law_tried" E8 f37 cd37)
    (a38:W.nsIn K mainGlobals "_law_due_kin"=some (some (.ref f38)))
    (l38:FunI K "_law_due_kin" "_law_due_kin" P9 f38 cd38)
    (a39:W.nsIn K mainGlobals "_law_changes"=some (some (.ref f39)))
    (l39:FunI K "_law_changes" "_law_changes" C3 f39 cd39)
    (a40:W.nsIn K mainGlobals "_law_a_due"=some (some (.ref f40)))
    (l40:FunI K "_law_a_due" "_law_a_due" E9 f40 cd40)
    (a41:W.nsIn K mainGlobals "greatest_floor"=some (some (.ref f41)))
    (l41:FunI K "greatest_floor" "greatest_floor" a1f f41 cd41)
    (a42:W.nsIn K mainGlobals "rim_of"=some (some (.ref f42)))
    (l42:FunI K "rim_of" "rim_of" a5D f42 cd42)
    (a43:W.findIn K (.ref CK) "houses"=some (some (.ref f43)))
    (l43:FunI K "houses" "Kept.houses" R9 f43 cd43)
    (n43:W.isFn K (.ref f43)=true)
    (a44:W.findIn K (.ref CK) "shares"=some (some (.ref f44)))
    (l44:FunI K "shares" "Kept.shares" R8 f44 cd44)
    (n44:W.isFn K (.ref f44)=true)
    (a45:W.findIn K (.ref CK) "rim"=some (some (.ref f45)))
    (l45:FunI K "rim" "Kept.rim" a0s f45 cd45)
    (n45:W.isFn K (.ref f45)=true)
    (a46:W.nsIn K mainGlobals "_law_kept_right"=some (some (.ref f46)))
    (l46:FunI K "_law_kept_right" "_law_kept_right" y8 f46 cd46)
    (a47:W.nsIn K mainGlobals "law"=some (some (.ref f47)))
    (l47:K.lookup f47=some ⟨ocL,odL,.func (W.fnOf "law" "law" (G2 a0x) (t0 a0x) (h8 a0x) .none kVL dcL pmL anL cdL ctL),slL⟩)
    (c47:W.codeIn K cdL "law"=true)
    (k47:W.keepIn K (.ref f47)=true)
    (z1:W.nsIn K mainGlobals "len"=some none)
    (z2:W.nsIn K mainGlobals "all"=some none)
    (z3:W.nsIn K mainGlobals "any"=some none)
    (z4:W.nsIn K mainGlobals "max"=some none)
    (z5:W.nsIn K mainGlobals "min"=some none)
    (z6:W.nsIn K mainGlobals "sum"=some none)
    (z7:W.nsIn K mainGlobals "tuple"=some none)
    (z8:W.nsIn K mainGlobals "list"=some none)
    (z9:W.nsIn K mainGlobals "int"=some none)
    (z10:W.nsIn K mainGlobals "bool"=some none)
    (z11:W.nsIn K mainGlobals "range"=some none)
    (z12:W.nsIn K mainGlobals "isinstance"=some none)
    (z13:W.nsIn K mainGlobals "abs"=some none)
    (z14:W.nsIn K mainGlobals "zip"=some none)
    (z15:W.nsIn K mainGlobals "enumerate"=some none)
    (z16:W.nsIn K mainGlobals "ValueError"=some none)
    (z17:W.nsIn K mainGlobals "sorted"=some none)
    (bp:W.plainGet K CB Str.empty=true)
    (bh:W.hasDictIn K CB=true)
    (bo:W.plainOver K CB=true)
    (bs:W.findIn K (.ref CB) "__setattr__"=some (some (.builtin "object.__setattr__")))
    (b_many:W.findIn K (.ref CB) "many"=some none)
    (b_scale:W.findIn K (.ref CB) "scale"=some none)
    (b_cells:W.findIn K (.ref CB) "cells"=some none)
    (b_outs:W.findIn K (.ref CB) "outs"=some none)
    (b_ins:W.findIn K (.ref CB) "ins"=some none)
    (bm:W.makesIn K CB=true)
    (bk:W.keepIn K (.ref CB)=true)
    (kp:W.plainGet K CK Str.empty=true)
    (kh:W.hasDictIn K CK=true)
    (ko:W.plainOver K CK=true)
    (ks:W.findIn K (.ref CK) "__setattr__"=some (some (.builtin "object.__setattr__")))
    (k_many_takes:W.findIn K (.ref CK) "many_takes"=some none)
    (k_many_gives:W.findIn K (.ref CK) "many_gives"=some none)
    (k_sizes:W.findIn K (.ref CK) "sizes"=some none)
    (k_there:W.findIn K (.ref CK) "there"=some none)
    (k_worth:W.findIn K (.ref CK) "worth"=some none)
    (k_past:W.findIn K (.ref CK) "past"=some none)
    (km:W.makesIn K CK=true)
    (kk:W.keepIn K (.ref CK)=true)
    (s1:W.nsIn K mainGlobals "SIZE_SIGNS"=some (some (.ref dS)))
    (s3:K.lookup dS=some ⟨.type "dict",none,.dict eS nS,#[]⟩)
    (s4:W.KeysLit w.params eS.toList)
    (sa0:W.nsIn K dS "any"=some (some (.ref tS0)))
    (sb0:K.lookup tS0=some ⟨.type "tuple",odS0,.seq #[] nS0,slS0⟩)
    (sa1:W.nsIn K dS "one"=some (some (.ref tS1)))
    (sb1:K.lookup tS1=some ⟨.type "tuple",odS1,.seq #[.int 1 tkA,.int (-1) tkB] nS1,slS1⟩)
    (sa2:W.nsIn K dS "less"=some (some (.ref tS2)))
    (sb2:K.lookup tS2=some ⟨.type "tuple",odS2,.seq #[.int (-1) tkC] nS2,slS2⟩)
    (sa3:W.nsIn K dS "more"=some (some (.ref tS3)))
    (sb3:K.lookup tS3=some ⟨.type "tuple",odS3,.seq #[.int 1 tkD] nS3,slS3⟩)
    (xmNoHouse:W.nsIn K mainGlobals "NoHouse"=some (some (.ref cE_NoHouse)))
    (xoNoHouse:W.excIn K cE_NoHouse [.type "ValueError",.type "Exception",.type "BaseException",.type "object"] "ValueError.__new__"=true)
    (xgaNoHouse:W.findIn K (.ref cE_NoHouse) "__getattribute__"=some (some (.builtin "BaseException.__getattribute__")))
    (xgnNoHouse:W.findIn K (.ref cE_NoHouse) "__getattr__"=some none)
    (xcaNoHouse:W.findIn K (.ref cE_NoHouse) "__class__"=some (some (.builtin "object.__class__")))
    (xmoNoHouse:W.mroIn K cE_NoHouse (.type "object")=some true)
    (xmbNoHouse:W.mroIn K cE_NoHouse (.type "BaseException")=some true)
    (xmNoBook:W.nsIn K mainGlobals "NoBook"=some (some (.ref cE_NoBook)))
    (xoNoBook:W.excIn K cE_NoBook [.type "ValueError",.type "Exception",.type "BaseException",.type "object"] "ValueError.__new__"=true)
    (xgaNoBook:W.findIn K (.ref cE_NoBook) "__getattribute__"=some (some (.builtin "BaseException.__getattribute__")))
    (xgnNoBook:W.findIn K (.ref cE_NoBook) "__getattr__"=some none)
    (xcaNoBook:W.findIn K (.ref cE_NoBook) "__class__"=some (some (.builtin "object.__class__")))
    (xmoNoBook:W.mroIn K cE_NoBook (.type "object")=some true)
    (xmbNoBook:W.mroIn K cE_NoBook (.type "BaseException")=some true)
    (xmRimError:W.nsIn K mainGlobals "RimError"=some (some (.ref cE_RimError)))
    (xoRimError:W.excIn K cE_RimError [.type "ValueError",.type "Exception",.type "BaseException",.type "object"] "ValueError.__new__"=true)
    (xgaRimError:W.findIn K (.ref cE_RimError) "__getattribute__"=some (some (.builtin "BaseException.__getattribute__")))
    (xgnRimError:W.findIn K (.ref cE_RimError) "__getattr__"=some none)
    (xcaRimError:W.findIn K (.ref cE_RimError) "__class__"=some (some (.builtin "object.__class__")))
    (xmoRimError:W.mroIn K cE_RimError (.type "object")=some true)
    (xmbRimError:W.mroIn K cE_RimError (.type "BaseException")=some true)
    (xmNoRow:W.nsIn K mainGlobals "NoRow"=some (some (.ref cE_NoRow)))
    (xoNoRow:W.excIn K cE_NoRow [.type "ValueError",.type "Exception",.type "BaseException",.type "object"] "ValueError.__new__"=true)
    (xgaNoRow:W.findIn K (.ref cE_NoRow) "__getattribute__"=some (some (.builtin "BaseException.__getattribute__")))
    (xgnNoRow:W.findIn K (.ref cE_NoRow) "__getattr__"=some none)
    (xcaNoRow:W.findIn K (.ref cE_NoRow) "__class__"=some (some (.builtin "object.__class__")))
    (xmoNoRow:W.mroIn K cE_NoRow (.type "object")=some true)
    (xmbNoRow:W.mroIn K cE_NoRow (.type "BaseException")=some true)
    (xmNoText:W.nsIn K mainGlobals "NoText"=some (some (.ref cE_NoText)))
    (xoNoText:W.excIn K cE_NoText [.type "ValueError",.type "Exception",.type "BaseException",.type "object"] "ValueError.__new__"=true)
    (xgaNoText:W.findIn K (.ref cE_NoText) "__getattribute__"=some (some (.builtin "BaseException.__getattribute__")))
    (xgnNoText:W.findIn K (.ref cE_NoText) "__getattr__"=some none)
    (xcaNoText:W.findIn K (.ref cE_NoText) "__class__"=some (some (.builtin "object.__class__")))
    (xmoNoText:W.mroIn K cE_NoText (.type "object")=some true)
    (xmbNoText:W.mroIn K cE_NoText (.type "BaseException")=some true)
    (xmTooMany:W.nsIn K mainGlobals "TooMany"=some (some (.ref cE_TooMany)))
    (xoTooMany:W.excIn K cE_TooMany [.type "ValueError",.type "Exception",.type "BaseException",.type "object"] "ValueError.__new__"=true)
    (xgaTooMany:W.findIn K (.ref cE_TooMany) "__getattribute__"=some (some (.builtin "BaseException.__getattribute__")))
    (xgnTooMany:W.findIn K (.ref cE_TooMany) "__getattr__"=some none)
    (xcaTooMany:W.findIn K (.ref cE_TooMany) "__class__"=some (some (.builtin "object.__class__")))
    (xmoTooMany:W.mroIn K cE_TooMany (.type "object")=some true)
    (xmbTooMany:W.mroIn K cE_TooMany (.type "BaseException")=some true)
    (xmNothingLeft:W.nsIn K mainGlobals "NothingLeft"=some (some (.ref cE_NothingLeft)))
    (xoNothingLeft:W.excIn K cE_NothingLeft [.type "ValueError",.type "Exception",.type "BaseException",.type "object"] "ValueError.__new__"=true)
    (xgaNothingLeft:W.findIn K (.ref cE_NothingLeft) "__getattribute__"=some (some (.builtin "BaseException.__getattribute__")))
    (xgnNothingLeft:W.findIn K (.ref cE_NothingLeft) "__getattr__"=some none)
    (xcaNothingLeft:W.findIn K (.ref cE_NothingLeft) "__class__"=some (some (.builtin "object.__class__")))
    (xmoNothingLeft:W.mroIn K cE_NothingLeft (.type "object")=some true)
    (xmbNothingLeft:W.mroIn K cE_NothingLeft (.type "BaseException")=some true)
    (cmMOST_AMOUNT:W.nsIn K mainGlobals "MOST_AMOUNT"=some (some (.int 1000000000 tkC_MOST_AMOUNT)))
    (cmMOST_HOUSES:W.nsIn K mainGlobals "MOST_HOUSES"=some (some (.int 16 tkC_MOST_HOUSES)))
    (zstr:W.nsIn K mainGlobals "str"=some none)
    (eSub_NoHouse:W.mroIn K cE_NoHouse (.ref cE_RimError)=some true)
    (eI_NoHouse_NoBook:W.kitOne K (.ref cE_NoHouse) (.ref cE_NoBook)=some false)
    (eI_NoHouse_NoRow:W.kitOne K (.ref cE_NoHouse) (.ref cE_NoRow)=some false)
    (eI_NoHouse_NoText:W.kitOne K (.ref cE_NoHouse) (.ref cE_NoText)=some false)
    (eI_NoHouse_TooMany:W.kitOne K (.ref cE_NoHouse) (.ref cE_TooMany)=some false)
    (eI_NoHouse_NothingLeft:W.kitOne K (.ref cE_NoHouse) (.ref cE_NothingLeft)=some false)
    (eIV_NoHouse:W.kitOne K (.ref cE_NoHouse) (.type "ValueError")=some true)
    (eSub_NoBook:W.mroIn K cE_NoBook (.ref cE_RimError)=some true)
    (eI_NoBook_NoHouse:W.kitOne K (.ref cE_NoBook) (.ref cE_NoHouse)=some false)
    (eI_NoBook_NoRow:W.kitOne K (.ref cE_NoBook) (.ref cE_NoRow)=some false)
    (eI_NoBook_NoText:W.kitOne K (.ref cE_NoBook) (.ref cE_NoText)=some false)
    (eI_NoBook_TooMany:W.kitOne K (.ref cE_NoBook) (.ref cE_TooMany)=some false)
    (eI_NoBook_NothingLeft:W.kitOne K (.ref cE_NoBook) (.ref cE_NothingLeft)=some false)
    (eIV_NoBook:W.kitOne K (.ref cE_NoBook) (.type "ValueError")=some true)
    (eSub_TooMany:W.mroIn K cE_TooMany (.ref cE_RimError)=some true)
    (eI_TooMany_NoBook:W.kitOne K (.ref cE_TooMany) (.ref cE_NoBook)=some false)
    (eI_TooMany_NoHouse:W.kitOne K (.ref cE_TooMany) (.ref cE_NoHouse)=some false)
    (eI_TooMany_NoRow:W.kitOne K (.ref cE_TooMany) (.ref cE_NoRow)=some false)
    (eI_TooMany_NoText:W.kitOne K (.ref cE_TooMany) (.ref cE_NoText)=some false)
    (eI_TooMany_NothingLeft:W.kitOne K (.ref cE_TooMany) (.ref cE_NothingLeft)=some false)
    (eIV_TooMany:W.kitOne K (.ref cE_TooMany) (.type "ValueError")=some true)
    (eSub_NothingLeft:W.mroIn K cE_NothingLeft (.ref cE_RimError)=some true)
    (eI_NothingLeft_NoBook:W.kitOne K (.ref cE_NothingLeft) (.ref cE_NoBook)=some false)
    (eI_NothingLeft_NoHouse:W.kitOne K (.ref cE_NothingLeft) (.ref cE_NoHouse)=some false)
    (eI_NothingLeft_NoRow:W.kitOne K (.ref cE_NothingLeft) (.ref cE_NoRow)=some false)
    (eI_NothingLeft_NoText:W.kitOne K (.ref cE_NothingLeft) (.ref cE_NoText)=some false)
    (eI_NothingLeft_TooMany:W.kitOne K (.ref cE_NothingLeft) (.ref cE_TooMany)=some false)
    (eIV_NothingLeft:W.kitOne K (.ref cE_NothingLeft) (.type "ValueError")=some true)
   :∃ fd:FuncData,(∀ (s:Shared) (v:Value),BindsTo s fd ⟨[v],[]⟩ [("script",v)])/\∀ base:Heap,K.In base->base.Ns mainGlobals mg->T3 mg base->(∀ t∈[(Ct,Pt)],W.CodeHd base t.1 t.2)->FnOk l.prog w K mg base D7 12 fa fd ["script"] (a6q K Pt):=by
  have e:=hfa.symm.trans (W.mg_of X G a47)
  cases e;obtain ⟨_,F1,hc1,k1⟩:=l1.fn;obtain ⟨_,F2,hc2,k2⟩:=l2.fn;obtain ⟨_,F3,hc3,k3⟩:=l3.fn;obtain ⟨_,F4,hc4,k4⟩:=l4.fn;obtain ⟨_,F5,hc5,k5⟩:=l5.fn;obtain ⟨_,F6,hc6,k6⟩:=l6.fn;obtain ⟨_,F7,hc7,k7⟩:=l7.fn;obtain ⟨_,F8,hc8,k8⟩:=l8.fn;obtain ⟨_,F9,hc9,k9⟩:=l9.fn;obtain ⟨_,F10,hc10,k10⟩:=l10.fn;obtain ⟨_,F11,hc11,k11⟩:=l11.fn;obtain ⟨_,F12,hc12,k12⟩:=l12.fn;obtain ⟨_,F13,hc13,k13⟩:=l13.fn;obtain ⟨_,F14,hc14,k14⟩:=l14.fn;obtain ⟨_,F15,hc15,k15⟩:=l15.fn;obtain ⟨_,F16,hc16,k16⟩:=l16.fn;obtain ⟨_,F17,hc17,k17⟩:=l17.fn;obtain ⟨_,F18,hc18,k18⟩:=l18.fn;obtain ⟨_,F19,hc19,k19⟩:=l19.fn;obtain ⟨_,F20,hc20,k20⟩:=l20.fn;obtain ⟨_,F21,hc21,k21⟩:=l21.fn;obtain ⟨_,F22,hc22,k22⟩:=l22.fn;obtain ⟨_,F23,hc23,k23⟩:=l23.fn;obtain ⟨_,F24,hc24,k24⟩:=l24.fn;obtain ⟨_,F25,hc25,k25⟩:=l25.fn;obtain ⟨_,F26,hc26,k26⟩:=l26.fn;obtain ⟨_,F27,hc27,k27⟩:=l27.fn;obtain ⟨_,F28,hc28,k28⟩:=l28.fn;obtain ⟨_,F29,hc29,k29⟩:=l29.fn;obtain ⟨_,F30,hc30,k30⟩:=l30.fn;obtain ⟨_,F31,hc31,k31⟩:=l31.fn;obtain ⟨_,F32,hc32,k32⟩:=l32.fn;obtain ⟨_,F33,hc33,k33⟩:=l33.fn;obtain ⟨_,F34,hc34,k34⟩:=l34.fn;obtain ⟨_,F35,hc35,k35⟩:=l35.fn;obtain ⟨_,F36,hc36,k36⟩:=l36.fn;obtain ⟨_,F37,hc37,k37⟩:=l37.fn;obtain ⟨_,F38,hc38,k38⟩:=l38.fn;obtain ⟨_,F39,hc39,k39⟩:=l39.fn;obtain ⟨_,F40,hc40,k40⟩:=l40.fn;obtain ⟨_,F41,hc41,k41⟩:=l41.fn;obtain ⟨_,F42,hc42,k42⟩:=l42.fn;obtain ⟨_,F43,hc43,k43⟩:=l43.fn;obtain ⟨_,F44,hc44,k44⟩:=l44.fn;obtain ⟨_,F45,hc45,k45⟩:=l45.fn;obtain ⟨_,F46,hc46,k46⟩:=l46.fn;have F47:=a8N (st:=a0x) l47 c47 k47;have b1:Binds K _ ["self","takes","gives","sizes"] []:=F1.b4 λ _ _ _ _ _ _ _ _ _ _=>rfl;have b2:Binds K _ ["script","k"] []:=F2.b2 λ _ _ _ _ _ _ _ _=>rfl;have b3:Binds K _ ["cell","many","base"] []:=F3.b3 λ _ _ _ _ _ _ _ _ _=>rfl;have b4:Binds K _ ["counts","picks"] []:=F4.b2 λ _ _ _ _ _ _ _ _=>rfl;have b5:Binds K _ ["house","counts"] []:=F5.b2 λ _ _ _ _ _ _ _ _=>rfl;have b6:Binds K _ ["past","deed","counts"] []:=F6.b3 λ _ _ _ _ _ _ _ _ _=>rfl;have b7:Binds K _ ["book","number"] []:=F7.b2 λ _ _ _ _ _ _ _ _=>rfl;have b8:Binds K _ ["self","goal","rows","bounds"] []:=F8.b4 λ _ _ _ _ _ _ _ _ _ _=>rfl;have b9:Binds K _ ["self"] []:=F9.b1 λ _ _ _ _ _ _ _=>rfl;have b10:Binds K _ ["self","row","other","column"] []:=F10.b4 λ _ _ _ _ _ _ _ _ _ _=>rfl;have b11:Binds K _ ["self","column"] []:=F11.b2 λ _ _ _ _ _ _ _ _=>rfl;have b12:Binds K _ ["cells","lead","column","scale"] []:=F12.b4 λ _ _ _ _ _ _ _ _ _ _=>rfl;have b13:Binds K _ ["self","row","column"] []:=F13.b3 λ _ _ _ _ _ _ _ _ _=>rfl;have b14:Binds K _ ["self"] []:=F14.b1 λ _ _ _ _ _ _ _=>rfl;have b15:Binds K _ ["self"] []:=F15.b1 λ _ _ _ _ _ _ _=>rfl;have b16:Binds K _ ["goal","rows","bounds"] []:=F16.b3 λ _ _ _ _ _ _ _ _ _=>rfl;have b17:Binds K _ ["houses","sizes"] []:=F17.b2 λ _ _ _ _ _ _ _ _=>rfl;have b18:Binds K _ ["houses","house","sizes"] []:=F18.b3 λ _ _ _ _ _ _ _ _ _=>rfl;have b19:Binds K _ ["one","other"] []:=F19.b2 λ _ _ _ _ _ _ _ _=>rfl;have b20:Binds K _ ["top","bottom"] []:=F20.b2 λ _ _ _ _ _ _ _ _=>rfl;have b21:Binds K _ ["houses","house","sizes"] []:=F21.b3 λ _ _ _ _ _ _ _ _ _=>rfl;have b22:Binds K _ ["book","number","sizes"] []:=F22.b3 λ _ _ _ _ _ _ _ _ _=>rfl;have b23:Binds K _ ["self","houses"] []:=F23.b2 λ _ _ _ _ _ _ _ _=>rfl;have b24:Binds K _ ["houses","number"] []:=F24.b2 λ _ _ _ _ _ _ _ _=>rfl;have b25:Binds K _ ["ahead","behind"] []:=F25.b2 λ _ _ _ _ _ _ _ _=>rfl;have b26:Binds K _ ["self","number"] []:=F26.b2 λ _ _ _ _ _ _ _ _=>rfl;have b27:Binds K _ ["thing"] []:=F27.b1 λ _ _ _ _ _ _ _=>rfl;have b28:Binds K _ ["thing","many","least"] []:=F28.b3 λ _ _ _ _ _ _ _ _ _=>rfl;have b29:Binds K _ ["thing","many_takes","many_gives"] []:=F29.b3 λ _ _ _ _ _ _ _ _ _=>rfl;have b30:Binds K _ ["thing","many_takes","many_gives"] []:=F30.b3 λ _ _ _ _ _ _ _ _ _=>rfl;have b31:Binds K _ ["houses","house","many_takes","many_gives"] []:=F31.b4 λ _ _ _ _ _ _ _ _ _ _=>rfl;have b32:Binds K _ ["self","house"] []:=F32.b2 λ _ _ _ _ _ _ _ _=>rfl;have b33:Binds K _ ["houses","number","house","many_takes","many_gives"] []:=F33.b5 λ _ _ _ _ _ _ _ _ _ _ _=>rfl;have b34:Binds K _ ["self","number","house"] []:=F34.b3 λ _ _ _ _ _ _ _ _ _=>rfl;have b35:Binds K _ ["self"] []:=F35.b1 λ _ _ _ _ _ _ _=>rfl;have b36:Binds K _ ["e"] []:=F36.b1 λ _ _ _ _ _ _ _=>rfl;have b37:Binds K _ ["kept","deed"] []:=F37.b2 λ _ _ _ _ _ _ _ _=>rfl;have b38:Binds K _ ["name"] []:=F38.b1 λ _ _ _ _ _ _ _=>rfl;have b39:Binds K _ ["was","now"] []:=F39.b2 λ _ _ _ _ _ _ _ _=>rfl;have b40:Binds K _ ["past","later","deed","sizes"] []:=F40.b4 λ _ _ _ _ _ _ _ _ _ _=>rfl;have b41:Binds K _ ["houses","number","sizes"] []:=F41.b3 λ _ _ _ _ _ _ _ _ _=>rfl;have b42:Binds K _ ["book","sizes"] []:=F42.b2 λ _ _ _ _ _ _ _ _=>rfl;have b43:Binds K _ ["self"] []:=F43.b1 λ _ _ _ _ _ _ _=>rfl;have b44:Binds K _ ["self"] []:=F44.b1 λ _ _ _ _ _ _ _=>rfl;have b45:Binds K _ ["self"] []:=F45.b1 λ _ _ _ _ _ _ _=>rfl;have b46:Binds K _ ["kept","book","sizes"] []:=F46.b3 λ _ _ _ _ _ _ _ _ _=>rfl;have T:u0 mg:=⟨W.mg_none_of X G z1,W.mg_none_of X G z2,W.mg_none_of X G z3,W.mg_none_of X G z4,W.mg_none_of X G z5,W.mg_none_of X G z6,W.mg_none_of X G z7,W.mg_none_of X G z8,W.mg_none_of X G z9,W.mg_none_of X G z10,W.mg_none_of X G z11,W.mg_none_of X G z12,W.mg_none_of X G z13,W.mg_none_of X G z14,W.mg_none_of X G z15,W.mg_none_of X G z16,W.mg_none_of X G z17⟩;have TBd:TB K CB:=⟨⟨bp,bh,bo,bs⟩,b_many,b_scale,b_cells,b_outs,b_ins⟩;have TKd:TK K CK:=⟨⟨kp,kh,ko,ks⟩,k_many_takes,k_many_gives,k_sizes,k_there,k_worth,k_past⟩;have SG:Sg K w.params mg dS:=⟨W.mg_of X G s1,⟨_,_,s3,s4⟩,λ z hz=>by
    rcases hz with rfl | rfl | rfl | rfl
    . exact ⟨_,sa0,λ H=>.inr ⟨_,_,_,sb0,rfl,rfl,(by show 0<=sizeLine; decide),.nil⟩⟩
    . exact ⟨_,sa1,λ H=>.inr ⟨_,_,_,sb1,rfl,rfl,(by show 2<=sizeLine; decide),.cons ⟨_,rfl⟩ (.cons ⟨_,rfl⟩ .nil)⟩⟩
    . exact ⟨_,sa2,λ H=>.inr ⟨_,_,_,sb2,rfl,rfl,(by show 1<=sizeLine; decide),.cons ⟨_,rfl⟩ .nil⟩⟩
    . exact ⟨_,sa3,λ H=>.inr ⟨_,_,_,sb3,rfl,rfl,(by show 1<=sizeLine; decide),.cons ⟨_,rfl⟩ .nil⟩⟩
    ⟩
  have C_MOST_AMOUNT:∃ t,mg "MOST_AMOUNT"=some (.int 1000000000 t):=⟨_,W.mg_of X G cmMOST_AMOUNT⟩;have C_MOST_HOUSES:∃ t,mg "MOST_HOUSES"=some (.int 16 t):=⟨_,W.mg_of X G cmMOST_HOUSES⟩;have k_NoHouse:U7 K cE_NoHouse:=⟨a0i xoNoHouse,xgaNoHouse,xgnNoHouse,xcaNoHouse,xmoNoHouse,xmbNoHouse⟩;have m_NoHouse:=W.mg_of X G xmNoHouse;have k_NoBook:U7 K cE_NoBook:=⟨a0i xoNoBook,xgaNoBook,xgnNoBook,xcaNoBook,xmoNoBook,xmbNoBook⟩;have m_NoBook:=W.mg_of X G xmNoBook;have k_RimError:U7 K cE_RimError:=⟨a0i xoRimError,xgaRimError,xgnRimError,xcaRimError,xmoRimError,xmbRimError⟩;have m_RimError:=W.mg_of X G xmRimError;have k_NoRow:U7 K cE_NoRow:=⟨a0i xoNoRow,xgaNoRow,xgnNoRow,xcaNoRow,xmoNoRow,xmbNoRow⟩;have m_NoRow:=W.mg_of X G xmNoRow;have k_NoText:U7 K cE_NoText:=⟨a0i xoNoText,xgaNoText,xgnNoText,xcaNoText,xmoNoText,xmbNoText⟩;have m_NoText:=W.mg_of X G xmNoText;have k_TooMany:U7 K cE_TooMany:=⟨a0i xoTooMany,xgaTooMany,xgnTooMany,xcaTooMany,xmoTooMany,xmbTooMany⟩;have m_TooMany:=W.mg_of X G xmTooMany;have k_NothingLeft:U7 K cE_NothingLeft:=⟨a0i xoNothingLeft,xgaNothingLeft,xgnNothingLeft,xcaNothingLeft,xmoNothingLeft,xmbNothingLeft⟩;have m_NothingLeft:=W.mg_of X G xmNothingLeft;have R:b0D K mg cE_RimError cE_NoBook cE_NoHouse cE_NoRow cE_NoText cE_TooMany cE_NothingLeft:=⟨m_RimError,m_NoBook,m_NoHouse,m_NoRow,m_NoText,m_TooMany,m_NothingLeft,k_RimError⟩;have M_NoHouse:a0w K cE_NoHouse cE_RimError cE_NoBook cE_NoHouse cE_NoRow cE_NoText cE_TooMany cE_NothingLeft false true false false false false:=⟨k_NoHouse,eSub_NoHouse,eI_NoHouse_NoBook,M9 _,eI_NoHouse_NoRow,eI_NoHouse_NoText,eI_NoHouse_TooMany,eI_NoHouse_NothingLeft,eIV_NoHouse⟩;have M_NoBook:a0w K cE_NoBook cE_RimError cE_NoBook cE_NoHouse cE_NoRow cE_NoText cE_TooMany cE_NothingLeft true false false false false false:=⟨k_NoBook,eSub_NoBook,M9 _,eI_NoBook_NoHouse,eI_NoBook_NoRow,eI_NoBook_NoText,eI_NoBook_TooMany,eI_NoBook_NothingLeft,eIV_NoBook⟩;have M_TooMany:a0w K cE_TooMany cE_RimError cE_NoBook cE_NoHouse cE_NoRow cE_NoText cE_TooMany cE_NothingLeft false false false false true false:=⟨k_TooMany,eSub_TooMany,eI_TooMany_NoBook,eI_TooMany_NoHouse,eI_TooMany_NoRow,eI_TooMany_NoText,M9 _,eI_TooMany_NothingLeft,eIV_TooMany⟩;have M_NothingLeft:a0w K cE_NothingLeft cE_RimError cE_NoBook cE_NoHouse cE_NoRow cE_NoText cE_TooMany cE_NothingLeft false false false false false true:=⟨k_NothingLeft,eSub_NothingLeft,eI_NothingLeft_NoBook,eI_NothingLeft_NoHouse,eI_NothingLeft_NoRow,eI_NothingLeft_NoText,eI_NothingLeft_TooMany,M9 _,eIV_NothingLeft⟩;refine ⟨W.fnOf "law" "law" (G2 a0x) (t0 a0x) (h8 a0x) .none kVL dcL pmL anL cdL ctL,λ s v=>.of_eq rfl,λ base _ _ BM hCH=>?_⟩;have g1:=λ n:Nat=>a9p (mg:=mg) (P:=l.prog) (w:=w) (base:=base) (n:=n) F1 TKd;have g2:=λ n:Nat=>b1f (mg:=mg) (P:=l.prog) (w:=w) (base:=base) (n:=n) F2 T;have g3:=λ n:Nat=>a8y (mg:=mg) (P:=l.prog) (w:=w) (base:=base) (n:=n) F3 T;have g4:=λ n:Nat=>a8H (mg:=mg) (P:=l.prog) (w:=w) (base:=base) (n:=n) F4 T;have g5:=λ n:Nat=>a9A (mg:=mg) (P:=l.prog) (w:=w) (base:=base) (n:=n) F5 T;have g6:=λ n:Nat=>a9K (mg:=mg) (P:=l.prog) (w:=w) (base:=base) F6 T ⟨g5 (n+0),b5,k5,(W.mg_of X G a5)⟩;have g7:=λ n:Nat=>b2W (mg:=mg) (P:=l.prog) (w:=w) (base:=base) (n:=n) F7 T k_NoHouse m_NoHouse;have g8:=λ n:Nat=>b0Z (mg:=mg) (P:=l.prog) (w:=w) (base:=base) (n:=n) F8 T TBd;have g9:=λ n:Nat=>a7Q (mg:=mg) (P:=l.prog) (w:=w) (base:=base) (n:=n) F9 hc9 (hCH _ (.head _)) BM T TBd;have g10:=λ n:Nat=>a9D (mg:=mg) (P:=l.prog) (w:=w) (base:=base) (n:=n) F10 TBd;have g11:=λ n:Nat=>a8x (mg:=mg) (P:=l.prog) (w:=w) (base:=base) F11 T TBd ⟨g10 (n+0),b10,⟨a10,n10,k10⟩⟩;have g12:=λ n:Nat=>a8K (mg:=mg) (P:=l.prog) (w:=w) (base:=base) (n:=n) F12 T;have g13:=λ n:Nat=>a4J (mg:=mg) (P:=l.prog) (w:=w) (base:=base) F13 TBd ⟨g12 (n+0),b12,k12,(W.mg_of X G a12)⟩;have g14:=λ n:Nat=>b0n (mg:=mg) (P:=l.prog) (w:=w) (base:=base) (n:=n) F14 T TBd;have g15:=λ n:Nat=>b2m (mg:=mg) (P:=l.prog) (w:=w) (base:=base) (n:=n) F15 T TBd;have g16:=λ n:Nat=>a4W (mg:=mg) (P:=l.prog) (w:=w) (base:=base) F16 TBd ⟨⟨bm,a8,n8,bk⟩,g8 (n+2),b8,W.mg_of X G aB,⟨g9 (n+0),b9,⟨a9,n9,k9⟩⟩,⟨g11 (n+1),b11,⟨a11,n11,k11⟩⟩,⟨g13 (n+1),b13,⟨a13,n13,k13⟩⟩,⟨g14 (n+2),b14,⟨a14,n14,k14⟩⟩,⟨g15 (n+2),b15,⟨a15,n15,k15⟩⟩⟩;have g17:=λ n:Nat=>a3y (mg:=mg) (P:=l.prog) (w:=w) (base:=base) (n:=n) F17 T SG;have g18:=λ n:Nat=>a7S (mg:=mg) (P:=l.prog) (w:=w) (base:=base) F18 T SG ⟨g16 (n+0),b16,k16,(W.mg_of X G a16)⟩ ⟨g17 (n+4),b17,k17,(W.mg_of X G a17)⟩;have g19:=λ n:Nat=>b3h (mg:=mg) (P:=l.prog) (w:=w) (base:=base) (n:=n) F19 T;have g20:=λ n:Nat=>b2x (mg:=mg) (P:=l.prog) (w:=w) (base:=base) F20 T ⟨g19 (n+0),b19,k19,(W.mg_of X G a19)⟩;have g21:=λ n:Nat=>b0R (mg:=mg) (P:=l.prog) (w:=w) (base:=base) F21 ⟨g18 (n+0),b18,k18,(W.mg_of X G a18)⟩ ⟨g20 (n+4),b20,k20,(W.mg_of X G a20)⟩;have g22:=λ n:Nat=>a8w (mg:=mg) (P:=l.prog) (w:=w) (base:=base) F22 ⟨g7 (n+6),b7,k7,(W.mg_of X G a7)⟩ ⟨g21 (n+0),b21,k21,(W.mg_of X G a21)⟩;have g23:=λ n:Nat=>a8s (mg:=mg) (P:=l.prog) (w:=w) (base:=base) F23 T TKd ⟨g22 (n+0),b22,k22,(W.mg_of X G a22)⟩;have g24:=λ n:Nat=>a5R (mg:=mg) (P:=l.prog) (w:=w) (base:=base) F24 ⟨g7 (n+0),b7,k7,(W.mg_of X G a7)⟩;have g25:=λ n:Nat=>a5v (mg:=mg) (P:=l.prog) (w:=w) (base:=base) (n:=n) F25 T;have g26:=λ n:Nat=>b2V (mg:=mg) (P:=l.prog) (w:=w) (base:=base) F26 TKd ⟨g23 (n+0),b23,⟨a23,n23,k23⟩⟩ ⟨g24 (n+7),b24,k24,(W.mg_of X G a24)⟩ ⟨g25 (n+8),b25,k25,(W.mg_of X G a25)⟩;have g27:=λ n:Nat=>b1d (mg:=mg) (P:=l.prog) (w:=w) (base:=base) (n:=n) F27 T;have g28:=λ n:Nat=>b0y (mg:=mg) (P:=l.prog) (w:=w) (base:=base) F28 T C_MOST_AMOUNT ⟨g27 (n+0),b27,k27,(W.mg_of X G a27)⟩;have g29:=λ n:Nat=>b0r (mg:=mg) (P:=l.prog) (w:=w) (base:=base) F29 T ⟨g28 (n+0),b28,k28,(W.mg_of X G a28)⟩;have g30:=λ n:Nat=>a7K (mg:=mg) (P:=l.prog) (w:=w) (base:=base) F30 k_NoBook m_NoBook ⟨g29 (n+0),b29,k29,(W.mg_of X G a29)⟩;have g31:=λ n:Nat=>a5K (mg:=mg) (P:=l.prog) (w:=w) (base:=base) F31 T k_TooMany m_TooMany C_MOST_HOUSES ⟨g30 (n+0),b30,k30,(W.mg_of X G a30)⟩;have g32:=λ n:Nat=>b0d (mg:=mg) (P:=l.prog) (w:=w) (base:=base) F32 TKd ⟨g23 (n+0),b23,⟨a23,n23,k23⟩⟩ ⟨g31 (n+4),b31,k31,(W.mg_of X G a31)⟩ ⟨g25 (n+8),b25,k25,(W.mg_of X G a25)⟩;have g33:=λ n:Nat=>a5N (mg:=mg) (P:=l.prog) (w:=w) (base:=base) F33 ⟨g7 (n+3),b7,k7,(W.mg_of X G a7)⟩ ⟨g30 (n+0),b30,k30,(W.mg_of X G a30)⟩;have g34:=λ n:Nat=>a7X (mg:=mg) (P:=l.prog) (w:=w) (base:=base) F34 TKd ⟨g23 (n+0),b23,⟨a23,n23,k23⟩⟩ ⟨g33 (n+4),b33,k33,(W.mg_of X G a33)⟩ ⟨g25 (n+8),b25,k25,(W.mg_of X G a25)⟩;have g35:=λ n:Nat=>a9I (Pt:=Pt) (mg:=mg) (P:=l.prog) (w:=w) (base:=base) (n:=n) F35 TKd k_NothingLeft m_NothingLeft;have g36:=λ n:Nat=>b0w (mg:=mg) (P:=l.prog) (w:=w) (base:=base) (n:=n) F36 T R;have g37:=λ n:Nat=>a5y (mg:=mg) (P:=l.prog) (w:=w) (base:=base) F37 TKd R M_NoBook M_NoHouse M_TooMany M_NothingLeft ⟨g26 (n+0),b26,⟨a26,n26,k26⟩⟩ ⟨g32 (n+0),b32,⟨a32,n32,k32⟩⟩ ⟨g34 (n+0),b34,⟨a34,n34,k34⟩⟩ ⟨g35 (n+9),b35,⟨a35,n35,k35⟩⟩ ⟨g36 (n+9),b36,k36,(W.mg_of X G a36)⟩;have g38:=λ n:Nat=>b0P (mg:=mg) (P:=l.prog) (w:=w) (base:=base) (n:=n) F38 T;have g39:=λ n:Nat=>a9M (mg:=mg) (P:=l.prog) (w:=w) (base:=base) (n:=n) F39 T;have g40:=λ n:Nat=>a8l (mg:=mg) (P:=l.prog) (w:=w) (base:=base) F40 T ⟨g22 (n+0),b22,k22,(W.mg_of X G a22)⟩ ⟨g39 (n+7),b39,k39,(W.mg_of X G a39)⟩;have g41:=λ n:Nat=>a8P (mg:=mg) (P:=l.prog) (w:=w) (base:=base) F41 T ⟨g16 (n+0),b16,k16,(W.mg_of X G a16)⟩ ⟨g17 (n+4),b17,k17,(W.mg_of X G a17)⟩;have g42:=λ n:Nat=>a9j (mg:=mg) (P:=l.prog) (w:=w) (base:=base) F42 T ⟨g41 (n+0),b41,k41,(W.mg_of X G a41)⟩;have g43:=λ n:Nat=>a5M (mg:=mg) (P:=l.prog) (w:=w) (base:=base) (n:=n) F43 T TKd;have g44:=λ n:Nat=>a5W (mg:=mg) (P:=l.prog) (w:=w) (base:=base) (n:=n) F44 T TKd;have g45:=λ n:Nat=>b0x (mg:=mg) (P:=l.prog) (w:=w) (base:=base) F45 TKd ⟨g42 (n+0),b42,k42,(W.mg_of X G a42)⟩;have g46:=λ n:Nat=>b1l (mg:=mg) (P:=l.prog) (w:=w) (base:=base) F46 T TKd ⟨g22 (n+0),b22,k22,(W.mg_of X G a22)⟩ ⟨g42 (n+1),b42,k42,(W.mg_of X G a42)⟩ ⟨g43 (n+7),b43,⟨a43,n43,k43⟩⟩ ⟨g44 (n+7),b44,⟨a44,n44,k44⟩⟩ ⟨g45 (n+0),b45,⟨a45,n45,k45⟩⟩;exact b3d F47 T (W.mg_none_of X G zstr) ⟨⟨km,a1,n1,kk⟩,g1,b1,W.mg_of X G aK⟩ ⟨⟨g2 10,b2,k2,(W.mg_of X G a2)⟩,⟨g3 10,b3,k3,(W.mg_of X G a3)⟩,⟨g4 10,b4,k4,(W.mg_of X G a4)⟩,⟨g6 9,b6,k6,(W.mg_of X G a6)⟩,⟨g37 0,b37,k37,(W.mg_of X G a37)⟩,⟨g38 10,b38,k38,(W.mg_of X G a38)⟩,⟨g40 2,b40,k40,(W.mg_of X G a40)⟩,⟨g46 2,b46,k46,(W.mg_of X G a46)⟩⟩
end Rim
def PySem.W.Fast.tw1277553410392221507:Nat:=0
def PySem.W.Fast.tw3774446831558688391:Nat:=0
def PySem.W.Fast.tw5772801989613371822:Nat:=0
def PySem.W.Fast.tw41740101751376172:Nat:=0
def PySem.W.Fast.tw11503578852173297938:Nat:=0
def PySem.W.Fast.tw13745203758350208061:Nat:=0
def PySem.W.Fast.tw3200222222925515108:Nat:=0
def PySem.W.Fast.tw15529820758891486980:Nat:=0
def PySem.W.Fast.tw3263843689012062161:Nat:=0
def PySem.W.Fast.tw10894374079755017151:Nat:=0
def PySem.W.Fast.tw16332402733490535460:Nat:=0
def PySem.W.Fast.tw5168099092604295376:Nat:=0
def PySem.W.Fast.tw9035526513249024285:Nat:=0
def PySem.W.Fast.tw10263198438317200514:Nat:=0
def PySem.W.Fast.tw14327820421178578261:Nat:=0
def PySem.W.Fast.tw14889080243653430302:Nat:=0
def PySem.W.Fast.tw2479872494847052577:Nat:=0
def PySem.W.Fast.tw10565059626381235304:Nat:=0
def PySem.W.Fast.tw15644841332535374752:Nat:=0
def PySem.W.Fast.tw3516045962516758839:Nat:=0
def PySem.W.Fast.tw2001292574859436753:Nat:=0
def PySem.W.Fast.tw1805611737194977358:Nat:=0
def PySem.W.Fast.tw5879189639060025113:Nat:=0
def PySem.W.Fast.tw9643953978040931511:Nat:=0
def PySem.W.Fast.tw17295670155274560562:Nat:=0
def PySem.W.Fast.tw18133061419895380561:Nat:=0
def PySem.W.Fast.tw18395682335816482911:Nat:=0
def PySem.W.Fast.tw17682362133622574882:Nat:=0
def PySem.W.Fast.tw613778983190035313:Nat:=0
def PySem.W.Fast.tw5569832172480045676:Nat:=0
def PySem.W.Fast.tw2974804562632950280:Nat:=0
def PySem.W.Fast.tw6863428142968059250:Nat:=0
def PySem.W.Fast.tw11174420712265697113:Nat:=0
def PySem.W.Fast.tw15313931015650499284:Nat:=0
def PySem.W.Fast.tw10852590665515549695:Nat:=0
def PySem.W.Fast.tw15377210235418970384:Nat:=0
def PySem.W.Fast.tw4462372189599160143:Nat:=0
def PySem.W.Fast.tw14658598887231858937:Nat:=0
def PySem.W.Fast.tw5638703071457779311:Nat:=0
def PySem.W.Fast.tw5390833673677627648:Nat:=0
def PySem.W.Fast.tw15149068876671949042:Nat:=0
def PySem.W.Fast.tw13276953483995378224:Nat:=0
def PySem.W.Fast.tw17933483722804510930:Nat:=0
def PySem.W.Fast.tw2439745765099155638:Nat:=0
def PySem.W.Fast.tw2324134086450534152:Nat:=0
def PySem.W.Fast.tw9128827203550421138:Nat:=0
def PySem.W.Fast.tw18054772680377511608:Nat:=0
def PySem.W.Fast.tw17699722212653019801:Nat:=0
def PySem.W.Fast.tw13518166596055495561:Nat:=0
def PySem.W.Fast.tw12691394678703037338:Nat:=0
def PySem.W.Fast.tw7049051173521566843:Nat:=0
def PySem.W.Fast.tw18225991905833190869:Nat:=0
def PySem.W.Fast.tw4514825801460993981:Nat:=0
def PySem.W.Fast.tw4037175045539311066:Nat:=0
def PySem.W.Fast.tw16235631525601292190:Nat:=0
def PySem.W.Fast.tw2131870340701093576:Nat:=0
def PySem.W.Fast.tw6069417384374330296:Nat:=0
def PySem.W.Fast.tw15636835267504877655:Nat:=0
def PySem.W.Fast.tw15256823322997672076:Nat:=0
def PySem.W.Fast.tw5083730155023680841:Nat:=0
def PySem.W.Fast.tw12769715084538797060:Nat:=0
def PySem.W.Fast.tw4726402979445021889:Nat:=0
def PySem.W.Fast.tw15119639500611059509:Nat:=0
def PySem.W.Fast.tw17212443733111717922:Nat:=0
def PySem.W.Fast.tw17382358237144665032:Nat:=0
def PySem.W.Fast.tw1019388870728623482:Nat:=0
def PySem.W.Fast.tw13053489199142431292:Nat:=0
def PySem.W.Fast.tw4770147782094892480:Nat:=0
def PySem.W.Fast.tw10093620439362788157:Nat:=0
def PySem.W.Fast.tw11650860033506235914:Nat:=0
def PySem.W.Fast.tw17731761758607974885:Nat:=0
def PySem.W.Fast.tw11731364369332127227:Nat:=0
def PySem.W.Fast.tw14528077703359735052:Nat:=0
def PySem.W.Fast.tw12114994488556982910:Nat:=0
def PySem.W.Fast.tw5197809341998125401:Nat:=0
def PySem.W.Fast.tw17999295625810909133:Nat:=0
def PySem.W.Fast.tw297411128843755187:Nat:=0
def PySem.W.Fast.tw15039401864085442882:Nat:=0
def PySem.W.Fast.tw7780515505139371713:Nat:=0
def PySem.W.Fast.tw8843121902384442113:Nat:=0
def PySem.W.Fast.tw17241432152608022129:Nat:=0
def PySem.W.Fast.tw9348625014134667058:Nat:=0
def PySem.W.Fast.tw9815403208841321777:Nat:=0
def PySem.W.Fast.tw15156579202362616423:Nat:=0
def PySem.W.Fast.tw5812690758062050831:Nat:=0
def PySem.W.Fast.tw12622744780226174592:Nat:=0
def PySem.W.Fast.tw7086004723482264299:Nat:=0
def PySem.W.Fast.tw13267663918925056832:Nat:=0
def PySem.W.Fast.tw13139919764648045982:Nat:=0
def PySem.W.Fast.tw12946471541363293764:Nat:=0
def PySem.W.Fast.tw9367685582221164637:Nat:=0
def PySem.W.Fast.tw7957654746300255834:Nat:=0
def PySem.W.Fast.tw5839886312853556114:Nat:=0
def PySem.W.Fast.tw12647031310079246930:Nat:=0
def PySem.W.Fast.tw5669870463631098161:Nat:=0
def PySem.W.Fast.tw11036451361940359695:Nat:=0
def PySem.W.Fast.tw9833081520294220760:Nat:=0
def PySem.W.Fast.tw14432302297419848019:Nat:=0
def PySem.W.Fast.tw10306170666394606135:Nat:=0
def PySem.W.Fast.tw3853829371393499308:Nat:=0
def PySem.W.Fast.tw14939083662462302911:Nat:=0
def PySem.W.Fast.tw10714401204281134422:Nat:=0
def PySem.W.Fast.tw11240775436411356299:Nat:=0
def PySem.W.Fast.tw18101618926575285462:Nat:=0
def PySem.W.Fast.tw2385866739174648943:Nat:=0
def PySem.W.Fast.tw4719108196378374403:Nat:=0
def PySem.W.Fast.tw13448148901561358834:Nat:=0
def PySem.W.Fast.tw12763747847551769157:Nat:=0
def PySem.W.Fast.tw10939832495772245185:Nat:=0
def PySem.W.Fast.tw211067954468460791:Nat:=0
def PySem.W.Fast.tw13143942418518713214:Nat:=0
def PySem.W.Fast.tw10686555629058439545:Nat:=0
def PySem.W.Fast.tw3853729154370768908:Nat:=0
def PySem.W.Fast.tw7702288012219492871:Nat:=0
def PySem.W.Fast.tw16120509587552605826:Nat:=0
def PySem.W.Fast.tw796554146213340197:Nat:=0
def PySem.W.Fast.tw1453128555081668810:Nat:=0
def PySem.W.Fast.tw1729682551204365270:Nat:=0
def PySem.W.Fast.tw1430188740620610890:Nat:=0
def PySem.W.Fast.tw2360337702502346922:Nat:=0
def PySem.W.Fast.tw9649630775978805041:Nat:=0
def PySem.W.Fast.tw15883120710920466638:Nat:=0
def PySem.W.Fast.tw159745070476213796:Nat:=0
def PySem.W.Fast.tw13216230544312180257:Nat:=0
def PySem.W.Fast.tw7043152407201684179:Nat:=0
def PySem.W.Fast.tw14636595044911062722:Nat:=0
def PySem.W.Fast.tw14292052310227702554:Nat:=0
def PySem.W.Fast.tw2435011235929981207:Nat:=0
def PySem.W.Fast.tw15028712865877312369:Nat:=0
def PySem.W.Fast.tw5014321791761478320:Nat:=0
def PySem.W.Fast.tw6394819663952980321:Nat:=0
def PySem.W.Fast.tw15950401256986987885:Nat:=0
def PySem.W.Fast.tw606998973331646419:Nat:=0
def PySem.W.Fast.tw10547643052446259484:Nat:=0
def PySem.W.Fast.tw8330073915725910087:Nat:=0
def PySem.W.Fast.tw7727580893887076820:Nat:=0
def PySem.W.Fast.tw3187523866124840733:Nat:=0
def PySem.W.Fast.tw15357364397866217849:Nat:=0
def PySem.W.Fast.tw9807143582025481841:Nat:=0
def PySem.W.Fast.tw4974395792944087122:Nat:=0
def PySem.W.Fast.tw4164540810306912520:Nat:=0
def PySem.W.Fast.tw12088942880802547331:Nat:=0
def PySem.W.Fast.tw285694659684336536:Nat:=0
def PySem.W.Fast.tw7731881774241308711:Nat:=0
def PySem.W.Fast.tw10569035127557143864:Nat:=0
def PySem.W.Fast.tw2212676385857713844:Nat:=0
def PySem.W.Fast.tw15953658723776939142:Nat:=0
def PySem.W.Fast.tw2703500580480633802:Nat:=0
def PySem.W.Fast.tw11376890881755693402:Nat:=0
def PySem.W.Fast.tw952007118189917195:Nat:=0
def PySem.W.Fast.tw18337812742963078643:Nat:=0
def PySem.W.Fast.tw1871864492554075125:Nat:=0
def PySem.W.Fast.tw12471671705008692215:Nat:=0
def PySem.W.Fast.tw7276713690823192970:Nat:=0
def PySem.W.Fast.tw15784186458795538539:Nat:=0
def PySem.W.Fast.tw10130299752422658290:Nat:=0
def PySem.W.Fast.tw9272277780125243963:Nat:=0
def PySem.W.Fast.tw3043021743147649869:Nat:=0
def PySem.W.Fast.tw4897639195612532407:Nat:=0
def PySem.W.Fast.tw14125890863530829361:Nat:=0
def PySem.W.Fast.tw992849434150438882:Nat:=0
def PySem.W.Fast.tw16767104526244238324:Nat:=0
def PySem.W.Fast.tw16781178994728800739:Nat:=0
def PySem.W.Fast.tw17786202633086632884:Nat:=0
def PySem.W.Fast.tw17507003293670030711:Nat:=0
def PySem.W.Fast.tw11992856264192589000:Nat:=0
def PySem.W.Fast.tw13887210320566185397:Nat:=0
def PySem.W.Fast.tw14822717069389196756:Nat:=0
def PySem.W.Fast.tw11045040794035316594:Nat:=0
def PySem.W.Fast.tw2019683245523961222:Nat:=0
def PySem.W.Fast.tw3671534488609110035:Nat:=0
def PySem.W.Fast.tw1157122194932246867:Nat:=0
def PySem.W.Fast.tw3126422453238406831:Nat:=0
def PySem.W.Fast.tw1643487293591843147:Nat:=0
def PySem.W.Fast.tw18340385045387302999:Nat:=0
def PySem.W.Fast.tw10748961604935959344:Nat:=0
def PySem.W.Fast.tw18225983404589981889:Nat:=0
def PySem.W.Fast.tw7094900844585980640:Nat:=0
def PySem.W.Fast.tw5072837830199694799:Nat:=0
def PySem.W.Fast.tw2390234187016901444:Nat:=0
def PySem.W.Fast.tw1863792448582873257:Nat:=0
def PySem.W.Fast.tw10546034691792872283:Nat:=0
def PySem.W.Fast.tw8263503870038688540:Nat:=0
def PySem.W.Fast.tw10150585192468084796:Nat:=0
def PySem.W.Fast.tw2512941635767064252:Nat:=0
def PySem.W.Fast.tw13370251761564548444:Nat:=0
def PySem.W.Fast.tw6234740039218362203:Nat:=0
def PySem.W.Fast.tw7813731245341193379:Nat:=0
def PySem.W.Fast.tw11428902291166357036:Nat:=0
def PySem.W.Fast.tw13055165113298438586:Nat:=0
def PySem.W.Fast.tw7171075686437912750:Nat:=0
def PySem.W.Fast.tw7661587478028106435:Nat:=0
def PySem.W.Fast.tw4950437661506024657:Nat:=0
def PySem.W.Fast.tw14328721131360945999:Nat:=0
def PySem.W.Fast.tw13632748978367749650:Nat:=0
def PySem.W.Fast.tw4643280255649540093:Nat:=0
def PySem.W.Fast.tw3890933823484987930:Nat:=0
def PySem.W.Fast.tw10075049186761413934:Nat:=0
def PySem.W.Fast.tw11183799387105564290:Nat:=0
def PySem.W.Fast.tw14442557247693543342:Nat:=0
def PySem.W.Fast.tw8762517052723591055:Nat:=0
def PySem.W.Fast.tw18440381667976672209:Nat:=0
def PySem.W.Fast.tw17559198005345398323:Nat:=0
def PySem.W.Fast.tw2801538493740878186:Nat:=0
def PySem.W.Fast.tw10821181055566231552:Nat:=0
def PySem.W.Fast.tw7586305855346576401:Nat:=0
def PySem.W.Fast.tw9124509119855669302:Nat:=0
def PySem.W.Fast.tw14997239501584876075:Nat:=0
def PySem.W.Fast.tw6368827218020023424:Nat:=0
def PySem.W.Fast.tw6725388745641605628:Nat:=0
def PySem.W.Fast.tw15176394881917500535:Nat:=0
def PySem.W.Fast.tw262912870152393794:Nat:=0
def PySem.W.Fast.tw15137671680060798525:Nat:=0
def PySem.W.Fast.tw7610504370396650264:Nat:=0
def PySem.W.Fast.tw1037218002044907267:Nat:=0
def PySem.W.Fast.tw4777449756537540261:Nat:=0
def PySem.W.Fast.tw2550103567603674655:Nat:=0
def PySem.W.Fast.tw4709270566613715431:Nat:=0
def PySem.W.Fast.tw13713469333413111775:Nat:=0
def PySem.W.Fast.tw5327652592750331235:Nat:=0
def PySem.W.Fast.tw3503790864215817923:Nat:=0
def PySem.W.Fast.tw10486285687632076208:Nat:=0
def PySem.W.Fast.tw2480328785678680672:Nat:=0
def PySem.W.Fast.tw2610669840011607143:Nat:=0
def PySem.W.Fast.tw7670673529684333873:Nat:=0
def PySem.W.Fast.tw11703228425848093623:Nat:=0
def PySem.W.Fast.tw6475579783459559239:Nat:=0
def PySem.W.Fast.tw3378881774119280707:Nat:=0
def PySem.W.Fast.tw3671503326390389387:Nat:=0
def PySem.W.Fast.tw4925985503492174729:Nat:=0
def PySem.W.Fast.tw460882479234038764:Nat:=0
def PySem.W.Fast.tw13870721090207867584:Nat:=0
def PySem.W.Fast.tw7895734309291151646:Nat:=0
def PySem.W.Fast.tw4950651533471288445:Nat:=0
def PySem.W.Fast.tw6663479913878837329:Nat:=0
def PySem.W.Fast.tw6905977354369558448:Nat:=0
def PySem.W.Fast.tw9826499515455739241:Nat:=0
def PySem.W.Fast.tw7806215590537846045:Nat:=0
def PySem.W.Fast.tw18405860877114070257:Nat:=0
def PySem.W.Fast.tw16958514441589009324:Nat:=0
def PySem.W.Fast.tw15098426950131137054:Nat:=0
def PySem.W.Fast.tw6482123469039263094:Nat:=0
def PySem.W.Fast.tw4529702351257454440:Nat:=0
def PySem.W.Fast.tw8257683540878078032:Nat:=0
def PySem.W.Fast.tw9499234563650908477:Nat:=0
def PySem.W.Fast.tw17467702930902850535:Nat:=0
namespace Rim
open PySem L2 Fr
theorem walk {l:W.OpenLaw} {q:Program} {loose:List Str} {XP:(Str->Option Value)->Heap->Prop} {YP:World->Heap->Prop} {d:DefRec} {K:Params->W.Frag} {Ct Pt:Addr} (hn:l.most=some 63) (hdf:d.params.defaults=[])
  (hY:∀ (w:World) (h:Heap),YP w h->(K w.params).In h/\∀ t∈[(Ct,Pt)],h.get? t.2=some (W.tabObj #[]))
  (hC:∀ (w:World),∀ t∈[(Ct,Pt)],W.codeHdIn (K w.params) t.1 t.2=true/\(K w.params).lookup t.2=none)
  (F:∀ (w:World) (mg:Str->Option Value) (fa:Addr) (h:Heap),(K w.params).In h->h.Ns mainGlobals mg->mg d.name=some (.ref fa) →
   ∃ fd:FuncData,(∀ (s:Shared) (u:Value),BindsTo s fd ⟨[u],[]⟩ [("script",u)])/\∀ base:Heap,(K w.params).In base->base.Ns mainGlobals mg->T3 mg base->(∀ t∈[(Ct,Pt)],W.CodeHd base t.1 t.2)->FnOk l.prog w (K w.params) mg base D7 12 fa fd ["script"] (a6q (K w.params) Pt)) :
  W.WalkO q loose XP YP l.row.toRowW d [] (λ f vs=>hW f vs) :=
 L2.walk_ofT (n:=63) (k:=12) (x:="script") (Ts:=[(Ct,Pt)]) (CX:=λ _=>D7) (sp:=λ w=>a6q (K w.params) Pt) hn (by decide) hdf ⟨rfl,by decide,by decide⟩ hY hC F (λ _ _ a ns hl hT hS=>⟨a,ns,rfl,hS,hl,.inl (hT _ (.head _)),λ _=>rfl⟩) λ _ _ _ _ _ z=>z
end Rim
open PySem PySem.W PyProof.Rows
set_option maxRecDepth 100000 in
set_option maxHeartbeats 0 in
theorem PySem.Challenge.cw_rimhouse_k31_whole_kept_altered_and_back_holds : PySem.Challenge.rw_rimhouse_k31_whole_kept_altered_and_back.Holds := by
  w_on; o_law; km_head; (case hw=>w_witness2)
  k_fill
  refine' Rim.walk (l:=PySem.Challenge.rw_rimhouse_k31_whole_kept_altered_and_back) (Ct:=_) (Pt:=184) rfl rfl ?Y ?C ?F
  case Y=>exact λ w h Y=>⟨W.km_in_of Y,λ t ht=>by rw [aY.mp ht]; exact W.km_tabs_of Y _ (.head _)⟩
  case F =>
    intro w mg fa h KX G hmg;refine' Rim.all_mk KX G hmg ?aK ?aB ?a1 ?l1 ?n1 ?a2 ?l2 ?a3 ?l3 ?a4 ?l4 ?a5 ?l5 ?a6 ?l6 ?a7 ?l7 ?a8 ?l8 ?n8 ?a9 ?l9 ?n9 ?a10 ?l10 ?n10 ?a11 ?l11 ?n11 ?a12 ?l12 ?a13 ?l13 ?n13 ?a14 ?l14 ?n14 ?a15 ?l15 ?n15 ?a16 ?l16 ?a17 ?l17 ?a18 ?l18 ?a19 ?l19 ?a20 ?l20 ?a21 ?l21 ?a22 ?l22 ?a23 ?l23 ?n23 ?a24 ?l24 ?a25 ?l25 ?a26 ?l26 ?n26 ?a27 ?l27 ?a28 ?l28 ?a29 ?l29 ?a30 ?l30 ?a31 ?l31 ?a32 ?l32 ?n32 ?a33 ?l33 ?a34 ?l34 ?n34 ?a35 ?l35 ?n35 ?a36 ?l36 ?a37 ?l37 ?a38 ?l38 ?a39 ?l39 ?a40 ?l40 ?a41 ?l41 ?a42 ?l42 ?a43 ?l43 ?n43 ?a44 ?l44 ?n44 ?a45 ?l45 ?n45 ?a46 ?l46 ?a47 ?l47 ?c47 ?k47 ?z1 ?z2 ?z3 ?z4 ?z5 ?z6 ?z7 ?z8 ?z9 ?z10 ?z11 ?z12 ?z13 ?z14 ?z15 ?z16 ?z17 ?bp ?bh ?bo ?bs ?b_many ?b_scale ?b_cells ?b_outs ?b_ins ?bm ?bk ?kp ?kh ?ko ?ks ?k_many_takes ?k_many_gives ?k_sizes ?k_there ?k_worth ?k_past ?km ?kk ?s1 ?s3 ?s4 ?sa0 ?sb0 ?sa1 ?sb1 ?sa2 ?sb2 ?sa3 ?sb3 ?xmNoHouse ?xoNoHouse ?xgaNoHouse ?xgnNoHouse ?xcaNoHouse ?xmoNoHouse ?xmbNoHouse ?xmNoBook ?xoNoBook ?xgaNoBook ?xgnNoBook ?xcaNoBook ?xmoNoBook ?xmbNoBook ?xmRimError ?xoRimError ?xgaRimError ?xgnRimError ?xcaRimError ?xmoRimError ?xmbRimError ?xmNoRow ?xoNoRow ?xgaNoRow ?xgnNoRow ?xcaNoRow ?xmoNoRow ?xmbNoRow ?xmNoText ?xoNoText ?xgaNoText ?xgnNoText ?xcaNoText ?xmoNoText ?xmbNoText ?xmTooMany ?xoTooMany ?xgaTooMany ?xgnTooMany ?xcaTooMany ?xmoTooMany ?xmbTooMany ?xmNothingLeft ?xoNothingLeft ?xgaNothingLeft ?xgnNothingLeft ?xcaNothingLeft ?xmoNothingLeft ?xmbNothingLeft ?cmMOST_AMOUNT ?cmMOST_HOUSES ?zstr ?eSub_NoHouse ?eI_NoHouse_NoBook ?eI_NoHouse_NoRow ?eI_NoHouse_NoText ?eI_NoHouse_TooMany ?eI_NoHouse_NothingLeft ?eIV_NoHouse ?eSub_NoBook ?eI_NoBook_NoHouse ?eI_NoBook_NoRow ?eI_NoBook_NoText ?eI_NoBook_TooMany ?eI_NoBook_NothingLeft ?eIV_NoBook ?eSub_TooMany ?eI_TooMany_NoBook ?eI_TooMany_NoHouse ?eI_TooMany_NoRow ?eI_TooMany_NoText ?eI_TooMany_NothingLeft ?eIV_TooMany ?eSub_NothingLeft ?eI_NothingLeft_NoBook ?eI_NothingLeft_NoHouse ?eI_NothingLeft_NoRow ?eI_NothingLeft_NoText ?eI_NothingLeft_TooMany ?eIV_NothingLeft
    (case aK=>k_is)
    (case aB=>k_is)
    (case a1=>k_is)
    (case l1=>(refine' L2.fun_in ?l ?c ?k; (case l=>k_is); (case c=>k_is); (case k=>k_is)))
    (case n1=>k_is)
    (case a2=>k_is)
    (case l2=>(refine' L2.fun_in ?l ?c ?k; (case l=>k_is); (case c=>k_is); (case k=>k_is)))
    (case a3=>k_is)
    (case l3=>(refine' L2.fun_in ?l ?c ?k; (case l=>k_is); (case c=>k_is); (case k=>k_is)))
    (case a4=>k_is)
    (case l4=>(refine' L2.fun_in ?l ?c ?k; (case l=>k_is); (case c=>k_is); (case k=>k_is)))
    (case a5=>k_is)
    (case l5=>(refine' L2.fun_in ?l ?c ?k; (case l=>k_is); (case c=>k_is); (case k=>k_is)))
    (case a6=>k_is)
    (case l6=>(refine' L2.fun_in ?l ?c ?k; (case l=>k_is); (case c=>k_is); (case k=>k_is)))
    (case a7=>k_is)
    (case l7=>(refine' L2.fun_in ?l ?c ?k; (case l=>k_is); (case c=>k_is); (case k=>k_is)))
    (case a8=>k_is)
    (case l8=>(refine' L2.fun_in ?l ?c ?k; (case l=>k_is); (case c=>k_is); (case k=>k_is)))
    (case n8=>k_is)
    (case a9=>k_is)
    (case l9=>(refine' L2.fun_in ?l ?c ?k; (case l=>k_is); (case c=>k_is); (case k=>k_is)))
    (case n9=>k_is)
    (case a10=>k_is)
    (case l10=>(refine' L2.fun_in ?l ?c ?k; (case l=>k_is); (case c=>k_is); (case k=>k_is)))
    (case n10=>k_is)
    (case a11=>k_is)
    (case l11=>(refine' L2.fun_in ?l ?c ?k; (case l=>k_is); (case c=>k_is); (case k=>k_is)))
    (case n11=>k_is)
    (case a12=>k_is)
    (case l12=>(refine' L2.fun_in ?l ?c ?k; (case l=>k_is); (case c=>k_is); (case k=>k_is)))
    (case a13=>k_is)
    (case l13=>(refine' L2.fun_in ?l ?c ?k; (case l=>k_is); (case c=>k_is); (case k=>k_is)))
    (case n13=>k_is)
    (case a14=>k_is)
    (case l14=>(refine' L2.fun_in ?l ?c ?k; (case l=>k_is); (case c=>k_is); (case k=>k_is)))
    (case n14=>k_is)
    (case a15=>k_is)
    (case l15=>(refine' L2.fun_in ?l ?c ?k; (case l=>k_is); (case c=>k_is); (case k=>k_is)))
    (case n15=>k_is)
    (case a16=>k_is)
    (case l16=>(refine' L2.fun_in ?l ?c ?k; (case l=>k_is); (case c=>k_is); (case k=>k_is)))
    (case a17=>k_is)
    (case l17=>(refine' L2.fun_in ?l ?c ?k; (case l=>k_is); (case c=>k_is); (case k=>k_is)))
    (case a18=>k_is)
    (case l18=>(refine' L2.fun_in ?l ?c ?k; (case l=>k_is); (case c=>k_is); (case k=>k_is)))
    (case a19=>k_is)
    (case l19=>(refine' L2.fun_in ?l ?c ?k; (case l=>k_is); (case c=>k_is); (case k=>k_is)))
    (case a20=>k_is)
    (case l20=>(refine' L2.fun_in ?l ?c ?k; (case l=>k_is); (case c=>k_is); (case k=>k_is)))
    (case a21=>k_is)
    (case l21=>(refine' L2.fun_in ?l ?c ?k; (case l=>k_is); (case c=>k_is); (case k=>k_is)))
    (case a22=>k_is)
    (case l22=>(refine' L2.fun_in ?l ?c ?k; (case l=>k_is); (case c=>k_is); (case k=>k_is)))
    (case a23=>k_is)
    (case l23=>(refine' L2.fun_in ?l ?c ?k; (case l=>k_is); (case c=>k_is); (case k=>k_is)))
    (case n23=>k_is)
    (case a24=>k_is)
    (case l24=>(refine' L2.fun_in ?l ?c ?k; (case l=>k_is); (case c=>k_is); (case k=>k_is)))
    (case a25=>k_is)
    (case l25=>(refine' L2.fun_in ?l ?c ?k; (case l=>k_is); (case c=>k_is); (case k=>k_is)))
    (case a26=>k_is)
    (case l26=>(refine' L2.fun_in ?l ?c ?k; (case l=>k_is); (case c=>k_is); (case k=>k_is)))
    (case n26=>k_is)
    (case a27=>k_is)
    (case l27=>(refine' L2.fun_in ?l ?c ?k; (case l=>k_is); (case c=>k_is); (case k=>k_is)))
    (case a28=>k_is)
    (case l28=>(refine' L2.fun_in ?l ?c ?k; (case l=>k_is); (case c=>k_is); (case k=>k_is)))
    (case a29=>k_is)
    (case l29=>(refine' L2.fun_in ?l ?c ?k; (case l=>k_is); (case c=>k_is); (case k=>k_is)))
    (case a30=>k_is)
    (case l30=>(refine' L2.fun_in ?l ?c ?k; (case l=>k_is); (case c=>k_is); (case k=>k_is)))
    (case a31=>k_is)
    (case l31=>(refine' L2.fun_in ?l ?c ?k; (case l=>k_is); (case c=>k_is); (case k=>k_is)))
    (case a32=>k_is)
    (case l32=>(refine' L2.fun_in ?l ?c ?k; (case l=>k_is); (case c=>k_is); (case k=>k_is)))
    (case n32=>k_is)
    (case a33=>k_is)
    (case l33=>(refine' L2.fun_in ?l ?c ?k; (case l=>k_is); (case c=>k_is); (case k=>k_is)))
    (case a34=>k_is)
    (case l34=>(refine' L2.fun_in ?l ?c ?k; (case l=>k_is); (case c=>k_is); (case k=>k_is)))
    (case n34=>k_is)
    (case a35=>k_is)
    (case l35=>(refine' L2.fun_in ?l ?c ?k; (case l=>k_is); (case c=>k_is); (case k=>k_is)))
    (case n35=>k_is)
    (case a36=>k_is)
    (case l36=>(refine' L2.fun_in ?l ?c ?k; (case l=>k_is); (case c=>k_is); (case k=>k_is)))
    (case a37=>k_is)
    (case l37=>(refine' L2.fun_in ?l ?c ?k; (case l=>k_is); (case c=>k_is); (case k=>k_is)))
    (case a38=>k_is)
    (case l38=>(refine' L2.fun_in ?l ?c ?k; (case l=>k_is); (case c=>k_is); (case k=>k_is)))
    (case a39=>k_is)
    (case l39=>(refine' L2.fun_in ?l ?c ?k; (case l=>k_is); (case c=>k_is); (case k=>k_is)))
    (case a40=>k_is)
    (case l40=>(refine' L2.fun_in ?l ?c ?k; (case l=>k_is); (case c=>k_is); (case k=>k_is)))
    (case a41=>k_is)
    (case l41=>(refine' L2.fun_in ?l ?c ?k; (case l=>k_is); (case c=>k_is); (case k=>k_is)))
    (case a42=>k_is)
    (case l42=>(refine' L2.fun_in ?l ?c ?k; (case l=>k_is); (case c=>k_is); (case k=>k_is)))
    (case a43=>k_is)
    (case l43=>(refine' L2.fun_in ?l ?c ?k; (case l=>k_is); (case c=>k_is); (case k=>k_is)))
    (case n43=>k_is)
    (case a44=>k_is)
    (case l44=>(refine' L2.fun_in ?l ?c ?k; (case l=>k_is); (case c=>k_is); (case k=>k_is)))
    (case n44=>k_is)
    (case a45=>k_is)
    (case l45=>(refine' L2.fun_in ?l ?c ?k; (case l=>k_is); (case c=>k_is); (case k=>k_is)))
    (case n45=>k_is)
    (case a46=>k_is)
    (case l46=>(refine' L2.fun_in ?l ?c ?k; (case l=>k_is); (case c=>k_is); (case k=>k_is)))
    (case a47=>k_is)
    (case l47=>k_is)
    (case c47=>k_is)
    (case k47=>k_is)
    (case z1=>k_is)
    (case z2=>k_is)
    (case z3=>k_is)
    (case z4=>k_is)
    (case z5=>k_is)
    (case z6=>k_is)
    (case z7=>k_is)
    (case z8=>k_is)
    (case z9=>k_is)
    (case z10=>k_is)
    (case z11=>k_is)
    (case z12=>k_is)
    (case z13=>k_is)
    (case z14=>k_is)
    (case z15=>k_is)
    (case z16=>k_is)
    (case z17=>k_is)
    (case bp=>k_is)
    (case bh=>k_is)
    (case bo=>k_is)
    (case bs=>k_is)
    (case b_many=>k_is)
    (case b_scale=>k_is)
    (case b_cells=>k_is)
    (case b_outs=>k_is)
    (case b_ins=>k_is)
    (case bm=>k_is)
    (case bk=>k_is)
    (case kp=>k_is)
    (case kh=>k_is)
    (case ko=>k_is)
    (case ks=>k_is)
    (case k_many_takes=>k_is)
    (case k_many_gives=>k_is)
    (case k_sizes=>k_is)
    (case k_there=>k_is)
    (case k_worth=>k_is)
    (case k_past=>k_is)
    (case km=>k_is)
    (case kk=>k_is)
    (case s1=>k_is)
    (case s3=>k_is)
    (case s4=>k_keys)
    (case sa0=>k_is)
    (case sb0=>k_is)
    (case sa1=>k_is)
    (case sb1=>k_is)
    (case sa2=>k_is)
    (case sb2=>k_is)
    (case sa3=>k_is)
    (case sb3=>k_is)
    (case xmNoHouse=>k_is)
    (case xoNoHouse=>k_exc)
    (case xgaNoHouse=>k_is)
    (case xgnNoHouse=>k_is)
    (case xcaNoHouse=>k_is)
    (case xmoNoHouse=>k_is)
    (case xmbNoHouse=>k_is)
    (case xmNoBook=>k_is)
    (case xoNoBook=>k_exc)
    (case xgaNoBook=>k_is)
    (case xgnNoBook=>k_is)
    (case xcaNoBook=>k_is)
    (case xmoNoBook=>k_is)
    (case xmbNoBook=>k_is)
    (case xmRimError=>k_is)
    (case xoRimError=>k_exc)
    (case xgaRimError=>k_is)
    (case xgnRimError=>k_is)
    (case xcaRimError=>k_is)
    (case xmoRimError=>k_is)
    (case xmbRimError=>k_is)
    (case xmNoRow=>k_is)
    (case xoNoRow=>k_exc)
    (case xgaNoRow=>k_is)
    (case xgnNoRow=>k_is)
    (case xcaNoRow=>k_is)
    (case xmoNoRow=>k_is)
    (case xmbNoRow=>k_is)
    (case xmNoText=>k_is)
    (case xoNoText=>k_exc)
    (case xgaNoText=>k_is)
    (case xgnNoText=>k_is)
    (case xcaNoText=>k_is)
    (case xmoNoText=>k_is)
    (case xmbNoText=>k_is)
    (case xmTooMany=>k_is)
    (case xoTooMany=>k_exc)
    (case xgaTooMany=>k_is)
    (case xgnTooMany=>k_is)
    (case xcaTooMany=>k_is)
    (case xmoTooMany=>k_is)
    (case xmbTooMany=>k_is)
    (case xmNothingLeft=>k_is)
    (case xoNothingLeft=>k_exc)
    (case xgaNothingLeft=>k_is)
    (case xgnNothingLeft=>k_is)
    (case xcaNothingLeft=>k_is)
    (case xmoNothingLeft=>k_is)
    (case xmbNothingLeft=>k_is)
    (case cmMOST_AMOUNT=>k_is)
    (case cmMOST_HOUSES=>k_is)
    (case zstr=>k_is)
    (case eSub_NoHouse=>k_is)
    (case eI_NoHouse_NoBook=>kit_is)
    (case eI_NoHouse_NoRow=>kit_is)
    (case eI_NoHouse_NoText=>kit_is)
    (case eI_NoHouse_TooMany=>kit_is)
    (case eI_NoHouse_NothingLeft=>kit_is)
    (case eIV_NoHouse=>kit_is)
    (case eSub_NoBook=>k_is)
    (case eI_NoBook_NoHouse=>kit_is)
    (case eI_NoBook_NoRow=>kit_is)
    (case eI_NoBook_NoText=>kit_is)
    (case eI_NoBook_TooMany=>kit_is)
    (case eI_NoBook_NothingLeft=>kit_is)
    (case eIV_NoBook=>kit_is)
    (case eSub_TooMany=>k_is)
    (case eI_TooMany_NoBook=>kit_is)
    (case eI_TooMany_NoHouse=>kit_is)
    (case eI_TooMany_NoRow=>kit_is)
    (case eI_TooMany_NoText=>kit_is)
    (case eI_TooMany_NothingLeft=>kit_is)
    (case eIV_TooMany=>kit_is)
    (case eSub_NothingLeft=>k_is)
    (case eI_NothingLeft_NoBook=>kit_is)
    (case eI_NothingLeft_NoHouse=>kit_is)
    (case eI_NothingLeft_NoRow=>kit_is)
    (case eI_NothingLeft_NoText=>kit_is)
    (case eI_NothingLeft_TooMany=>kit_is)
    (case eIV_NothingLeft=>kit_is)
  case C=>exact λ w t ht=>by rw [aY.mp ht]; exact ⟨by kernel_rfl,by kernel_rfl⟩
